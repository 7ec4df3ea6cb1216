import PyProof.Rows.All
import Wide.All
import OpenK.AllK
import Wide.FinOn
import Lean
import PyProof.EqAt
import PyProof.EqKinds
import PyProof.TupleCall
import PySem.Challenge.RW_pocketmill_k53_tables_looked_through
set_option compiler.extract_closed false
set_option genSizeOf false
set_option bootstrap.genMatcherCode false
set_option Elab.async false
set_option linter.all false
set_option maxRecDepth 100000
set_option maxHeartbeats 4000000
open Lean Parser.Tactic in
local macro_rules|`(tactic|let⟨$a,*⟩:=$e)=>do
 let p<-(<-`(⟨$a,*⟩)).raw.rewriteBottomUpM fun s=>do match s with
  |`(⟨$a,*⟩)=>let b<-a.getElems.mapM fun x=>`(rcasesPatLo|$(⟨x⟩):rcasesPat);`(rcasesPat|⟨$b,*⟩)
  |`(_)=>`(rcasesPat|_)
  |_=>if s.isIdent then `(rcasesPat|$(⟨s⟩):ident) else pure s
 `(tactic|obtain $(⟨p⟩):rcasesPat:=$e)
local macro_rules|`(!$x)=>`(some $x)
open Lean Parser.Command in
local macro_rules|`($m:declModifiers def%$t $i $s:optDeclSig $v:declVal)=>do
 unless t.getTrailingSize==1 do Macro.throwUnsupported
 return mkNode ``declaration #[m,mkNode ``«theorem» #[mkAtom "theorem",i,mkNode ``declSig #[s.raw[0],s.raw[1][0]],v]]
set_option hygiene false
local macro_rules|`(!1)=>`(by omega)
local macro_rules|`(!2)=>`(by decide)
local macro_rules|`(!3)=>`(by kernel_rfl)
local macro_rules|`(!4)=>`(model X.prog X.w)
local macro_rules|`(!5)=>`(ps.drop t)
local macro_rules|`(!6)=>`(model prog w)
local macro_rules|`(!7)=>`(x==("__debug__":Str))
local macro_rules|`(!8)=>`(r.map λ(k:Nat)=>D.int (k:Int))
local macro_rules|`(!9)=>`(.ListComp elt [⟨tg,iter,ifs,0⟩] scope pos)
local macro_rules|`(!10)=>`(fin_bl I q (by simp))
local macro_rules|`(!11)=>`(cZ q g body scope j ((X.mg "__name__").getD .none) p l)
local macro_rules|`(!12)=>`(n6 X scope C s H fp)
local macro_rules|`(!13)=>`(s.heap.objs.size+1)
local macro_rules|`(!14)=>`(backTo pos (starEach es X.env))
local macro_rules|`(!15)=>`(x==("__classdict__":Str))
local macro_rules|`(!16)=>`(x1 (va 4))
local macro_rules|`(!17)=>`(by decide+kernel)
local macro_rules|`(!18)=>`(.Call (.Name x p) (e::es) [] pos)
local macro_rules|`(!19)=>`(aB false)
local macro_rules|`(!20)=>`(List.range n)
set_option hygiene true
noncomputable section
namespace HD
open PySem PySem.W PyProof.Rows
noncomputable abbrev S0(w:World)(os:OsState):Shared:=⟨boot_heap w.params,Array.mk [],boot_drawn,boot_toks,os⟩
def left_of{Ya:World->α}{F:World->OsState->Shared}(o:∀w:World,(fencedOpening treeTable p w N).map (λs=>(s.heap,s.gens,s.drawn,s.toks))=!(boot_heap w.params,Array.mk [],boot_drawn,boot_toks))(sz:∀w:World,(boot_heap w.params).isNs mainGlobals=true/\(boot_heap w.params).objs.size=m₀/\(boot_heap w.params).nsMap mainGlobals "__annotations__"=ann)(rn:∀w os,topRun treeTable p w m₀ ann M (S0 w os) (topStub p)=!(F w os))(le:M<=N)(lk:∀w os,((staticsOk (importedModules p.main.body) (boot_heap w.params) (F w os).heap&&namesBound p (F w os).heap&&gensDone (F w os)&&laidKept (boot_heap w.params) (F w os).heap),openSeen q loose (importedModules p.main.body) Xt true (F w os),Yf (F w os))=(true,openGood q loose,Ya w)):
  LeftO p q loose Xt Yf Ya N:=by
 intro w
 let⟨s,e,e'⟩:=Option.map_eq_some_iff.mp (o w)
 cases s with
 |mk h gs d k os=>
 simp only[Prod.mk.injEq]at e'
 let⟨a1,a2,a3,a4⟩:=e'
 subst a1 a2 a3 a4
 let⟨z1,z2,z3⟩:=sz w
 have l:=lk w os
 simp only[Prod.mk.injEq]at l
 let⟨l1,l2,l3⟩:=l
 have r:=topRun_mono (N-M) _ _ _ _ (rn w os)
 rw[show M+(N-M)=N from Nat.add_sub_cancel' le]at r
 have t:topFrom treeTable p w N (S0 w os)=!(F w os):=by
  unfold topFrom;rw[z2,z3];rw[r];simp only[z1];show(match(staticsOk (importedModules p.main.body) (boot_heap w.params) (F w os).heap&&namesBound p (F w os).heap&&gensDone (F w os)&&laidKept (boot_heap w.params) (F w os).heap)with|true=>_|false=>_)=_;rw[l1]
 unfold openEnds
 rw[e]
 show Option.map _ (topFrom treeTable p w N (S0 w os))=_
 rw[t]
 exact congrArg some (Prod.ext l2 l3)
abbrev LQ:=@PySem.W.Fast.tw10110043849684766642
abbrev LR:=@PySem.W.Fast.tw14364793385576792824
abbrev Aq:=@PySem.W.Fast.tw12563942051412417395
def LS:@segRunT=@LQ:=PySem.W.Fast.te10110043849684766642
def LU:@treeTable=@LR:=PySem.W.Fast.te14364793385576792824
def Ec:@execs=@Aq:=PySem.W.Fast.te12563942051412417395
noncomputable def  put:List Obj->Nat->BT->BT
 |[],_,t=>t
 |o::l,i,t=>put l (i+1) (t.ins i o)
def  toT(s:Shared):SharedT:=⟨put s.heap.objs.toList 0 .nil,s.heap.objs.size,s.heap.life,s.gens,s.drawn,s.toks,s.os⟩
def  SI(d:Shared):Option (Shared×Thread)->Shared
 |some (s,_)=>s
 |none=>d
noncomputable def  LA(d:Shared):Option (Flow×Shared×Code×Pos)->Shared
 |some (_,s,_)=>s
 |none=>d
noncomputable def  Ho(d:SharedT):Option (Flow×SharedT×Code×Pos)->SharedT
 |some (_,s,_)=>s
 |none=>d
def T0(h:o.map (·.2)=!t):o=!(SI d o,t):=by
 cases o with
 |none=>cases h
 |some z=>cases h;rfl
def T1(h:o.map (λr=>(r.1,r.2.2))=!(f,c,q)):o=!(f,LA d o,c,q):=by
 cases o with
 |none=>cases h
 |some z=>let⟨a,b,x,y⟩:=z;cases h;rfl
def T3(h:o.map (λr=>(r.1,r.2.2))=!(f,c,q)):o=!(f,Ho d o,c,q):=by
 cases o with
 |none=>cases h
 |some z=>let⟨a,b,x,y⟩:=z;cases h;rfl
section
variable(p:Program)(m₀:Nat)(ann:Option Value)(env:Env)(q pa pb:Pos)(k1 k2 k3:Nat)
abbrev cd:Code:=.body (behindTheImports p) env
def  A(w:World)(os:OsState):Option (Shared×Thread):=topGo treeTable p w m₀ ann k1 (S0 w os) (topStub p)
def  SA(w:World)(os:OsState):Shared:=SI (S0 w os) (A p m₀ ann k1 w os)
def  B(w:World)(os:OsState):Option (Flow×Shared×Code×Pos):=segRun treeTable p w m₀ ann 1 k2 (SA p m₀ ann k1 w os) (blockOf (behindTheImports p) env (cd p env) pa [topFrame q])
def  SB(w:World)(os:OsState):Shared:=LA (S0 w os) (B p m₀ ann env q pa k1 k2 w os)
def  C(w:World)(os:OsState):Option (Flow×SharedT×Code×Pos):=LQ LR p w m₀ ann 1 k3 (toT (SB p m₀ ann env q pa k1 k2 w os)) ⟨(Aq (behindTheImports p) env).wrap doneF deadEnd id id,cd p env,pb,[topFrame q]⟩
def LV(w:World)(os:OsState):C p m₀ ann env q pa pb k1 k2 k3 w os=segRunT treeTable p w m₀ ann 1 k3 (toT (SB p m₀ ann env q pa k1 k2 w os)) (piecesOf (behindTheImports p) env (cd p env) pb [topFrame q]):=by
 unfold C piecesOf;rw[LS,LU,Ec]
def  SC(w:World)(os:OsState):SharedT:=Ho (toT (S0 w os)) (C p m₀ ann env q pa pb k1 k2 k3 w os)
end
def run_of(hA:∀w os,(A p m₀ ann k1 w os).map (·.2)=!⟨denote treeTable (cd p env),cd p env,pa,[topFrame q]⟩)(hB:∀w os,(B p m₀ ann env q pa k1 k2 w os).map (λr=>(r.1,r.2.2))=!(.next,cd p env,pb))(hT:∀w os,(toT (SB p m₀ ann env q pa k1 k2 w os)).abs=SB p m₀ ann env q pa k1 k2 w os)(hC:∀w os,(C p m₀ ann env q pa pb k1 k2 k3 w os).map (λr=>(r.1,r.2.2))=!(.next,cd p env,pc))(hF:∀w s,topRun treeTable p w m₀ ann k4 s ⟨doneF .next,cd p env,pc,[topFrame q]⟩=!s)(w:World)(os:OsState):
  topRun treeTable p w m₀ ann (k1+(k2+(k3+k4))) (S0 w os) (topStub p)=some (SC p m₀ ann env q pa pb k1 k2 k3 w os).abs:=by
 have a:=T0 (d:=S0 w os) (hA w os)
 have b:=T1 (d:=S0 w os) (hB w os)
 have c:=T3 (d:=toT (S0 w os)) (hC w os)
 rw[LV]at c
 have c:=segRun_of c
 rw[hT]at c
 rw[<-LV]at c
 refine go_top a (piece_block b ?_)
 have k:=piece_app c (piece_nil (hF w _))
 rw[List.append_nil]at k
 exact k
end HD
open List (length_map set_cons_succ set_cons_zero size_toArray getElem?_map getElem?_eq_getElem mem_cons_self mem_cons_of_mem mem_append_right length_append mem_of_getElem? length_range getElem?_append_left mem_singleton length_cons mem_append getElem?_append_right mem_cons mem_append_left)
open Option (map_some)
open PySem.W (nsIn findIn Frag)
open Bool (and_eq_true)
open Nat (lt_of_lt_of_le le_refl lt_of_le_of_lt)
namespace L2
open PySem PySem.Spec PyProof.Rows
abbrev _root_.Vj:=Option Int
abbrev _root_.Vh:=List Expr
abbrev _root_.Vf:=Array Value
abbrev _root_.Ve:=Addr->Bool
abbrev _root_.Vd:=List Int
abbrev _root_.Vc:=List Str
abbrev _root_.Vb:=List Nat
abbrev _root_.Va:=Option Value
abbrev _root_.U9:=List Value
abbrev _root_.U8:=Value->Shared->Prop
abbrev _root_.U5:=List (Addr×Obj)
abbrev _root_.VJ:=@wpAny_mono
abbrev _root_.VI:=@le_refl
abbrev _root_.VH:=@mem_of_getElem?
abbrev _root_.VG:=@List.mem_range
abbrev _root_.VF:=@Nat.le_of_lt
abbrev _root_.VD:=@Nat.lt_irrefl
abbrev _root_.VC:=@mem_append_right
abbrev _root_.VB:=@mem_append_left
abbrev _root_.VA:=@wpAny_of_eq
abbrev _root_.Vz:=@List.mem_map
abbrev _root_.Vy:=@Nat.ne_of_lt
abbrev _root_.Vx:=@Nat.le_trans
abbrev _root_.Vw:=@lt_of_le_of_lt
abbrev _root_.Vu:=@lt_of_lt_of_le
abbrev _root_.Vt:=@of_decide_eq_true
abbrev _root_.Vs:=@mem_cons_of_mem
abbrev _root_.Vr:=@mem_cons_self
abbrev _root_.Vq:=@List.getElem?_eq_some_iff
abbrev _root_.Vp:=@Bool.false_ne_true
abbrev _root_.Vo:=@Heap.get?_push_size
abbrev _root_.Vn:=@Heap.lt_size
abbrev _root_.Vm:=@wpAny_pure
abbrev _root_.Vl:=@Heap.get?_push_of_some
abbrev _root_.Vk:=@wpAny_bind
noncomputable def  jc(s:Stmt)(j:Nat):Stmt:=match s with
 |.ClassDef _ _ _ body _ _ _ _ _ _ _=>body.getD j (.Pass ⟨0,0,0,0⟩)
 |_=>.Pass ⟨0,0,0,0⟩
noncomputable def  bJ(s:Stmt):Arguments:=match s with
 |.FunctionDef _ a _ _ _ _ _ _ _ _=>a
 |_=>{posonlyargs:=[],args:=[],vararg:=none,kwonlyargs:=[],kw_defaults:=[],kwarg:=none,defaults:=[]}
noncomputable def  aO(s:Stmt):List Stmt:=match s with
 |.FunctionDef _ _ b _ _ _ _ _ _ _=>b
 |_=>[]
noncomputable def  ah(s:Stmt):Scope:=match s with
 |.FunctionDef _ _ _ _ _ _ sc _ _ _=>sc
 |_=>{kind:=.function,names:=[],isGenerator:=false,isCoroutine:=false}
end L2
namespace K16
open PySem PySem.Spec PyProof.Rows L2
noncomputable def  top(i:Nat):Stmt:=PySem.Challenge.pw_pocketmill_k53_tables_looked_through.main.body.getD i (.Pass ⟨0,0,0,0⟩)
abbrev jJ:Stmt:=top 17
abbrev jK:Stmt:=top 19
abbrev mq:Stmt:=top 20
abbrev kA:Stmt:=top 22
abbrev iC:Stmt:=top 21
abbrev aI:Stmt:=jc (top 23) 0
abbrev mv:Stmt:=top 18
abbrev bG:Stmt:=jc (top 23) 2
abbrev mw:Stmt:=top 24
abbrev jL:Stmt:=top 30
abbrev eH:Stmt:=top 31
abbrev kI:Stmt:=top 38
abbrev eI:Stmt:=top 39
abbrev fB:Stmt:=top 40
abbrev aV:Stmt:=jc (top 60) 6
abbrev fQ:Stmt:=top 41
abbrev bg:Stmt:=jc (top 60) 1
abbrev kJ:Stmt:=top 43
abbrev mx:Stmt:=top 32
abbrev tD:Stmt:=top 26
abbrev gp:Stmt:=top 34
abbrev iD:Stmt:=top 35
abbrev ib:Stmt:=top 36
abbrev jM:Stmt:=top 42
abbrev bq:Stmt:=jc (top 23) 1
abbrev gq:Stmt:=top 25
abbrev jN:Stmt:=top 27
abbrev iE:Stmt:=top 44
abbrev iF:Stmt:=top 45
abbrev dR:Stmt:=top 46
abbrev iG:Stmt:=top 47
abbrev ic:Stmt:=top 48
abbrev iH:Stmt:=top 49
abbrev ie:Stmt:=top 50
abbrev kK:Stmt:=top 53
abbrev eJ:Stmt:=top 54
abbrev iI:Stmt:=top 55
abbrev bu:Stmt:=top 56
abbrev gt:Stmt:=top 57
abbrev jO:Stmt:=top 58
abbrev iJ:Stmt:=top 59
abbrev aJ:Stmt:=jc (top 60) 0
abbrev gu:Stmt:=top 62
abbrev jP:Stmt:=top 63
abbrev iK:Stmt:=top 64
abbrev gv:Stmt:=top 65
abbrev ii:Stmt:=top 66
abbrev gw:Stmt:=top 67
abbrev ij:Stmt:=top 68
abbrev im:Stmt:=top 69
abbrev iL:Stmt:=top 70
abbrev iM:Stmt:=top 71
abbrev iO:Stmt:=top 72
abbrev jQ:Stmt:=top 73
abbrev jS:Stmt:=top 74
abbrev iP:Stmt:=top 75
abbrev eP:Stmt:=top 76
abbrev io:Stmt:=top 77
abbrev kL:Stmt:=top 78
def  Q:Program:={PySem.Challenge.pw_pocketmill_k53_tables_looked_through with main:={PySem.Challenge.pw_pocketmill_k53_tables_looked_through.main with body:=[top 0,top 2,top 3,top 4,top 5,top 6,top 7,top 8,top 9,top 11,top 12,top 13,top 14,top 15,top 16,top 17,top 18,top 19,top 20,top 21,top 22,top 23,top 24,top 25,top 26,top 27,top 29,top 30,top 31,top 32,top 34,top 35,top 36,top 38,top 39,top 40,top 41,top 42,top 43,top 44,top 45,top 46,top 47,top 48,top 49,top 50,top 52,top 53,top 54,top 55,top 56,top 57,top 58,top 59,top 60,top 62,top 63,top 64,top 65,top 66,top 67,top 68,top 69,top 70,top 71,top 72,top 73,top 74,top 75,top 76,top 77,top 78]}}
noncomputable abbrev kH(P:Params)(x:Str)(n:Nat)(v:Value):DictEntry:=⟨PyData.keyHash P x,(.str x n),v⟩
noncomputable abbrev kC(x:Str)(a:Nat)(y:Str)(b c:Nat)(i j k l m:Int)(r:Nat)(n:Int)(p:Nat)(v q s t:Value)(u w:Int)(d:Nat):Obj:=⟨(.type "code"),none,(.fields #[(.str x a),(.str y b),(.str "/claim/cut.py" c),(.int i 0),(.int j 0),(.int k 0),(.int l 0),(.int m 0),(.ref r),(.bool true),(.int n 0),(.ref p),v,q,s,t,(.int u 0),(.int w 0),(.str "/claim/cut.py" d)]),#[]⟩
abbrev kF(x y:Str)(st:Stmt)(z:Str)(n r:Nat):Obj:=⟨(.type "function"),none,(.func (PySem.W.fnOf x y (bJ st) (aO st) (ah st) .none .none .none (.str z n) none (.ref r) .none)),#[]⟩
abbrev jd:Str:="law_pocketmill_k53_tables_looked_through"
abbrev LB:Str:="pocketmill.least"
abbrev nR:Str:="pocketmill.mills"
abbrev my:Str:="pocketmill.prices"
abbrev LC:Str:="pocketmill.trays"
abbrev vp:Str:="pocketmill.wishes"
abbrev kD(x:Str)(a:Nat)(i j:Int)(r:Nat)(e:Int):Obj:=kC x a x (a+1) (a+2) i j 0 0 3 r 181 (r+1) .none (.ref (r+2)) (.ref (r+3)) (.ref (r+4)) e i (e+1).toNat
abbrev kE(x:Str)(a:Nat)(i j:Int)(r:Nat)(e:Int):Obj:=kC x a x (a+1) (a+2) i j 0 0 3 r 181 (r+1) .none .none .none (.ref (r+2)) e i (e+1).toNat
abbrev kG(x:Str)(st:Stmt)(z:Str)(n r:Nat):Obj:=kF x x st z n r
def  KK(P:Params):Frag:=[(2,⟨.none,none,(.dict #[] 0),#[]⟩),(3,⟨(.type "dict"),none,(.dict #[(kH P "__name__" 165 (.str "law_pocketmill_k53_tables_looked_through" 769)),(kH P "__doc__" 166 .none),(kH P "__package__" 167 .none),(kH P "__loader__" 168 (.builtin "__main__.__loader__#opaque")),(kH P "__spec__" 169 .none),(kH P "__annotations__" 170 (.ref 6)),(kH P "__builtins__" 171 (.ref 4)),(kH P "__file__" 173 (.str "/claim/cut.py" 172)),(kH P "__cached__" 174 .none),(kH P "_wall" 193 (.ref 21)),(kH P "MillError" 213 (.ref 31)),(kH P "BadMill" 229 (.ref 44)),(kH P "BadLate" 245 (.ref 56)),(kH P "BadCode" 261 (.ref 68)),(kH P "BadLetters" 277 (.ref 80)),(kH P "BadWish" 293 (.ref 92)),(kH P "BadPrices" 309 (.ref 104)),(kH P "NotOneOrder" 325 (.ref 116)),(kH P "KINDS" 330 (.ref 119)),(kH P "MOST_PASSES" 332 (.int 6 331)),(kH P "MOST_POCKETS" 334 (.int 6 333)),(kH P "MOST_WIDTH" 336 (.int 9 335)),(kH P "MOST_CODES" 338 (.int 1000 337)),(kH P "MOST_SIZE" 340 (.int 9 339)),(kH P "is_within" 349 (.ref 126)),(kH P "is_size" 356 (.ref 133)),(kH P "is_pocket" 363 (.ref 140)),(kH P "is_pass" 369 (.ref 145)),(kH P "are_passes" 375 (.ref 150)),(kH P "codes_of" 384 (.ref 157)),(kH P "Mill" 425 (.ref 186)),(kH P "is_late" 433 (.ref 197)),(kH P "look_at_late" 441 (.ref 204)),(kH P "laid" 450 (.ref 211)),(kH P "code_word" 464 (.ref 218)),(kH P "MOST_LETTERS" 468 (.int 24 467)),(kH P "is_letter" 476 (.ref 225)),(kH P "look_at_letters" 482 (.ref 230)),(kH P "rank_of" 490 (.ref 237)),(kH P "sides_behind" 498 (.ref 242)),(kH P "open_sides" 510 (.ref 249)),(kH P "open_places" 516 (.ref 254)),(kH P "is_price" 525 (.ref 261)),(kH P "are_pass_prices" 531 (.ref 266)),(kH P "look_at_prices" 537 (.ref 271)),(kH P "look_at_order" 544 (.ref 278)),(kH P "word_cost" 550 (.ref 283)),(kH P "order_of" 556 (.ref 288)),(kH P "place_word" 566 (.ref 295)),(kH P "place_cost" 577 (.ref 302)),(kH P "places_and_costs" 583 (.ref 307)),(kH P "row_behind" 596 (.ref 314)),(kH P "least_table" 609 (.ref 321)),(kH P "table_cost" 615 (.ref 326)),(kH P "table_shows" 629 (.ref 333)),(kH P "GROUP_KINDS" 635 (.ref 334)),(kH P "is_group" 641 (.ref 339)),(kH P "grouped_letters" 651 (.ref 346)),(kH P "are_groups" 657 (.ref 351)),(kH P "as_they_come" 666 (.ref 358)),(kH P "group_levels" 672 (.ref 363)),(kH P "levels_of" 683 (.ref 370)),(kH P "numbers_of" 694 (.ref 377)),(kH P "Wish" 768 (.ref 430)),(kH P "_law_cell_at" 778 (.ref 441)),(kH P "_law_part" 787 (.ref 448)),(kH P "_law_cells" 793 (.ref 453)),(kH P "_law_pockets" 804 (.ref 460)),(kH P "_law_passes" 810 (.ref 465)),(kH P "_law_letters" 824 (.ref 472)),(kH P "_law_prices" 838 (.ref 479)),(kH P "_law_groups" 852 (.ref 486)),(kH P "_law_order" 858 (.ref 491)),(kH P "_law_words" 870 (.ref 498)),(kH P "_law_place" 886 (.ref 505)),(kH P "_law_open" 892 (.ref 510)),(kH P "_law_cost" 898 (.ref 515)),(kH P "_law_table" 904 (.ref 520)),(kH P "_law_spoilt_row" 916 (.ref 527)),(kH P "_law_spoilt" 922 (.ref 532)),(kH P "law" 928 (.ref 537))] 81),#[]⟩),(4,⟨(.type "module"),(some 0),.plain,#[]⟩),(119,⟨(.type "tuple"),none,(.seq #[(.str "queue" 328),(.str "pile" 329)] 0),#[]⟩),(125,kD "is_within" 341 28 3 120 347),(126,kG "is_within" jJ nR 326 125),(132,kD "is_size" 350 30 1 127 354),(133,kG "is_size" mv nR 326 132),(139,kD "is_pocket" 357 32 1 134 361),(140,kG "is_pocket" jK nR 326 139),(144,kE "is_pass" 364 36 1 141 367),(145,kG "is_pass" mq nR 326 144),(149,kE "are_passes" 370 40 1 146 373),(150,kG "are_passes" iC nR 326 149),(156,kD "codes_of" 376 44 1 151 382),(157,kG "codes_of" kA nR 326 156),(168,(kC "__init__" 397 "Mill.__init__" 398 399 51 2 0 0 3 165 181 166 .none .none .none (.ref 167) 400 51 401)),(169,kF "__init__" "Mill.__init__" aI nR 326 168),(175,(kC "codes" 403 "Mill.codes" 404 405 56 1 0 0 3 170 181 171 .none (.ref 172) (.ref 173) (.ref 174) 407 56 408)),(176,kF "codes" "Mill.codes" bq nR 326 175),(182,(kC "many" 410 "Mill.many" 411 412 59 1 0 0 3 177 181 178 .none (.ref 179) (.ref 180) (.ref 181) 414 59 415)),(183,kF "many" "Mill.many" bG nR 326 182),(184,⟨(.type "tuple"),none,(.seq #[(.str "passes" 417)] 0),#[]⟩),(185,⟨(.type "dict"),none,(.dict #[(kH P "__module__" 392 (.str "pocketmill.mills" 326)),(kH P "__firstlineno__" 396 (.int 49 395)),(kH P "__init__" 402 (.ref 169)),(kH P "codes" 409 (.ref 176)),(kH P "many" 416 (.ref 183)),(kH P "__static_attributes__" 418 (.ref 184)),(kH P "__dict__" 420 (.ref 187)),(kH P "__weakref__" 422 (.ref 188)),(kH P "__doc__" 423 .none)] 4),#[]⟩),(186,⟨(.type "type"),none,(.cls ⟨"Mill",[(.type "object")],[(.ref 186),(.type "object")],185,"Mill",true,[],[],false,none,false⟩),#[none,none,(!(.str "Mill" 385)),(!(.str "Mill" 393)),(!(.builtin "object.__new__")),(!(.bool true))]⟩),(187,⟨(.type "getset_descriptor"),none,(.fields #[(.str "__dict__" 419),(.ref 186),(.builtin "function.__dict__"),(.builtin "function.__dict__#set")]),#[]⟩),(188,⟨(.type "getset_descriptor"),none,(.fields #[(.str "__weakref__" 421),(.ref 186),(.builtin "ExceptionGroup.__weakref__"),.none]),#[]⟩),(196,kD "is_late" 426 61 2 191 431),(197,kG "is_late" mw nR 326 196),(203,kD "look_at_late" 434 63 2 198 439),(204,kG "look_at_late" gq nR 326 203),(210,kD "laid" 442 66 3 205 448),(211,kG "laid" tD nR 326 210),(217,kD "code_word" 451 68 3 212 462),(218,kG "code_word" jN nR 326 217),(224,kD "is_letter" 469 85 2 219 474),(225,kG "is_letter" jL LC 465 224),(229,kE "look_at_letters" 477 89 2 226 480),(230,kG "look_at_letters" eH LC 465 229),(236,kD "rank_of" 483 94 2 231 488),(237,kG "rank_of" mx LC 465 236),(241,kE "sides_behind" 493 97 4 238 496),(242,kG "sides_behind" gp LB 491 241),(248,kD "open_sides" 499 104 3 243 508),(249,kG "open_sides" iD LB 491 248),(253,kE "open_places" 511 111 3 250 514),(254,kG "open_places" ib LB 491 253),(260,kD "is_price" 519 116 1 255 523),(261,kG "is_price" kI my 517 260),(265,kE "are_pass_prices" 526 118 2 262 529),(266,kG "are_pass_prices" eI my 517 265),(270,kE "look_at_prices" 532 122 2 267 535),(271,kG "look_at_prices" fB my 517 270),(277,kD "look_at_order" 538 127 1 272 542),(278,kG "look_at_order" fQ my 517 277),(282,kE "word_cost" 545 130 3 279 548),(283,kG "word_cost" jM my 517 282),(287,kE "order_of" 551 132 1 284 554),(288,kG "order_of" kJ my 517 287),(294,kD "place_word" 557 134 4 289 564),(295,kG "place_word" iE my 517 294),(301,kD "place_cost" 567 136 5 296 575),(302,kG "place_cost" iF my 517 301),(306,kE "places_and_costs" 578 138 4 303 581),(307,kG "places_and_costs" dR my 517 306),(313,kD "row_behind" 584 141 2 308 594),(314,kG "row_behind" iG my 517 313),(320,kD "least_table" 597 152 4 315 607),(321,kG "least_table" ic my 517 320),(325,kE "table_cost" 610 161 1 322 613),(326,kG "table_cost" iH my 517 325),(332,kD "table_shows" 616 165 6 327 627),(333,kG "table_shows" ie my 517 332),(334,⟨(.type "tuple"),none,(.seq #[(.str "any" 632),(.str "come" 633),(.str "row" 634)] 0),#[]⟩),(338,kE "is_group" 636 171 2 335 639),(339,kG "is_group" kK vp 630 338),(345,kD "grouped_letters" 642 177 1 340 649),(346,kG "grouped_letters" eJ vp 630 345),(350,kE "are_groups" 652 182 2 347 655),(351,kG "are_groups" iI vp 630 350),(357,kD "as_they_come" 658 186 2 352 664),(358,kG "as_they_come" bu vp 630 357),(362,kE "group_levels" 667 188 3 359 670),(363,kG "group_levels" gt vp 630 362),(369,kD "levels_of" 673 193 2 364 681),(370,kG "levels_of" jO vp 630 369),(376,kD "numbers_of" 684 198 1 371 692),(377,kG "numbers_of" iJ vp 630 376),(388,(kC "__init__" 707 "Wish.__init__" 708 709 206 3 0 0 3 385 181 386 .none .none .none (.ref 387) 710 206 711)),(389,kF "__init__" "Wish.__init__" aJ vp 630 388),(393,(kC "levels" 713 "Wish.levels" 714 715 213 1 0 0 3 390 181 391 .none .none .none (.ref 392) 716 213 717)),(394,kF "levels" "Wish.levels" bg vp 630 393),(400,(kC "level_of" 719 "Wish.level_of" 720 721 216 2 0 0 3 395 181 396 .none (.ref 397) (.ref 398) (.ref 399) 724 216 725)),(407,(kC "behind" 727 "Wish.behind" 728 729 219 3 0 0 3 402 181 403 .none (.ref 404) (.ref 405) (.ref 406) 733 219 734)),(414,(kC "breach" 736 "Wish.breach" 737 738 222 2 0 0 3 409 181 410 .none (.ref 411) (.ref 412) (.ref 413) 741 222 742)),(421,(kC "kept_by" 744 "Wish.kept_by" 745 746 225 2 0 0 3 416 181 417 .none (.ref 418) (.ref 419) (.ref 420) 749 225 750)),(426,(kC "one_order" 752 "Wish.one_order" 753 754 228 1 0 0 3 423 181 424 .none .none .none (.ref 425) 755 228 756)),(427,kF "one_order" "Wish.one_order" aV vp 630 426),(428,⟨(.type "tuple"),none,(.seq #[(.str "groups" 758),(.str "level_letters" 759),(.str "level_numbers" 760)] 0),#[]⟩),(429,⟨(.type "dict"),none,(.dict #[(kH P "__module__" 702 (.str "pocketmill.wishes" 630)),(kH P "__firstlineno__" 706 (.int 204 705)),(kH P "__init__" 712 (.ref 389)),(kH P "levels" 718 (.ref 394)),(kH P "level_of" 726 (.ref 401)),(kH P "behind" 735 (.ref 408)),(kH P "breach" 743 (.ref 415)),(kH P "kept_by" 751 (.ref 422)),(kH P "one_order" 757 (.ref 427)),(kH P "__static_attributes__" 761 (.ref 428)),(kH P "__dict__" 763 (.ref 431)),(kH P "__weakref__" 765 (.ref 432)),(kH P "__doc__" 766 .none)] 4),#[]⟩),(430,⟨(.type "type"),none,(.cls ⟨"Wish",[(.type "object")],[(.ref 430),(.type "object")],429,"Wish",true,[],[],false,none,false⟩),#[none,none,(!(.str "Wish" 695)),(!(.str "Wish" 703)),(!(.builtin "object.__new__")),(!(.bool true))]⟩),(431,⟨(.type "getset_descriptor"),none,(.fields #[(.str "__dict__" 762),(.ref 430),(.builtin "function.__dict__"),(.builtin "function.__dict__#set")]),#[]⟩),(432,⟨(.type "getset_descriptor"),none,(.fields #[(.str "__weakref__" 764),(.ref 430),(.builtin "ExceptionGroup.__weakref__"),.none]),#[]⟩),(440,kD "_law_cell_at" 771 231 2 435 776),(441,kG "_law_cell_at" gu jd 769 440),(447,kD "_law_part" 779 235 2 442 785),(448,kG "_law_part" jP jd 769 447),(452,kE "_law_cells" 788 239 2 449 791),(453,kG "_law_cells" iK jd 769 452),(459,kD "_law_pockets" 794 253 1 454 802),(460,kG "_law_pockets" gv jd 769 459),(464,kE "_law_passes" 805 260 2 461 808),(465,kG "_law_passes" ii jd 769 464),(471,kD "_law_letters" 811 262 4 466 822),(472,kG "_law_letters" gw jd 769 471),(478,kD "_law_prices" 825 269 3 473 836),(479,kG "_law_prices" ij jd 769 478),(485,kD "_law_groups" 839 280 3 480 850),(486,kG "_law_groups" im jd 769 485),(490,kE "_law_order" 853 294 2 487 856),(491,kG "_law_order" iL jd 769 490),(497,kD "_law_words" 859 302 1 492 868),(498,kG "_law_words" iM jd 769 497),(504,kD "_law_place" 871 311 4 499 884),(505,kG "_law_place" iO jd 769 504),(509,kE "_law_open" 887 325 3 506 890),(510,kG "_law_open" jQ jd 769 509),(514,kE "_law_cost" 893 332 3 511 896),(515,kG "_law_cost" jS jd 769 514),(519,kE "_law_table" 899 334 4 516 902),(520,kG "_law_table" iP jd 769 519),(526,kD "_law_spoilt_row" 905 348 4 521 914),(527,kG "_law_spoilt_row" eP jd 769 526),(531,kE "_law_spoilt" 917 361 2 528 920),(532,kG "_law_spoilt" io jd 769 531),(536,kE "law" 923 374 1 533 926),(537,kG "law" kL jd 769 536)]
def  KT(P:Params):Frag:=(353,⟨.none,none,.fields #[],#[]⟩)::KK P
noncomputable def  adr:List Addr:=[353,2,3,4,119,125,126,132,133,139,140,144,145,149,150,156,157,168,169,175,176,182,183,184,185,186,187,188,196,197,203,204,210,211,217,218,224,225,229,230,236,237,241,242,248,249,253,254,260,261,265,266,270,271,277,278,282,283,287,288,294,295,301,302,306,307,313,314,320,321,325,326,332,333,334,338,339,345,346,350,351,357,358,362,363,369,370,376,377,388,389,393,394,400,407,414,421,426,427,428,429,430,431,432,440,441,447,448,452,453,459,460,464,465,471,472,478,479,485,486,490,491,497,498,504,505,509,510,514,515,519,520,526,527,531,532,536,537]
def adr_ok(P:Params):adr=(KT P).map (·.1):=by kernel_rfl
abbrev NN:Nat:=8350
noncomputable def  env0:Env:={scope:=PySem.Challenge.pw_pocketmill_k53_tables_looked_through.main.scope,locals:=mainNs,globals:=mainNs,cells:=[],code:=(.ref 13),frame:=some 14}
def Im:∀w:World,(PySem.W.fencedOpening treeTable PySem.Challenge.pw_pocketmill_k53_tables_looked_through w NN).map (λs=>(s.heap,s.gens,s.drawn,s.toks))=!(PySem.W.boot_heap w.params,Array.mk [],PySem.W.boot_drawn,PySem.W.boot_toks):=PySem.W.boot_open (!3) (!2) (λs=>by kernel_rfl)
def Io(w:World):(PySem.W.boot_heap w.params).isNs mainGlobals=true/\(PySem.W.boot_heap w.params).objs.size=11/\(PySem.W.boot_heap w.params).nsMap mainGlobals "__annotations__"=(!(.ref 6)):=⟨by kernel_rfl,by kernel_rfl,by kernel_rfl⟩
def T5(w:World)(os:OsState):(HD.A PySem.Challenge.pw_pocketmill_k53_tables_looked_through 11 (!(.ref 6)) 12 w os).map (·.2)=!⟨denote treeTable (HD.cd PySem.Challenge.pw_pocketmill_k53_tables_looked_through env0),HD.cd PySem.Challenge.pw_pocketmill_k53_tables_looked_through env0,⟨0,0,0,0⟩,[PySem.W.topFrame ⟨0,0,0,0⟩]⟩:=by kernel_rfl
def T6(w:World)(os:OsState):(HD.B PySem.Challenge.pw_pocketmill_k53_tables_looked_through 11 ((!(.ref 6))) env0 ⟨0,0,0,0⟩ ⟨0,0,0,0⟩ 12 1 w os).map (λr=>(r.1,r.2.2))=!(.next,HD.cd PySem.Challenge.pw_pocketmill_k53_tables_looked_through env0,⟨0,0,0,0⟩):=by kernel_rfl
def T7(w:World)(os:OsState):(HD.toT (HD.SB PySem.Challenge.pw_pocketmill_k53_tables_looked_through 11 ((!(.ref 6))) env0 ⟨0,0,0,0⟩ ⟨0,0,0,0⟩ 12 1 w os)).abs=HD.SB PySem.Challenge.pw_pocketmill_k53_tables_looked_through 11 ((!(.ref 6))) env0 ⟨0,0,0,0⟩ ⟨0,0,0,0⟩ 12 1 w os:=by kernel_rfl
def T9(w:World)(os:OsState):(HD.C PySem.Challenge.pw_pocketmill_k53_tables_looked_through 11 ((!(.ref 6))) env0 ⟨0,0,0,0⟩ ⟨0,0,0,0⟩ ⟨0,0,0,0⟩ 12 1 4113 w os).map (λr=>(r.1,r.2.2))=!(.next,HD.cd PySem.Challenge.pw_pocketmill_k53_tables_looked_through env0,⟨374,0,392,45⟩):=by kernel_rfl
def Ua(w:World)(s:Shared):PySem.W.topRun treeTable PySem.Challenge.pw_pocketmill_k53_tables_looked_through w 11 (!(.ref 6)) 2 s ⟨PySem.W.doneF .next,HD.cd PySem.Challenge.pw_pocketmill_k53_tables_looked_through env0,⟨374,0,392,45⟩,[PySem.W.topFrame ⟨0,0,0,0⟩]⟩=!s:=by kernel_rfl
noncomputable abbrev FF(w:World)(os:OsState):Shared:=(HD.SC PySem.Challenge.pw_pocketmill_k53_tables_looked_through 11 ((!(.ref 6))) env0 ⟨0,0,0,0⟩ ⟨0,0,0,0⟩ ⟨0,0,0,0⟩ 12 1 4113 w os).abs
abbrev XT(s:Shared):Bool:=PySem.W.xlAt Q [] s&&PySem.W.recOk PySem.Challenge.rw_pocketmill_k53_tables_looked_through.row.records s
def Qd(w:World)(os:OsState):(PySem.W.staticsOk (importedModules PySem.Challenge.pw_pocketmill_k53_tables_looked_through.main.body) (PySem.W.boot_heap w.params) (FF w os).heap&&PySem.W.namesBound PySem.Challenge.pw_pocketmill_k53_tables_looked_through (FF w os).heap&&PySem.W.gensDone (FF w os)&&PySem.W.laidKept (PySem.W.boot_heap w.params) (FF w os).heap)=true:=by
 rw[PySem.W.Fast.te5923862056798008813];kernel_rfl
def Qe(w:World)(os:OsState):PySem.W.openSeen Q [] (importedModules PySem.Challenge.pw_pocketmill_k53_tables_looked_through.main.body) XT true (FF w os)=PySem.W.openGood Q []:=by
 rw[PySem.W.Fast.te5923862056798008813,PySem.W.Fast.te4187177175401517315];kernel_rfl
def Qf(w:World)(os:OsState):adr.map (FF w os).heap.get?=(KT w.params).map λp=>!p.2:=by kernel_rfl
def t_left:PySem.W.LeftO PySem.Challenge.pw_pocketmill_k53_tables_looked_through Q [] XT (PySem.W.Hook.obs (PySem.W.kHook KT adr adr_ok)) (PySem.W.Hook.val (PySem.W.kHook KT adr adr_ok)) NN:=
 HD.left_of Im Io (HD.run_of T5 T6 T7 T9 Ua) (!2) λw os=>by rw[Qd w os,Qe w os];exact congrArg (λz=>(true,PySem.W.openGood Q [],z)) (Qf w os)
def t_said:PySem.W.OpenLaw.wellSaid PySem.Challenge.rw_pocketmill_k53_tables_looked_through=true:=by kernel_rfl
end K16
namespace L2
open PySem PySem.Spec PyProof.Rows
noncomputable def  lamTabs:List (Addr×(Pos×Str)):=[(353,(⟨187,31,187,74⟩,"as_they_come.<locals>.<lambda>"))]
abbrev jz:=Sum Int Str
noncomputable def  qk:jz->Value->Bool
 |.inl k,v=>Value.isInt k v
 |.inr x,v=>Value.isStrOf x v
def  Qg(w:World):jz->Int
 |.inl k=>hashInt k
 |.inr x=>hashStr w x
def keyIs_shape:∀{k:jz}{v:Value},qk k v=true->(∃i t,k=Sum.inl i/\v=Value.int i t)\/(∃x t,k=Sum.inr x/\v=Value.str x t)
 |.inl i,v,h=>by
  let⟨t,e⟩:=Value.isInt_shape h;exact .inl ⟨i,t,rfl,e⟩
 |.inr x,v,h=>by
  let⟨t,e⟩:=Value.isStrOf_shape h;exact .inr ⟨x,t,rfl,e⟩
def yX(i:Int)(t:Tok):qk (.inl i) (.int i t)=true:=by simp[qk,Value.isInt]
def yY(x:Str)(t:Tok):qk (.inr x) (.str x t)=true:=by simp[qk,Value.isStrOf]
def Ip(a b:Int):decide ((Sum.inl a:jz)=Sum.inl b)=(a==b):=by grind
def Iq(a b:Str):decide ((Sum.inr a:jz)=Sum.inr b)=decide (a=b):=by simp
def Ir(a:Int)(b:Str):decide ((Sum.inl a:jz)=Sum.inr b)=false:=decide_eq_false (λq=>nomatch q)
def Iu(a:Str)(b:Int):decide ((Sum.inr a:jz)=Sum.inl b)=false:=decide_eq_false (λq=>nomatch q)
def  eQ(prog:Program)(w:World):PySem.KeyKind prog w jz where
 is:=qk
 hash:=Qg w
 inj:=λv a b ha hb=>by
  rcases keyIs_shape ha with⟨i,t,rfl,rfl⟩|⟨x,t,rfl,rfl⟩
  .rcases keyIs_shape hb with⟨j,u,rfl,e⟩|⟨y,u,rfl,e⟩
   .injection e with e1 _;rw[e1]
   .exact nomatch e
  .rcases keyIs_shape hb with⟨j,u,rfl,e⟩|⟨y,u,rfl,e⟩
   .exact nomatch e
   .injection e with e1 _;rw[e1]
 byValue:=λk v h=>by
  rcases keyIs_shape h with⟨i,t,rfl,rfl⟩|⟨x,t,rfl,rfl⟩<;>rfl
 pyHash:=λhv h=>by
  rcases keyIs_shape hv with⟨i,t,rfl,rfl⟩|⟨x,t,rfl,rfl⟩
  .exact wpAny_pyHash_int h
  .exact wpAny_pyHash_str h
 eqBool:=λhu hv h=>by
  rcases keyIs_shape hu with⟨i,t,rfl,rfl⟩|⟨x,t,rfl,rfl⟩
  .rcases keyIs_shape hv with⟨j,u,rfl,rfl⟩|⟨y,u,rfl,rfl⟩
   .rw[Ip]at h;exact wpAny_eqBool_int h
   .rw[Ir]at h;exact SeqAt.EqAt.int_str i t y u _ _ _ _ h
  .rcases keyIs_shape hv with⟨j,u,rfl,rfl⟩|⟨y,u,rfl,rfl⟩
   .rw[Iu]at h;exact SeqAt.EqAt.str_int x t j u _ _ _ _ h
   .rw[Iq]at h;exact wpAny_eqBool_str h
 «strs»:=λk x t v h=>by
  rcases keyIs_shape h with⟨i,u,rfl,e⟩|⟨y,u,rfl,e⟩
  .exact nomatch e
  .injection e with e1 _;subst e1;cases v<;>rfl
def tE(prog:Program)(w:World)(i:Int)(t:Tok):(eQ prog w).is (.inl i) (.int i t)=true:=yX i t
def tF(prog:Program)(w:World)(x:Str)(t:Tok):(eQ prog w).is (.inr x) (.str x t)=true:=yY x t
inductive V where
 |non|bl (b:Bool)|int (i:Int)|str (x:Str)|byt (b:Array UInt8)|flt (b:UInt64)|ref (a:Addr)|ty (n:String)
 deriving DecidableEq
def  RelV:V->Value->Prop
 |.non,u=>u=Value.none
 |.bl b,u=>u=Value.bool b
 |.int i,u=>∃t,u=Value.int i t
 |.str x,u=>∃t,u=Value.str x t
 |.byt b,u=>∃t,u=Value.bytes b t
 |.flt b,u=>∃t,u=Value.float b t
 |.ref a,u=>u=Value.ref a
 |.ty n,u=>u=Value.type n
abbrev Vals:List V->U9->Prop:=Paired RelV
def Vals.length(r:Vals xs g):xs.length=g.length:=Paired.length r
def Vals.get:∀{xs:List V}{us:U9}{i:Nat}{x:V},Vals xs us->xs[i]?=!x->∃u,us[i]?=!u/\RelV x u
 |_,_,_,_,.nil,e=>by simp at e
 |_,_,0,_,.cons r _,e=>by simp at e;subst e;exact⟨_,rfl,r⟩
 |_,_,i+1,x,.cons _ t,e=>by
  let⟨u,h1,h2⟩:=Vals.get (i:=i) (x:=x) t (by simpa using e);exact⟨u,by simpa using h1,h2⟩
def Vals.set(r:RelV x u):∀{xs:List V}{us:U9}(i:Nat),Vals xs us->Vals (xs.set i x) (us.set i u)
 |_,_,_,.nil=>.nil
 |_,_,0,.cons _ t=>.cons r t
 |_,_,i+1,.cons q t=>.cons q (Vals.set r i t)
def Vals.append:∀{xs ys:List V}{us ws:U9},Vals xs us->Vals ys ws->Vals (xs++ys) (us++ws)
 |_,_,_,_,.nil,s=>s
 |_,_,_,_,.cons r t,s=>.cons r (Vals.append t s)
def Vals.take:∀{xs:List V}{us:U9}(n:Nat),Vals xs us->Vals (xs.take n) (us.take n)
 |_,_,0,_=>.nil
 |_,_,_+1,.nil=>.nil
 |_,_,n+1,.cons r t=>.cons r (Vals.take n t)
def Vals.drop:∀{xs:List V}{us:U9}(n:Nat),Vals xs us->Vals (xs.drop n) (us.drop n)
 |_,_,0,r=>r
 |_,_,_+1,.nil=>.nil
 |_,_,n+1,.cons _ t=>Vals.drop n t
def  RelO:Option V->Va->Prop
 |some v,!u=>RelV v u
 |none,none=>True
 |_,_=>False
def  KV{κ:Type}:List (κ×V)->List (κ×Value)->Prop:=Paired λ(p:κ×V)(q:κ×Value)=>p.1=q.1/\RelV p.2 q.2
def  kV:jz->V
 |.inl i=>.int i
 |.inr x=>.str x
inductive HO where
 |lst (xs:List V)
 |tup (xs:List V)
 |dK (kvs:List (jz×V))|dT (kvs:List (List jz×V))
 |set (S:Int->Bool) (n:Nat)
 |ins (C dx:Addr) (fs:List (Str×V))
 |own (x:Addr)
 |xd (fs:List (Str×V))
 |met (f x:Addr)
 |rng (lo hi:Int)
 |frz (o:Obj) (u:HO)
 |tbl (ps:Vf)
 |cod (ps:Vf) (pos:Pos) (q:Str)
 |ext (φ:Heap->Prop)
abbrev Hp:=Addr->Option HO
noncomputable def  aR(H:Hp)(a:Addr)(o:HO):Hp:=λb=>if b=a then !o else H b
def al:aR H a o a=!o:=by unfold aR;rw[if_pos rfl]
def ag(h:b≠a):aR H a o b=H b:=by unfold aR;rw[if_neg h]
def Ed:aR (aR H a o) a u=aR H a u:=by
 funext b;unfold aR;split<;>rfl
def am{H:Hp}(h:H a=!o)(h':H b=none):a≠b:=by
 intro e;subst e;rw[h]at h';cases h'
section
variable(P:Program)(w:World)
def  ObjOk(H:Hp)(h:Heap)(a:Addr):HO->Prop
 |.lst xs=>xs.length<=sizeLine/\∃(its:U9)(n:Nat),Vals xs its/\h.get? a=some {cls:=.type "list",data:=.seq its.toArray n}
 |.tup xs=>xs.length<=sizeLine/\∃its:U9,Vals xs its/\IsTup h a its.toArray
 |.dK kvs=>kvs.length<=sizeLine/\(a==sysModules)=false/\∃vs,KV kvs vs/\h.DictOf (eQ P w) a vs
 |.dT kvs=>kvs.length<=sizeLine/\(a==sysModules)=false/\∃xs:List (List jz×Addr×Value),
  Paired (λ(p:List jz×V)(q:List jz×Addr×Value)=>p.1=q.1/\H q.2.1=!(.tup (p.1.map kV))/\RelV p.2 q.2.2) kvs xs/\
  ∃o es ep,h.get? a=!o/\o.ExactDict/\o.data=.dict es ep/\es.toList=xs.map (entryOfKey (tupleKind (eQ P w)))/\(xs.map (·.1)).Nodup
 |.set S n=>h.SetOf (intKind P w) a S n
 |.ins C dx fs=>H dx=!(.own a)/\fs.length<=1000/\dx≠a/\h.get? a=!(PySem.W.instObj C dx)/\
  ∃mA,h.Ns1 dx mA/\(∀f,RelO (fs.lookup f) (mA f))/\PySem.Within mA (fs.map (·.1))
 |.own _=>∃o,h.get? a=!o
 |.xd fs=>∃mA,h.Ns1 a mA/\∀f,RelO (fs.lookup f) (mA f)
 |.rng lo hi=>∃t u v,h.get? a=some {cls:=.type "range",data:=.fields #[.int lo t,.int hi u,.int 1 v]}
 |.frz o u=>h.get? a=!o/\ObjOk H h a u
 |.tbl ps=>h.get? a=some {cls:=.none,data:=.fields ps}
 |.cod ps pos q=>h.get? a=some {cls:=.none,data:=.fields ps}\/∃c oc vs t,h.get? a=some {cls:=.none,data:=.fields (ps++#[rawInt pos.line,rawInt pos.col,.ref c])}/\H c=!(.frz oc (.own a))/\oc.data=.fields vs/\vs[1]?=!(.str q t)
 |.met f x=>h.get? a=!(PySem.W.methodObj (.ref f) (.ref x))
 |.ext φ=>φ h/\(∃o,h.get? a=!o)/\∀h1 h2:Heap,φ h1->(∀o,h1.get? a=!o->h2.get? a=!o)->φ h2
def  HOk(H:Hp)(h:Heap):Prop:=∀a o,H a=!o->ObjOk P w H h a o
end
section
variable{P:Program}{w:World}{H H':Hp}{h h':Heap}{a:Addr}{o:HO}
def ObjOk.lt(x:ObjOk P w H h a o):a<h.objs.size:=by
 cases o with
 |lst xs=>let⟨_,_,_,_,e⟩:=x;exact Vn e
 |tup xs=>let⟨_,_,_,p⟩:=x;exact p.lt
 |dK kvs=>let⟨_,_,_,_,o,_,_,e,_⟩:=x;exact Vn e
 |dT kvs=>let⟨_,_,_,_,o,_,_,e,_⟩:=x;exact Vn e
 |set S n=>let⟨o,_,_,_,e,_⟩:=x;exact Vn e
 |ins C dx fs=>let⟨_,_,_,e,_⟩:=x;exact Vn e
 |own y=>let⟨_,e⟩:=x;exact Vn e
 |xd fs=>let⟨_,⟨_,_,_,e,_⟩,_⟩:=x;exact Vn e
 |rng lo hi=>let⟨_,_,_,e⟩:=x;exact Vn e
 |frz j u=>let⟨e,_⟩:=x;exact Vn e
 |tbl ps=>exact Vn (x)
 |cod ps pos q=>
  rcases x with e|⟨_,_,_,_,e,_⟩
  .exact Vn e
  .exact Vn e
 |met f y=>exact Vn (x)
 |ext g=>let⟨_,⟨_,e⟩,_⟩:=x;exact Vn e
def Paired.mapP:∀{l₁:List α}{l₂:List β},Paired F l₁ l₂->(∀a b,F a b->G a b)->Paired G l₁ l₂
 |_,_,.nil,_=>.nil
 |_,_,.cons r t,f=>.cons (f _ _ r) (Paired.mapP t f)
def ObjOk.stay(x:ObjOk P w H h a o)(k:∀b u,(b=a\/H b=!(.own a))->h.get? b=!u->h'.get? b=!u)
  (ho:∀b,H b=!(.own a)->H' b=!(.own a)) (ht:∀b xs,H b=!(.tup xs)->H' b=!(.tup xs)) (hz:∀b o' T,H b=!(.frz o' T)->H' b=!(.frz o' T):=by intro _ _ _ q;exact q):ObjOk P w H' h' a o:=by
 induction o with
 |lst xs=>let⟨z,l,n,r,e⟩:=x;exact⟨z,l,n,r,k _ _ (.inl rfl) e⟩
 |tup xs=>let⟨z,l,r,g,e,c⟩:=x;exact⟨z,l,r,g,k _ _ (.inl rfl) e,c⟩
 |dK kvs=>let⟨z,y,I,r,g,es,j,e,c⟩:=x;exact⟨z,y,I,r,g,es,j,k _ _ (.inl rfl) e,c⟩
 |dT kvs=>
  let⟨z,y,xs,r,g,es,j,e,c⟩:=x;exact⟨z,y,xs,Paired.mapP r λp q z=>⟨z.1,ht _ _ z.2.1,z.2.2⟩,g,es,j,k _ _ (.inl rfl) e,c⟩
 |set S n=>let⟨g,es,j,t,e,c⟩:=x;exact⟨g,es,j,t,k _ _ (.inl rfl) e,c⟩
 |ins C dx fs=>
  let⟨d,z,ne,e,mA,⟨J,es,j,e2,c⟩,r⟩:=x;exact⟨ho _ d,z,ne,k _ _ (.inl rfl) e,mA,⟨J,es,j,k _ _ (.inr d) e2,c⟩,r⟩
 |own y=>let⟨g,e⟩:=x;exact⟨g,k _ _ (.inl rfl) e⟩
 |xd fs=>let⟨mA,⟨J,es,j,e,c⟩,r⟩:=x;exact⟨mA,⟨J,es,j,k _ _ (.inl rfl) e,c⟩,r⟩
 |rng lo hi=>let⟨t,u,v,e⟩:=x;exact⟨t,u,v,k _ _ (.inl rfl) e⟩
 |frz g u ih=>let⟨e,q⟩:=x;exact⟨k _ _ (.inl rfl) e,ih q⟩
 |cod ps pos q=>
  rcases x with e|⟨c,U,I,t,e,o1,r⟩
  .exact .inl (k a _ (.inl rfl) e)
  .exact .inr ⟨c,U,I,t,k a _ (.inl rfl) e,hz _ _ _ o1,r⟩
 |tbl ps=>
  have e:h.get? a=some {cls:=.none,data:=.fields ps}:=x;exact k a _ (.inl rfl) e
 |met f y=>
  have e:h.get? a=!(PySem.W.methodObj _ _):=x;exact k a _ (.inl rfl) e
 |ext φ=>let⟨p,⟨o,e⟩,st⟩:=x;exact⟨st _ _ p λo q=>k _ _ (.inl rfl) q,⟨o,k _ _ (.inl rfl) e⟩,st⟩
def HOk.lt(x:HOk P w H h)(e:H a=!o):a<h.objs.size:=(x a o e).lt
def HOk.fresh(x:HOk P w H h)(e:h.objs.size<=a):H a=none:=by
 cases q:H a with
 |none=>rfl
 |some u=>exact absurd (Vu (x.lt q) e) (VD _)
def HOk.kept(x:HOk P w H h)(k:∀b u,h.get? b=!u->h'.get? b=!u):HOk P w H h':=λa o e=>
 (x a o e).stay (λb u _ q=>k b u q) (λ_ q=>q) λ_ _ q=>q
def HOk.laid(x:HOk P w H h)(k:∀b u,h.get? b=!u->h'.get? b=!u)(l:h.objs.size<=a)(new:ObjOk P w (aR H a o) h' a o):HOk P w (aR H a o) h':=λb u e=>by
 have g:=x.fresh l;by_cases j:b=a
 .subst j;rw[al]at e;cases e;exact new
 .rw[ag j]at e;exact(x b u e).stay (λc v _ q=>k c v q) (λc q=>by rw[ag (am q g)];exact q) (λc xs q=>by rw[ag (am q g)];exact q) λc o' p q=>by rw[ag (am q g)];exact q
end
def  Rd(H:Hp)(a:Addr)(u:HO):Prop:=H a=!u\/∃o,H a=!(.frz o u)
def Rd.ok(r:Rd H a u)(x:HOk P w H h):ObjOk P w H h a u:=by
 rcases r with r|⟨o,r⟩
 .exact x a u r
 .let⟨_,q⟩:=x a _ r;exact q
def  LD:Option HO->Prop
 |some (.lst _)=>True
 |some (.dK _)=>True
 |some (.dT _)=>True
 |some (.set _ _)=>True
 |some (.ins _ _ _)=>True
 |some (.ext _)=>True
 |_=>False
section
variable{P:Program}{w:World}{H:Hp}{h h':Heap}{x e:Addr}{o':HO}
def HOk.write(ok:HOk P w H h)(l:LD (H x))(J:e=x\/H e=!(.own x))(k:∀b u,b≠e->h.get? b=!u->h'.get? b=!u)(C:∃u,h'.get? e=!u)
  (new:ObjOk P w (aR H x o') h' x o'):HOk P w (aR H x o') h':=λb u q=>by
 have j:∀c y,H c=!(.own y)->c≠x:=λc y r z=>by subst z;rw[r]at l;exact l
 have o:∀c xs,H c=!(.tup xs)->c≠x:=λc xs r z=>by subst z;rw[r]at l;exact l
 by_cases t:b=x
 .subst t;rw[al]at q;cases q;exact new
 .rw[ag t]at q;by_cases g:b=e
  .have I:H b=!(.own x):=by
    rcases J with z|z
    .exact absurd (g.trans z) t
    .rw[g];exact z
   rw[q]at I;cases I;let⟨v,T⟩:=C;exact⟨v,by rw[g];exact T⟩
  .refine(ok b u q).stay (λc v p r=>k c v ?_ r) (λc r=>by rw[ag (j c b r)];exact r) (λc xs r=>by rw[ag (o c xs r)];exact r) λc o' U r=>by rw[ag (λz=>by subst z;rw[r]at l;exact l)];exact r
   rcases p with rfl|p
   .exact g
   .rintro rfl;rcases J with z|z
    .exact j c b p z
    .rw[p]at z;cases z;exact t rfl
end
def  Still:HO->Prop
 |.frz _ _=>True
 |.cod _ _ _=>True
 |_=>False
def Still.nm(h:Still u):¬LD (!u):=by
 cases u<;>first|exact h.elim|exactλz=>z
def  GT(H:Hp):Prop:=∀b z,lamTabs.lookup b=!z->H b=!(.cod #[] z.1 z.2)
structure Un(fs ex:List Addr)(H H':Hp)(h h':Heap):Prop where
 keep:∀b o,h.get? b=!o->H b=none->b ∉ fs->b ∉ ex->h'.get? b=!o
 slot:∀b o,h.get? b=!o->H b=none->b∈fs->b ∉ ex->∃sl,h'.get? b=some {o with slots:=sl}
 free:∀b o,h.get? b=!o->H b=none->b ∉ ex->H' b=none
 there:∀b o,h.get? b=!o->b ∉ ex->∃o',h'.get? b=!o'
 tups:∀b xs,H b=!(.tup xs)->H' b=!(.tup xs)
 frzs:∀b o,Still o->H b=!o->H' b=!o
 tbls:∀b ps,H b=!(.tbl ps)->∃more,H' b=!(.tbl (ps++more))
section
variable{fs fs' ex ex':List Addr}{H H1 H2:Hp}{h h1 h2 h':Heap}{a x e:Addr}{o:HO}
def Un.any(u:Un fs ex H H1 h h1)(q:h.get? b=!ob)(n:H b=none)(hx:b ∉ ex):∃sl,h1.get? b=some {ob with slots:=sl}:=by
 by_cases hb:b∈fs
 .exact u.slot b ob q n hb hx
 .exact⟨ob.slots,u.keep b ob q n hb hx⟩
def Un.kept(k:∀b u,h.get? b=!u->h'.get? b=!u):Un fs ex H H h h':=
 ⟨λb g q _ _ _=>k b g q,λb g q _ _ _=>⟨g.slots,k b g q⟩,λ_ _ _ n _=>n,λb g q _=>⟨g,k b g q⟩,λ_ _ q=>q,λ_ _ _ q=>q,λ_ ps q=>⟨#[],by rw[q];simp⟩⟩
def Un.refl:Un fs ex H H h h:=Un.kept λ_ _ q=>q
def Un.laid(k:∀b u,h.get? b=!u->h'.get? b=!u)(j:h.objs.size<=a)(g:H a=none):Un fs ex H (aR H a o) h h' where
 keep:=λb u q _ _ _=>k b u q
 slot:=λb u q _ _ _=>⟨u.slots,k b u q⟩
 free:=λb u q n _=>by rw[ag (Nat.ne_of_lt (lt_of_lt_of_le (Heap.lt_size q) j))];exact n
 there:=λb u q _=>⟨u,k b u q⟩
 tups:=λb xs q=>by rw[ag (am q g)];exact q
 frzs:=λb u xs q=>by rw[ag (am q g)];exact q
 tbls:=λb ps q=>⟨#[],by rw[ag (am q g),q];simp⟩
def Un.write(g:LD (H x))(C:e=x\/H e=!(.own x))(k:∀b u,b≠e->h.get? b=!u->h'.get? b=!u)(t:∃u,h'.get? e=!u):Un fs ex H (aR H x o) h h':=by
 have l:∀b,H b=none->b≠x:=λb n z=>by subst z;rw[n]at g;exact g
 have p:∀b,H b=none->b≠e:=λb n z=>by
  subst z;rcases C with r|r
  .exact l b n r
  .rw[n]at r;cases r
 have j:∀b u,H b=!u->¬LD (!u)->b≠x:=λb u q nm z=>by subst z;rw[q]at g;exact nm g
 refine⟨λb u q n _ _=>k b u (p b n) q,λb u q n _ _=>⟨u.slots,k b u (p b n) q⟩,λb u q n _=>by rw[ag (l b n)];exact n,λb u q _=>?_,
  λb xs q=>by rw[ag (j b _ q λz=>z)];exact q,λb u xs q=>by rw[ag (j b _ q xs.nm)];exact q,λb ps q=>⟨#[],by rw[ag (j b _ q λz=>z),q];simp⟩⟩
 grind
end
noncomputable def  SJ(h:Heap)(H:Hp):List Addr:=(List.range h.objs.size).filter λa=>(H a).isSome
def  rc(h:Heap)(H:Hp):Heap:=PySem.W.hideAll h (SJ h H)
def yZ(h:Heap)(H:Hp):(rc h H).objs.size=h.objs.size:=PySem.W.hideAll_size _ _
def Ar(e:h.get? b=!o)(n:H b=none):(rc h H).get? b=!o:=
 PySem.W.hideAll_get _ e λg=>by
  have q:=(List.mem_filter.mp g).2;rw[n]at q;simp at q
def Ee(e:(rc h H).get? b=!o):h.get? b=!o/\H b=none:=by
 have g:=PySem.W.of_hideAll _ e;refine⟨g,?_⟩;cases q:H b with
 |none=>rfl
 |some x=>
  have j:b∈SJ h H:=List.mem_filter.mpr ⟨VG.mpr (Vn g),by simp[q]⟩;have z:(rc h H).get? b=none:=PySem.W.hideAll_none _ j;rw[z]at e;cases e
noncomputable def  Ef(g h:Heap)(L:Addr):U5:=(List.range h.objs.size).filterMap λa=>if a=L\/(g.get? a).isSome=true then none else(h.get? a).map λo=>(a,o)
def  rest(g h:Heap)(L d:Addr):U5:=(Ef g h L).filter λp=>decide (p.1≠d)
structure Mod(K:Frag)(mg:Str->Va)(base:Heap):Prop where
 kin:K.In base
 glob:base.Ns mainGlobals mg
 blt:∃mb,base.Ns builtinsNs mb/\∀x:Str,x≠"__name__" ->mb x=bootBuiltins x
 nolimit:base.NoLimit
structure Cx where
 prog:Program
 w:World
 K:Frag
 mg:Str->Va
 base:Heap
 A:Around
 N:Vc
 s₀:Shared
 H₀:Hp
 env:Env
 outer:List Env
 stack:List Env
 ex:List Addr
 fn:Str->Bool
 calm:Bool
 pn:U5
 xe:U8
noncomputable def  frs(l:List Env):List Addr:=l.filterMap (·.frame)
abbrev Cx.fs(X:Cx):List Addr:=frs X.outer
def  tq(sc:Scope)(x:Str):Prop:=sc.names.lookup x=some .local\/sc.names.lookup x=some .cell\/sc.names.lookup x=some .free
def  Eg(sc:Scope)(x:Str):Prop:=sc.names.lookup x=some .local\/sc.names.lookup x=some .cell
def  Qh(env:Env)(h:Heap)(m:Str->Va)(x:Str)(u:Value):Prop:=
 (env.kindOf x=some .local/\m x=!u)\/((env.kindOf x=some .cell\/env.kindOf x=some .free)/\∃c,env.cells.lookup x=!c/\h.IsCell c (!u))
structure Cx.Ok(X:Cx):Prop where
 mod:Mod X.K X.mg X.base
 kind:X.env.scope.kind=.function
 glob:X.env.globals=mainGlobals
 blt:X.env.builtins=builtinsNs
 above:X.s₀.heap.objs.size<=X.env.locals
 inj:∀x y c,X.env.cells.lookup x=!c->X.env.cells.lookup y=!c->x=y
 has:∀x,(X.env.kindOf x=some .cell\/X.env.kindOf x=some .free)->∃c,X.env.cells.lookup x=!c
 cab:∀x c,X.fn x=true->X.env.cells.lookup x=!c->X.s₀.heap.objs.size<=c
 hd:X.calm=true->X.A.handled=none
 frames:X.A.frames=!X.stack
 stk:X.stack=X.outer\/(X.stack=X.env::X.outer/\X.env.frame=!X.env.locals)
 exf:∀b∈X.ex,b≠X.env.locals/\∀x c,X.env.cells.lookup x=!c->c≠b
 bs:∀b o,X.base.get? b=!o->X.s₀.heap.get? b=!o/\X.H₀ b=none
 bsz:X.base.objs.size<=X.s₀.heap.objs.size
 noex:∀b o,X.base.get? b=!o->b ∉ X.ex
 exfs:∀b∈X.ex,b ∉ X.fs
 funs:X.s₀.heap.FunFrames X.base X.outer
 frf:(∀b∈X.fs,X.H₀ b=none)/\GT X.H₀
structure Inv(X:Cx)(pins:U5)(σ:List (Option V))(H:Hp)(s:Shared):Prop where
 ok:X.Ok
 os:s.os=X.s₀.os
 bare:AllBare s.gens
 base:Un X.fs X.ex X.H₀ H X.s₀.heap s.heap
 loc:∃m,s.heap.Ns X.env.locals m/\∀(i:Nat)(x:Str)(v:V),X.N[i]?=!x->σ[i]?=!(!v)->tq X.env.scope x->∃u,RelV v u/\Qh X.env s.heap m x u
 cell:∀x c,X.env.cells.lookup x=!c->∃v,s.heap.IsCell c v
 free:H X.env.locals=none
 freeC:∀x c,X.env.cells.lookup x=!c->H c=none
 pin:∀p∈X.pn++pins,s.heap.get? p.1=!p.2/\H p.1=none/\p.1≠X.env.locals/\p.1 ∉ X.fs/\∀v,p.2.data≠.cell v
 hok:HOk X.prog X.w H s.heap
 len:σ.length=X.N.length
section
variable{X:Cx}{pins:U5}{σ:List (Option V)}{H H':Hp}{s:Shared}{h':Heap}
def Cx.Ok.nofr(ok:X.Ok)(e:X.base.get? b=!o):b ∉ X.fs:=λg=>by
 have:=(ok.funs.mem g).1;grind
def Inv.bs(I:Inv X pins σ H s):∀b o,X.base.get? b=!o->s.heap.get? b=!o/\H b=none:=λb o e=>
 ⟨I.base.keep b o (I.ok.bs b o e).1 (I.ok.bs b o e).2 (I.ok.nofr e) (I.ok.noex b o e),I.base.free b o (I.ok.bs b o e).1 (I.ok.bs b o e).2 (I.ok.noex b o e)⟩
def Inv.bk(I:Inv X pins σ H s):∀b o,X.base.get? b=!o->s.heap.get? b=!o:=λb o e=>(I.bs b o e).1
def Inv.mod(I:Inv X pins σ H s):Mod X.K X.mg X.base:=I.ok.mod
def Inv.kIn(I:Inv X pins σ H s):X.K.In s.heap:=I.ok.mod.kin.keeps I.bk
def Inv.nolimit(I:Inv X pins σ H s):s.heap.NoLimit:=I.ok.mod.nolimit.keeps I.bk
def Inv.lt(I:Inv X pins σ H s):X.env.locals<s.heap.objs.size:=let⟨_,g,_⟩:=I.loc;g.lt
def Inv.sz(I:Inv X pins σ H s):X.s₀.heap.objs.size<=s.heap.objs.size:=Vx I.ok.above (VF I.lt)
def Inv.nofs(I:Inv X pins σ H s){a:Addr}(h:s.heap.objs.size<=a):a ∉ X.fs:=λj=>by
 let⟨_,o,g,_⟩:=I.ok.funs.mem j;exact absurd (Vu (Vn g) (Vx I.sz h)) (VD _)
def Inv.cne(I:Inv X pins σ H s):∀x c,X.env.cells.lookup x=!c->c≠X.env.locals:=λx c e z=>by
 let⟨v,o,l,hd⟩:=I.cell x c e;let⟨m,⟨o',es,p,g,j,_⟩,_⟩:=I.loc;grind
def Inv.funs(I:Inv X pins σ H s):s.heap.FunFrames X.base X.outer:=by
 have all:∀(l:List Env),(∀b∈frs l,b∈X.fs)->X.s₀.heap.FunFrames X.base l->s.heap.FunFrames X.base l:=by
  intro l;induction l with
  |nil=>intro _ _;trivial
  |cons env r C=>
   intro t hl;let⟨hk,⟨L,o,g,U,T,hd⟩,J⟩:=hl;have p:=t L (by unfold frs;rw[List.filterMap_cons,g];exact Vr);let⟨sl,e⟩:=I.base.slot L o T (I.ok.frf.1 L p) p λz=>I.ok.exfs L z p;exact⟨hk,⟨L,_,g,U,e,hd⟩,C (λb j=>t b (by unfold frs;rw[List.filterMap_cons,g];exact Vs _ j)) J⟩
 exact all X.outer (λ_ j=>j) I.ok.funs
def Inv.stack(I:Inv X pins σ H s):s.heap.FunFrames X.base X.stack:=by
 rcases I.ok.stk with e|⟨e,j⟩
 .rw[e];exact I.funs
 .rw[e];let⟨m,g,_⟩:=I.loc;refine .cons (by rw[I.ok.kind];decide) j g ?_ I.funs;exact Heap.get?_none_of_le (Vx I.ok.bsz I.ok.above)
def Inv.stkSub(I:Inv X pins σ H s):∀b∈frs X.stack,b∈X.env.locals::X.fs:=λb g=>by
 rcases I.ok.stk with e|⟨e,j⟩
 .rw[e]at g;exact Vs _ g
 .rw[e]at g;unfold frs at g;rw[List.filterMap_cons,j]at g;exact g
def Inv.stkFree(I:Inv X pins σ H s):∀b∈frs X.stack,H b=none:=λb g=>by
 rcases mem_cons.mp (I.stkSub b g)with e|g
 .rw[e];exact I.free
 .let⟨_,o,j,_⟩:=I.ok.funs.mem g;exact I.base.free b o j (I.ok.frf.1 b g) λz=>I.ok.exfs b z g
def Inv.tab(I:Inv X pins σ H s):GT H:=λb z h=>I.base.frzs b _ True.intro (I.ok.frf.2 b z h)
def Inv.step{ch:List Addr}(I:Inv X pins σ H s)(t:∀b∈ch,(b∈X.ex\/X.s₀.heap.objs.size<=b)/\b≠X.env.locals/\(∀x c,X.env.cells.lookup x=!c->c≠b)/\∀p∈X.pn++pins,p.1≠b)(keep:∀b o,b≠X.env.locals->b ∉ X.fs->b ∉ ch->s.heap.get? b=!o->H b=none->h'.get? b=!o)(slot:∀b o,b≠X.env.locals->b∈X.fs->b ∉ ch->s.heap.get? b=!o->H b=none->∃sl,h'.get? b=some {o with slots:=sl})(free:∀b o,b ∉ ch->s.heap.get? b=!o->H b=none->H' b=none)(there:∀b o,b ∉ ch->s.heap.get? b=!o->∃o',h'.get? b=!o')(tups:∀b xs,H b=!(.tup xs)->H' b=!(.tup xs))(frzs:∀b o,Still o->H b=!o->H' b=!o)(tbls:∀b ps,H b=!(.tbl ps)->∃more,H' b=!(.tbl (ps++more)))(ns:∀m,s.heap.Ns X.env.locals m->h'.Ns X.env.locals m)(hok:HOk X.prog X.w H' h')(hg:AllBare g'):
  Inv X pins σ H' {s with heap:=h',gens:=g',drawn:=d',toks:=t'}:=by
 have neL:∀b o,X.s₀.heap.get? b=!o->b≠X.env.locals:=λb o e=>Vy (Vu (Vn e) I.ok.above)
 have J:∀b o,X.s₀.heap.get? b=!o->b ∉ X.ex->b ∉ ch:=λb o e g U=>by
  rcases(t b U).1 with z|z
  .exact g z
  .exact absurd (Vu (Vn e) z) (VD _)
 have C:∀x c,X.env.cells.lookup x=!c->∀v,s.heap.IsCell c v->h'.IsCell c v:=λx c e v ⟨o,ho,hd⟩=>by
  have j:c ∉ ch:=λz=>(t c z).2.2.1 x c e rfl;by_cases hc:c∈X.fs
  .let⟨sl,q⟩:=slot c o (I.cne x c e) hc j ho (I.freeC x c e);exact⟨_,q,hd⟩
  .exact⟨o,keep c o (I.cne x c e) hc j ho (I.freeC x c e),hd⟩
 refine⟨I.ok,I.os,hg,⟨λb o e n U g=>?_,λb o e n U g=>?_,λb o e n g=>?_,λb o e g=>?_,λb xs e=>tups b xs (I.base.tups b xs e),λb o xs e=>frzs b o xs (I.base.frzs b o xs e),λb ps e=>?_⟩,?_,λx c e=>?_,?_,λx c e=>?_,λp hp=>?_,hok,I.len⟩
 .exact keep b o (neL b o e) U (J b o e g) (I.base.keep b o e n U g) (I.base.free b o e n g)
 .let⟨sl,T⟩:=I.base.slot b o e n U g;let⟨sl',e2⟩:=slot b _ (neL b o e) U (J b o e g) T (I.base.free b o e n g);exact⟨sl',e2⟩
 .let⟨o',T⟩:=I.base.there b o e g;exact free b o' (J b o e g) T (I.base.free b o e n g)
 .let⟨o',T⟩:=I.base.there b o e g;exact there b o' (J b o e g) T
 .let⟨m1,T⟩:=I.base.tbls b ps e;let⟨m2,e2⟩:=tbls b _ T;exact⟨m1++m2,by rw[e2,Array.append_assoc]⟩
 .let⟨m,hn,hl⟩:=I.loc;refine⟨m,ns m hn,λi x v T e2 e3=>?_⟩;let⟨u,r,l⟩:=hl i x v T e2 e3;refine⟨u,r,?_⟩;rcases l with l|⟨k,c,e,z⟩
  .exact .inl l
  .exact .inr ⟨k,c,e,C x c e _ z⟩
 .let⟨v,z⟩:=I.cell x c e;exact⟨v,C x c e v z⟩
 .let⟨m,⟨o,_,_,ho,_⟩,_⟩:=I.loc;exact free _ o (λz=>(t _ z).2.1 rfl) ho I.free
 .let⟨v,o,ho,hd⟩:=I.cell x c e;exact free c o (λz=>(t c z).2.2.1 x c e rfl) ho (I.freeC x c e)
 .let⟨e,n,ne,nf,d⟩:=I.pin p hp;have j:p.1 ∉ ch:=λz=>(t p.1 z).2.2.2 p hp rfl;exact⟨keep p.1 p.2 ne nf j e n,free p.1 p.2 j e n,ne,nf,d⟩
def Inv.un(I:Inv X pins σ H s)(u:Un X.fs [] H H' s.heap h')(hok:HOk X.prog X.w H' h'):Inv X pins σ H' {s with heap:=h',toks:=t'}:=by
 let⟨m,⟨o,es,ep,ho,r⟩,_⟩:=id I.loc;let⟨sl,hL⟩:=u.any ho I.free (by simp);exact I.step (ch:=[]) (λ_ z=>nomatch z) (λb o _ hb _ e n=>u.keep b o e n hb (by simp)) (λb o _ hb _ e n=>u.slot b o e n hb (by simp)) (λb o _ e n=>u.free b o e n (by simp)) (λb o _ e=>u.there b o e (by simp)) u.tups u.frzs u.tbls (λm' hm=>by
  let⟨o',es',ep',ho',r'⟩:=hm;rw[ho]at ho';cases ho';exact⟨_,es',ep',hL,r'⟩) hok I.bare
def Inv.call(I:Inv X pins σ H s)(u:Un (frs X.stack) ch H H' s.heap h')(t:HOk X.prog X.w H' h')(hg:AllBare g')(l:∀b∈ch,(b∈X.ex\/X.s₀.heap.objs.size<=b)/\b≠X.env.locals/\(∀x c,X.env.cells.lookup x=!c->c≠b)/\∀p∈X.pn++pins,p.1≠b):
  Inv X pins σ H' {s with heap:=h',gens:=g',drawn:=d',toks:=t'}:=by
 let⟨m,⟨o,es,ep,U,r⟩,_⟩:=id I.loc
 let⟨sl,C⟩:=u.any U I.free λz=>(l _ z).2.1 rfl
 exact I.step l (λb o C hb g e n=>u.keep b o e n (λz=>(mem_cons.mp (I.stkSub b z)).elim C hb) g) (λb o _ _ g e n=>u.any e n g) (λb o g e n=>u.free b o e n g) (λb o g e=>u.there b o e g) u.tups u.frzs u.tbls (λm' hm=>by
  let⟨o',J,T,j,r'⟩:=hm;rw[U]at j;cases j;exact⟨_,J,T,C,r'⟩) t hg
def Inv.turned(I:Inv X pins σ H s)(k:∀b o,b≠it->s.heap.get? b=!o->h'.get? b=!o)(hn:H it=none)(hL:it≠X.env.locals)(h1:it∈X.ex\/X.s₀.heap.objs.size<=it)(h2:∀x c,X.env.cells.lookup x=!c->c≠it)(h3:∀p∈X.pn++pins,p.1≠it):Inv X pins σ H {s with heap:=h',toks:=t'}:=by
 have nit:∀b u,H b=!u->b≠it:=λb u e z=>by rw[z,hn]at e;cases e
 refine I.step (ch:=[it]) (λb hb=>?_) (λb o _ _ hc e _=>k b o (λz=>hc (by simp[z])) e) (λb o _ _ hc e _=>⟨o.slots,k b o (λz=>hc (by simp[z])) e⟩) (λ_ _ _ _ n=>n)
  (λb o hc e=>⟨o,k b o (λz=>hc (by simp[z])) e⟩) (λ_ _ e=>e) (λ_ _ _ e=>e) (λb ps e=>⟨#[],by rw[e];simp⟩) (λm hm=>?_) (λb u e=>?_) I.bare
 .have e:b=it:=by simpa using hb
  subst e;exact⟨h1,hL,h2,h3⟩
 .let⟨o,es,ep,ho,r⟩:=hm;exact⟨o,es,ep,k _ o (Ne.symm hL) ho,r⟩
 .refine(I.hok b u e).stay (λc v hc q=>k c v ?_ q) (λ_ q=>q) λ_ _ q=>q;rcases hc with z|z
  .rw[z];exact nit b u e
  .exact nit c _ z
def Inv.tok(I:Inv X pins σ H s)(t:Nat):Inv X pins σ H {s with toks:=t}:=I.un Un.refl I.hok
def Inv.kept(I:Inv X pins σ H s)(k:∀b u,s.heap.get? b=!u->h'.get? b=!u):Inv X pins σ H {s with heap:=h',toks:=t'}:=I.un (Un.kept k) (I.hok.kept k)
def Inv.laid{a:Addr}(I:Inv X pins σ H s)(k:∀b u,s.heap.get? b=!u->h'.get? b=!u)(hp:s.heap.objs.size<=a)(new:ObjOk X.prog X.w (aR H a o) h' a o):
 Inv X pins σ (aR H a o) {s with heap:=h',toks:=t'}:=I.un (Un.laid k hp (I.hok.fresh hp)) (I.hok.laid k hp new)
def Inv.write(I:Inv X pins σ H s)(mu:LD (H x))(he:e=x\/H e=!(.own x))(k:∀b u,b≠e->s.heap.get? b=!u->h'.get? b=!u)(heo:∃u,h'.get? e=!u)(new:ObjOk X.prog X.w (aR H x o) h' x o):Inv X pins σ (aR H x o) {s with heap:=h',toks:=t'}:=I.un (Un.write mu he k heo) (I.hok.write mu he k heo new)
def Inv.weak(I:Inv X pins σ H s)(o:g.length=σ.length)(w:∀(i:Nat) v,g[i]?=!(!v)->σ[i]?=!(!v)):Inv X pins g H s:=
 ⟨I.ok,I.os,I.bare,I.base,let⟨m,l,j⟩:=I.loc;⟨m,l,λi x v r e2 p=>j i x v r (w i v e2) p⟩,I.cell,I.free,I.freeC,I.pin,I.hok,o.trans I.len⟩
def Inv.pins_of(I:Inv X pins σ H s)(h:∀p∈g,s.heap.get? p.1=!p.2/\H p.1=none/\p.1≠X.env.locals/\p.1 ∉ X.fs/\∀v,p.2.data≠.cell v):Inv X g σ H s:=
 ⟨I.ok,I.os,I.bare,I.base,I.loc,I.cell,I.free,I.freeC,λp j=>(mem_append.mp j).elim (λz=>I.pin p (VB _ z)) (h p),I.hok,I.len⟩
def tH{N:Vc}(g:N.Nodup){i j:Nat}(a:N[i]?=!x)(b:N[j]?=!x):i=j:=by
 let⟨h1,l⟩:=Vq.mp a;let⟨h2,e2⟩:=Vq.mp b;exact(List.getElem_inj g).mp (l.trans e2.symm)
def ql(I:Inv X pins σ H s)(hN:X.N.Nodup)(hi:X.N[i]?=!x)(J:Eg X.env.scope x)(r:RelV v u)(h:∀s',Inv X pins (σ.set i (!v)) H s'->(∃a,Heap.SameBut a s.heap s'.heap/\(a=X.env.locals\/X.env.cells.lookup x=!a))->Q () s')(hf:X.fn x=true\/X.env.scope.names.lookup x=some .local:=by first|exact .inl rfl|exact .inr rfl|assumption):wpAny M A (storeName X.env x u) Q E s:=by
 let⟨m,hn,hl⟩:=id I.loc;have hcls:(X.env.scope.kind==.class||(X.env.scope.kind==.module&&X.env.locals !=X.env.globals))=false:=by rw[I.ok.kind];rfl
 have hiσ:i<σ.length:=by rw[I.len];exact(Vq.mp hi).1
 have cne:=I.cne;have l:∀{a:Addr}{h':Heap},(∃o,s.heap.get? a=!o/\H a=none)->Heap.SameBut a s.heap h'->HOk X.prog X.w H h':=λ{a h'} ha g b ob e=>by
  let⟨_,_,T⟩:=ha;refine(I.hok b ob e).stay (λc w' C q=>(g.2 c ?_).trans q) (λ_ q=>q) λ_ _ q=>q;rintro rfl;rcases C with rfl|C
  .rw[T]at e;cases e
  .rw[T]at C;cases C
 rcases J with U|U
 .refine wpAny_storeName_local U hn (λh' hn' g=>?_) hcls;let⟨oL,_,_,hoL,_⟩:=id hn;refine h _ ⟨I.ok,I.os,I.bare,⟨λb o e n hb J=>?_,λb o e n hb J=>?_,I.base.free,λb o e J=>?_,I.base.tups,I.base.frzs,I.base.tbls⟩,⟨_,hn',λj y v' t e2 e3=>?_⟩,λy c e=>?_,I.free,I.freeC,λp hp=>?_,l ⟨oL,hoL,I.free⟩ g,by simpa using I.len⟩ ⟨_,g,.inl rfl⟩
  .exact(g.2 b (Vy (Vu (Vn e) I.ok.above))).trans (I.base.keep b o e n hb J)
  .let⟨sl,t⟩:=I.base.slot b o e n hb J;exact⟨sl,(g.2 b (Vy (Vu (Vn e) I.ok.above))).trans t⟩
  .let⟨o',t⟩:=I.base.there b o e J;exact⟨o',(g.2 b (Vy (Vu (Vn e) I.ok.above))).trans t⟩
  .by_cases hj:j=i
   .subst hj;rw[hi]at t;cases t;rw[List.getElem?_set_self hiσ]at e2;cases e2;exact⟨u,r,.inl ⟨U,by simp⟩⟩
   .rw[List.getElem?_set_ne (Ne.symm hj)]at e2;let⟨u',r',q⟩:=hl j y v' t e2 e3;refine⟨u',r',?_⟩;rcases q with⟨k,e⟩|⟨k,c,e,z⟩
    .refine .inl ⟨k,?_⟩;have:y≠x:=λe=>hj (tH hN t (e▸hi));simp[this,e]
    .exact .inr ⟨k,c,e,z.sameBut g (cne y c e)⟩
  .let⟨w',z⟩:=I.cell y c e;exact⟨w',z.sameBut g (cne y c e)⟩
  .let⟨e,n,ne,nf,d⟩:=I.pin p hp;exact⟨(g.2 p.1 ne).trans e,n,ne,nf,d⟩
 .have hfn:X.fn x=true:=by
   rcases hf with z|z
   .exact z
   .rw[z]at U;cases U
  let⟨c,C⟩:=I.ok.has x (.inl U);let⟨w',z⟩:=I.cell x c C;refine wpAny_storeName_cell I.ok.kind U C z (λh' hc' g=>?_);let⟨oc,hoc,hocd⟩:=id z;refine h {s with heap:=h'} ⟨I.ok,I.os,I.bare,⟨λb o e n hb J=>?_,λb o e n hb J=>?_,I.base.free,λb o e J=>?_,I.base.tups,I.base.frzs,I.base.tbls⟩,⟨m,hn.sameBut g (Ne.symm (cne x c C)),λj y v' t e2 e3=>?_⟩,λy c' e=>?_,I.free,I.freeC,λp hp=>?_,l ⟨oc,hoc,I.freeC x c C⟩ g,by simpa using I.len⟩ ⟨c,g,.inr C⟩
  .exact(g.2 b (Vy (Vu (Vn e) (I.ok.cab x c hfn C)))).trans (I.base.keep b o e n hb J)
  .let⟨sl,t⟩:=I.base.slot b o e n hb J;exact⟨sl,(g.2 b (Vy (Vu (Vn e) (I.ok.cab x c hfn C)))).trans t⟩
  .let⟨o',t⟩:=I.base.there b o e J;exact⟨o',(g.2 b (Vy (Vu (Vn e) (I.ok.cab x c hfn C)))).trans t⟩
  .by_cases hj:j=i
   .subst hj;rw[hi]at t;cases t;rw[List.getElem?_set_self hiσ]at e2;cases e2;exact⟨u,r,.inr ⟨.inl U,c,C,hc'⟩⟩
   .rw[List.getElem?_set_ne (Ne.symm hj)]at e2;let⟨u',r',q⟩:=hl j y v' t e2 e3;refine⟨u',r',?_⟩;rcases q with q|⟨k,c',e,z'⟩
    .exact .inl q
    .refine .inr ⟨k,c',e,z'.sameBut g ?_⟩;rintro rfl;exact hj (tH hN t (I.ok.inj _ _ _ e C▸hi))
  .by_cases hcc:c'=c
   .subst hcc;exact⟨_,hc'⟩
   .let⟨w2,z2⟩:=I.cell y c' e;exact⟨w2,z2.sameBut g hcc⟩
  .let⟨e,n,ne,nf,d⟩:=I.pin p hp;refine⟨(g.2 p.1 ?_).trans e,n,ne,nf,d⟩;intro q;rw[q,hoc]at e;have q':=Option.some.inj e;exact d w' (by rw[<-q'];exact hocd)
def tI(I:Inv X pins σ H s)(l:X.N.Nodup)(hi:X.N[i]?=!x)(g:Eg X.env.scope x)(r:RelV v u)(h:∀s',Inv X pins (σ.set i (!v)) H s'->Q () s')(j:X.fn x=true\/X.env.scope.names.lookup x=some .local:=by first|exact .inl rfl|exact .inr rfl|assumption):wpAny M A (storeName X.env x u) Q E s:=
 ql I l hi g r (λs' o _=>h s' o) j
def Inv.call'(I:Inv X pins σ H s)(l:s'.os=s.os)(u:Un (frs X.stack) r H H' s.heap s'.heap)(g:HOk X.prog X.w H' s'.heap)(o:AllBare s'.gens)(j:∀b∈r,(b∈X.ex\/X.s₀.heap.objs.size<=b)/\b≠X.env.locals/\(∀x c,X.env.cells.lookup x=!c->c≠b)/\∀p∈X.pn++pins,p.1≠b):Inv X pins σ H' s':=by
 let⟨h',C,J,t,o'⟩:=s';have e:=l;subst e;exact I.call u g o j
end
abbrev XK:=Value->Option Addr->Hp->Prop
abbrev St:=List (Option V)
abbrev VK:=V->Hp->Prop
abbrev TE:=St->Hp->VK->Prop
abbrev TT:=St->Hp->(Bool->Hp->Prop)->Prop
abbrev TA:=St->Hp->(List V->Hp->Prop)->Prop
structure Ends where
 nx:St->Hp->Prop
 rt:VK
 bk:St->Hp->Prop:=λ_ _=>False
 ct:St->Hp->Prop:=λ_ _=>False
noncomputable abbrev TS:=Ends->St->Hp->Prop
def  EP(X:Cx)(pins:U5)(σ:St)(Q:VK)(u:Value)(s':Shared):Prop:=∃v H',Inv X pins σ H' s'/\RelV v u/\Q v H'
def  TP(X:Cx)(pins:U5)(σ:St)(Q:Bool->Hp->Prop)(b:Bool)(s':Shared):Prop:=∃H',Inv X pins σ H' s'/\Q b H'
def  AP(X:Cx)(pins:U5)(σ:St)(Q:List V->Hp->Prop)(us:U9)(s':Shared):Prop:=∃vs H',Inv X pins σ H' s'/\Vals vs us/\Q vs H'
def  SP(X:Cx)(pins:U5)(D:Ends)(f:Flow)(s':Shared):Prop:=
 match f with
 |.next=>∃σ' H',Inv X pins σ' H' s'/\D.nx σ' H'
 |.brk=>∃σ' H',Inv X pins σ' H' s'/\D.bk σ' H'
 |.cont=>∃σ' H',Inv X pins σ' H' s'/\D.ct σ' H'
 |.ret u=>∃v σ' H',Inv X pins σ' H' s'/\RelV v u/\D.rt v H'
def  PE(X:Cx)(e:Expr)(t:TE):Prop:=
 ∀(pins:U5)(s:Shared)(σ:St)(H:Hp)(Q:VK),Inv X pins σ H s->t σ H Q->wpAny (!4) X.A (eval e X.env) (EP X pins σ Q) X.xe s
def  PT(X:Cx)(e:Expr)(t:TT):Prop:=
 ∀(pins:U5)(s:Shared)(σ:St)(H:Hp)(Q:Bool->Hp->Prop),Inv X pins σ H s->t σ H Q->wpAny (!4) X.A (isTrue e X.env (eval e X.env)) (TP X pins σ Q) X.xe s
def  PW(X:Cx)(e:Expr)(t:TT):Prop:=
 ∀(whole:Sem Value)(pins:U5)(s:Shared)(σ:St)(H:Hp)(Q:Bool->Hp->Prop),Inv X pins σ H s->t σ H Q->wpAny (!4) X.A (isTrue e X.env whole) (TP X pins σ Q) X.xe s
def PW.pt(h:PW X e t):PT X e t:=h _
def  PA(X:Cx)(es:Vh)(t:TA):Prop:=
 ∀(pos:Pos)(pins:U5)(s:Shared)(σ:St)(H:Hp)(Q:List V->Hp->Prop),Inv X pins σ H s->t σ H Q->wpAny (!4) X.A (spliced (!14)) (AP X pins σ Q) X.xe s
def  PS(X:Cx)(st:Stmt)(t:TS):Prop:=
 ∀(pins:U5)(s:Shared)(σ:St)(H:Hp)(D:Ends),Inv X pins σ H s->t D σ H->wpAny (!4) X.A (exec st X.env) (SP X pins D) X.xe s
def  PSs(X:Cx)(st:List Stmt)(t:TS):Prop:=
 ∀(pins:U5)(s:Shared)(σ:St)(H:Hp)(D:Ends),Inv X pins σ H s->t D σ H->wpAny (!4) X.A (execs st X.env) (SP X pins D) X.xe s
def bw{Q g:α->Shared->Prop}(h:wpAny M A t Q E s)(j:∀a s,Q a s->g a s):wpAny M A t g E s:=VJ h j λ_ _ x=>x
section
variable{X:Cx}
def  Qi(i:Nat):TE:=λσ H Q=>∃v,σ[i]?=!(!v)/\Q v H
def  tC(v:V):TE:=λ_ H Q=>Q v H
def cM{pos}(U:X.N[i]?=!x)(t:tq X.env.scope x)(hd:(!7)=false:=by decide)(o:(!15)=false:=by decide):PE X (.Name x pos) (Qi i):=by
 intro pins s σ H Q I h;let⟨v,e,h⟩:=h;let⟨m,C,T⟩:=I.loc;let⟨u,r,l⟩:=T i x v U e t;have fin:EP X pins σ Q u s:=⟨v,H,I,r,h⟩;rcases l with⟨j,J⟩|⟨j,c,p,g⟩
 .exact wpAny_Name (wpAny_loadName_local I.ok.kind j C J fin) hd
 .rcases j with j|j
  .exact wpAny_Name (wpAny_loadName_cell I.ok.kind j p g fin) hd
  .exact wpAny_Name (wpAny_loadName_free I.ok.kind j p g fin o) hd
def pe_int:PE X (.Constant (.int i) j pos) (tC (.int i)):=λ_ _ _ H _ I h=>wpAny_Constant_int ⟨.int i,H,I.tok _,⟨_,rfl⟩,h⟩
def pe_bl:PE X (.Constant (.bool b) j pos) (tC (.bl b)):=λ_ _ _ H _ I h=>Constant_bool ⟨.bl b,H,I,rfl,h⟩
def pe_non:PE X (.Constant .none j pos) (tC .non):=λ_ _ _ H _ I h=>Constant_none ⟨.non,H,I,rfl,h⟩
def pe_str:PE X (.Constant (.str x) j pos) (tC (.str x)):=λ_ _ _ H _ I h=>Calls.Constant_str ⟨.str x,H,I.tok _,⟨_,rfl⟩,h⟩
def  Gl(X:Cx)(x:Str):Prop:=X.env.kindOf x=some .globalImplicit
def re{σ:St}(I:Inv X pins σ H s)(j:Gl X x)(g:X.mg x=!u)(h:Q u s)(hd:(!7)=false:=by decide):wpAny (!4) X.A (eval (.Name x pos) X.env) Q E s:=
 Calls.Name_function_global I.ok.kind j (Calls.loadGlobal_global (by rw[I.ok.glob];exact I.mod.glob.keeps I.bk) g h) hd
def dq{E}{σ:St}{pos}(I:Inv X pins σ H s)(o:Gl X x)(l:X.mg x=none)(g:bootBuiltins x=!u)(h:Q u s)(j:x≠"__name__":=by decide)(hd:(!7)=false:=by decide):wpAny (!4) X.A (eval (.Name x pos) X.env) Q E s:=by
 let⟨p,h1,h2⟩:=I.mod.blt;exact Calls.Name_function_global I.ok.kind o (Calls.loadGlobal_builtin (by rw[I.ok.glob];exact I.mod.glob.keeps I.bk) l (by rw[I.ok.blt];exact h1.keeps I.bk) ((h2 x j).trans g) h) hd
def Eh(j:Gl X x)(g:X.mg x=!u)(r:RelV v u)(hd:(!7)=false:=by decide):PE X (.Name x pos) (tC v):=
 λ_ _ _ H _ I h=>re I j g ⟨v,H,I,r,h⟩ hd
def Ei{pos}(o:Gl X x)(l:X.mg x=none)(g:bootBuiltins x=!u)(r:RelV v u)(j:x≠"__name__":=by decide)(hd:(!7)=false:=by decide):PE X (.Name x pos) (tC v):=
 λ_ _ _ H _ I h=>dq I o l g ⟨v,H,I,r,h⟩ j hd
variable{a b:Expr}{ta tb:TE}{pos:Pos}
variable{tA tB':TT}{rest:Vh}
def  Qj(t u:TT):TT:=λσ H Q=>t σ H λc H1=>if c=true then u σ H1 Q else Q false H1
def  Ub(t u:TT):TT:=λσ H Q=>t σ H λc H1=>if c=true then Q true H1 else u σ H1 Q
def  Qk(t:TT):TT:=λσ H Q=>t σ H λc H1=>Q (not c) H1
def pw_and1(g:PT X a tA):PW X (.BoolOp .And [a] pos) tA:=by
 intro j pins s σ H Q I h;refine isTrue_and (bw (g pins s σ H Q I h) λc l e=>?_);cases c with
 |true=>exact isTrue_and_nil e
 |false=>exact e
def pw_or1(g:PT X a tA):PW X (.BoolOp .Or [a] pos) tA:=by
 intro j pins s σ H Q I h;refine isTrue_or (bw (g pins s σ H Q I h) λc l e=>?_);cases c with
 |false=>exact isTrue_or_nil e
 |true=>exact e
def pw_and(r:PT X a tA)(p:PW X (.BoolOp .And (b::rest) pos) tB'):PW X (.BoolOp .And (a::b::rest) pos) (Qj tA tB'):=by
 intro l pins s σ H Q I h;refine isTrue_and (bw (r pins s σ H _ I h) λc o ⟨H1,j,g⟩=>?_);cases c with
 |true=>exact p l pins o σ H1 Q j g
 |false=>exact⟨H1,j,g⟩
def pw_or(r:PT X a tA)(p:PW X (.BoolOp .Or (b::rest) pos) tB'):PW X (.BoolOp .Or (a::b::rest) pos) (Ub tA tB'):=by
 intro l pins s σ H Q I h;refine isTrue_or (bw (r pins s σ H _ I h) λc o ⟨H1,j,g⟩=>?_);cases c with
 |true=>exact⟨H1,j,g⟩
 |false=>exact p l pins o σ H1 Q j g
def Iv(g:PT X a tA):PT X (.UnaryOp .Not a pos) (Qk tA):=by
 intro pins s σ H Q I h;exact isTrue_not (g pins s σ H (λc H1=>Q (not c) H1) I h)
def  LW(ta tb:TE):TE:=λσ H Q=>ta σ H λx H1=>∃c,x=.bl c/\if c=true then tb σ H1 Q else Q (.bl false) H1
def  Ql(ta tb:TE):TE:=λσ H Q=>ta σ H λx H1=>∃c,x=.bl c/\if c=true then Q (.bl true) H1 else tb σ H1 Q
def  LX(ta:TE):TE:=λσ H Q=>ta σ H λx H1=>∃c,x=.bl c/\Q (.bl (not c)) H1
def Iw(h:PE X a t):PE X (.BoolOp op [a] pos) t:=λpins s σ H Q I g=>BoolOp_one (h pins s σ H Q I g)
def Ix(r:PE X a ta)(p:PE X (.BoolOp .And (b::rest) pos) tb):PE X (.BoolOp .And (a::b::rest) pos) (LW ta tb):=by
 intro pins s σ H Q I h;refine BoolOp_and (bw (r pins s σ H _ I h) λv l ⟨x,H1,j,o,g⟩=>?_);let⟨c,rfl,g⟩:=g;cases o;refine wpAny_truthy_bool ?_;cases c with
 |true=>exact p pins l σ H1 Q j g
 |false=>exact⟨.bl false,H1,j,rfl,g⟩
def LY(ha:PE X a ta)(hb:PE X (.BoolOp .Or (b::rest) pos) tb):PE X (.BoolOp .Or (a::b::rest) pos) (Ql ta tb):=by
 intro pins s σ H Q I h;refine BoolOp_or (bw (ha pins s σ H _ I h) λv s1 ⟨x,H1,I1,r1,q1⟩=>?_);let⟨c,rfl,q1⟩:=q1;cases r1;refine wpAny_truthy_bool ?_;cases c with
 |false=>exact hb pins s1 σ H1 Q I1 q1
 |true=>exact⟨.bl true,H1,I1,rfl,q1⟩
def Iy(l:PE X a ta):PE X (.UnaryOp .Not a pos) (LX ta):=by
 intro pins s σ H Q I h;refine UnaryOp_ (bw (l pins s σ H _ I h) λv p ⟨x,H1,o,j,g⟩=>?_);let⟨c,rfl,g⟩:=g;cases j;exact not_of (wpAny_truthy_bool ⟨.bl (not c),H1,o,rfl,g⟩)
def  Uc(t:TT)(ta tb:TE):TE:=λσ H Q=>t σ H λc H1=>if c=true then ta σ H1 Q else tb σ H1 Q
def tK(o:PT X c tA)(r:PE X a ta)(p:PE X b tb):PE X (.IfExp c a b pos) (Uc tA ta tb):=by
 intro pins s σ H Q I h;refine wpAny_IfExp (bw (o pins s σ H _ I h) λd g ⟨H1,l,j⟩=>?_);cases d with
 |true=>exact r pins g σ H1 Q l j
 |false=>exact p pins g σ H1 Q l j
end
def  SqL(K:Frag)(H:Hp)(a:Addr)(xs:List V):Prop:=
 Rd H a (.lst xs)\/
  ∃(o:Obj)(its:Vf)(n:Nat),K.lookup a=!o/\o.cls=.type "list"/\o.dict=none/\o.data=.seq its n/\its.size<=sizeLine/\Vals xs its.toList
def  SqT(K:Frag)(H:Hp)(a:Addr)(xs:List V):Prop:=
 Rd H a (.tup xs)\/
  ∃(o:Obj)(its:Vf)(n:Nat),K.lookup a=!o/\o.cls=.type "tuple"/\o.data=.seq its n/\its.size<=sizeLine/\Vals xs its.toList
def  Qm:Value->Option V
 |.none=>some .non
 |.bool b=>!(.bl b)
 |.int i _=>!(.int i)
 |.str x _=>!(.str x)
 |.bytes b _=>!(.byt b)
 |.float b _=>!(.flt b)
 |.ref a=>!(.ref a)
 |.type n=>!(.ty n)
 |_=>none
def RelV.abs(r:RelV x u):Qm u=!x:=by
 cases x with
 |non=>cases r;rfl
 |bl _=>cases r;rfl
 |int _=>let⟨t,rfl⟩:=r;rfl
 |str _=>let⟨t,rfl⟩:=r;rfl
 |byt _=>let⟨t,rfl⟩:=r;rfl
 |flt _=>let⟨t,rfl⟩:=r;rfl
 |ref _=>cases r;rfl
 |ty _=>cases r;rfl
def RelV.inj(r:RelV x u)(q:RelV y u):x=y:=Option.some.inj (r.abs.symm.trans q.abs)
def Vals.inj:∀{xs ys:List V}{us:U9},Vals xs us->Vals ys us->xs=ys
 |_,_,_,.nil,.nil=>rfl
 |_,_,_,.cons r t,.cons r' t'=>by rw[r.inj r',Vals.inj t t']
section
variable{X:Cx}{pins:U5}{σ:St}{H:Hp}{s:Shared}{a:Addr}{xs ys:List V}
def SqL.up{K}(h:∀b o,H b=!o->H' b=!o)(q:SqL K H a xs):SqL K H' a xs:=by
 rcases q with(q|⟨o,q⟩)|q
 .exact .inl (.inl (h _ _ q))
 .exact .inl (.inr ⟨o,h _ _ q⟩)
 .exact .inr q
def SqL.of{K}(h:H a=!(.lst xs)):SqL K H a xs:=.inl (.inl h)
def SqT.of{K}(h:H a=!(.tup xs)):SqT K H a xs:=.inl (.inl h)
def Inv.list(I:Inv X pins σ H s)(h:SqL X.K H a xs):∃g:U9,Vals xs g/\PlainL s.heap a g.toArray/\xs.length<=sizeLine:=by
 rcases h with h|⟨o,g,n,l,p,hd,j,t,r⟩
 .let⟨z,g,n,r,e⟩:=h.ok I.hok;exact⟨g,r,⟨_,n,e,rfl,rfl,rfl⟩,z⟩
 .refine⟨g.toList,r,⟨o,n,I.kIn a o l,p,hd,by simpa using j⟩,?_⟩;have e:=r.length;simp only[Array.length_toList]at e;omega
def Inv.tuple(I:Inv X pins σ H s)(h:SqT X.K H a xs):∃g:U9,Vals xs g/\IsTup s.heap a g.toArray/\xs.length<=sizeLine:=by
 rcases h with h|⟨o,g,n,l,t,j,C,r⟩
 .let⟨z,g,r,p⟩:=h.ok I.hok;exact⟨g,r,p,z⟩
 .refine⟨g.toList,r,⟨o,I.kIn a o l,t,n,by simpa using j⟩,?_⟩;have e:=r.length;simp only[Array.length_toList]at e;omega
def Inv.list_inj(I:Inv X pins σ H s)(h:SqL X.K H a xs)(h':SqL X.K H a ys):xs=ys:=by
 let⟨j,r,⟨o,n,e,_,_,d⟩,_⟩:=I.list h;let⟨g,t,⟨o',C,l,_,_,p⟩,_⟩:=I.list h';rw[e]at l;cases l;rw[d]at p;injection p with d1 _;have:j=g:=by simpa using congrArg Array.toList d1
 subst this;exact r.inj t
def Inv.tuple_inj(I:Inv X pins σ H s)(h:SqT X.K H a xs)(h':SqT X.K H a ys):xs=ys:=by
 let⟨j,r,⟨o,e,_,n,d⟩,_⟩:=I.tuple h;let⟨g,t,⟨o',l,_,C,p⟩,_⟩:=I.tuple h';rw[e]at l;cases l;rw[d]at p;injection p with d1 _;have:j=g:=by simpa using congrArg Array.toList d1
 subst this;exact r.inj t
end
noncomputable abbrev Cx.wish(X:Cx)(E:U8):Cx:={X with xe:=E}
abbrev Cx.nox(X:Cx):Cx:=X.wish λ_ _=>False
def Cx.Ok.wish{X:Cx}(ok:X.Ok)(E:U8):(X.wish E).Ok:=
 ⟨ok.mod,ok.kind,ok.glob,ok.blt,ok.above,ok.inj,ok.has,ok.cab,ok.hd,ok.frames,ok.stk,ok.exf,ok.bs,ok.bsz,ok.noex,ok.exfs,ok.funs,ok.frf⟩
def Cx.Ok.unwish{X:Cx}(ok:(X.wish E).Ok):X.Ok:=
 ⟨ok.mod,ok.kind,ok.glob,ok.blt,ok.above,ok.inj,ok.has,ok.cab,ok.hd,ok.frames,ok.stk,ok.exf,ok.bs,ok.bsz,ok.noex,ok.exfs,ok.funs,ok.frf⟩
def Inv.wish(I:Inv X pins σ H s)(E:U8):Inv (X.wish E) pins σ H s:=⟨I.ok.wish E,I.os,I.bare,I.base,I.loc,I.cell,I.free,I.freeC,I.pin,I.hok,I.len⟩
def Inv.unwish(I:Inv (X.wish E) pins σ H s):Inv X pins σ H s:=⟨I.ok.unwish,I.os,I.bare,I.base,I.loc,I.cell,I.free,I.freeC,I.pin,I.hok,I.len⟩
def SP.unwish{X:Cx}{pins:U5}{E:U8}{D}(h:SP (X.wish E) pins D f s'):SP X pins D f s':=by
 cases f with
 |next=>let⟨g,H',I,q⟩:=h;exact⟨g,H',I.unwish,q⟩
 |brk=>let⟨g,H',I,q⟩:=h;exact⟨g,H',I.unwish,q⟩
 |cont=>let⟨g,H',I,q⟩:=h;exact⟨g,H',I.unwish,q⟩
 |ret u=>let⟨v,g,H',I,r,q⟩:=h;exact⟨v,g,H',I.unwish,r,q⟩
def PSs.nox{X:Cx}{st}(h:PSs X.nox st t):PSs X st t:=λpins s σ H D I g=>
 VJ (h pins s σ H D (I.wish _) g) (λ_ _ q=>q.unwish) λ_ _ z=>False.elim z
section
variable{X:Cx}{st:Stmt}{rest:List Stmt}{t u:TS}{e:Expr}{te:TE}{pos:Pos}
def  As:TS:=λD σ H=>D.nx σ H
def  Qn(t u:TS):TS:=λD σ H=>t {D with nx:=u D} σ H
def pss_nil:PSs X [] As:=λ_ _ σ H _ I h=>wpAny_execs_nil ⟨σ,H,I,h⟩
def kM(h1:PS X st t)(h2:PSs X rest u):PSs X (st::rest) (Qn t u):=by
 intro pins s σ H D I h;refine wpAny_execs_cons (bw (h1 pins s σ H {D with nx:=u D} I h) λf j q=>?_);cases f with
 |next=>
  let⟨g,H',l,q⟩:=q;exact h2 pins j g H' D l q
 |ret v=>exact q
 |brk=>exact q
 |cont=>exact q
def ps_pass:PS X (.Pass pos) As:=λ_ _ σ H _ I h=>wpAny_Pass ⟨σ,H,I,h⟩
def Inv.quiet{σ:St}(I:Inv X pins σ H s):interactive X.env=false:=by simp[interactive,I.ok.kind]
def ps_doc:PS X (.Expr (.Constant (.str x) j pos) pos') As:=λ_ s σ H _ I h=>wpAny_Expr (Calls.Constant_str (⟨σ,H,I.tok _,h⟩)) I.quiet
def  LZ(te:TE):TS:=λD σ H=>te σ H λ_ H1=>D.nx σ H1
def je(l:PE X e te)(j:swapsWith e none pos.line X.env=pure false:=by rfl):PS X (.Expr e pos) (LZ te):=by
 intro pins s σ H D I h;exact wpAny_Expr_any (bw (l pins s σ H _ I h) λv p ⟨x,H1,o,r,g⟩=>⟨σ,H1,o,g⟩) I.quiet j
def  Qo(te:TE):TS:=λD σ H=>te σ H D.rt
def At(l:PE X e te):PS X (.Return (!e) pos) (Qo te):=by
 intro pins s σ H D I h;exact wpAny_Return_some (bw (l pins s σ H _ I h) λv p ⟨x,H1,o,g,j⟩=>⟨x,σ,H1,o,g,j⟩)
def  L0:TS:=λD _ H=>D.rt .non H
def ps_retN:PS X (.Return none pos) L0:=λ_ _ σ H _ I h=>wpAny_Return_none ⟨.non,σ,H,I,rfl,h⟩
def  Qp(c:TT)(t u:TS):TS:=λD σ H=>c σ H λb H1=>if b=true then t D σ H1 else u D σ H1
def L4(o:PT X c tc)(r:PSs X a t)(p:PSs X b u):PS X (.If c a b pos) (Qp tc t u):=by
 intro pins s σ H D I h;refine wpAny_If (bw (o pins s σ H _ I h) λd g ⟨H1,l,j⟩=>?_);cases d with
 |true=>exact r pins g σ H1 D l j
 |false=>exact p pins g σ H1 D l j
def  Au:TS:=λ_ _ _=>False
def ps_never:PS X st Au:=λ_ _ _ _ _ _ h=>h.elim
def pss_never:PSs X J Au:=λ_ _ _ _ _ _ h=>h.elim
end
abbrev TG:=V->St->Hp->(St->Hp->Prop)->Prop
abbrev Hq:=List V->St->Hp->(St->Hp->Prop)->Prop
def  PG(X:Cx)(target:Expr)(t:TG):Prop:=
 ∀(pins:U5)(s:Shared)(σ:St)(H:Hp)(v:V)(u:Value)(Q:St->Hp->Prop),Inv X pins σ H s->RelV v u->t v σ H Q->
  wpAny (!4) X.A (assign target X.env u) (λ_ s'=>∃σ' H',Inv X pins σ' H' s'/\Q σ' H') X.xe s
def  PGs(X:Cx)(ts:Vh)(t:Hq):Prop:=
 ∀(pins:U5)(s:Shared)(σ:St)(H:Hp)(vs:List V)(us:U9)(Q:St->Hp->Prop),Inv X pins σ H s->Vals vs us->t vs σ H Q->
  wpAny (!4) X.A (assignInOrder ((assignEach ts X.env).map (·.2)) us) (λ_ s'=>∃σ' H',Inv X pins σ' H' s'/\Q σ' H') X.xe s
abbrev Iz:=V->V->V->Hp->(Hp->Prop)->Prop
def  IA(X:Cx)(t:Iz):Prop:=
 ∀(pins:U5)(s:Shared)(σ:St)(H:Hp)(o i v:V)(ov iv u:Value)(Q:Hp->Prop),Inv X pins σ H s->RelV o ov->RelV i iv->RelV v u->t o i v H Q->
  wpAny (!4) X.A (setItem ov iv u) (λ_ s'=>∃H',Inv X pins σ H' s'/\Q H') X.xe s
section
variable{X:Cx}{pos:Pos}
def  tL(i:Nat):TG:=λv σ H Q=>Q (σ.set i (!v)) H
def xq(l:X.N.Nodup)(hi:X.N[i]?=!x)(g:Eg X.env.scope x)(j:X.fn x=true\/X.env.scope.names.lookup x=some .local:=by first|exact .inl rfl|exact .inr rfl|assumption):PG X (.Name x pos) (tL i):=by
 intro pins s σ H v u Q I r h;exact wpAny_assign_Name (tI I l hi g r (λs' o=>⟨_,H,o,h⟩) j)
def  Qq:Hq:=λvs σ H Q=>vs=[]/\Q σ H
def  L5(t:TG)(u:Hq):Hq:=λvs σ H Q=>∃v r,vs=v::r/\t v σ H λσ' H'=>u r σ' H' Q
def pgs_nil:PGs X [] Qq:=by
 intro pins s σ H g j Q I r h;let⟨e,h⟩:=h;exact assignInOrder_nil ⟨σ,H,I,h⟩
def tM(h1:PG X e t)(h2:PGs X es u)(p:(assignEach (e::es) X.env).map (·.2)=assign e X.env::(assignEach es X.env).map (·.2):=by rfl):PGs X (e::es) (L5 t u):=by
 intro pins s σ H T us Q I r h;let⟨v,U,C,h⟩:=h;subst C;cases r with
 |cons r l=>
  rw[p];refine assignInOrder_cons (bw (h1 pins s σ H _ _ _ I r h) λ_ j ⟨g,H1,J,o⟩=>?_);exact h2 pins j g H1 _ _ Q J l o
def  Qr(K:Frag)(n:Nat)(t:Hq):TG:=λv σ H Q=>∃a xs,v=.ref a/\SqT K H a xs/\xs.length=n/\t xs σ H Q
def Av{k}(hc:X.calm=true)(h:PGs X es t)(hn:(assignEach es X.env).length=n:=by rfl)(hst:(assignEach es X.env).findIdx? (·.1)=none:=by rfl):PG X (.Tuple es k pos) (Qr X.K n t):=by
 intro pins s σ H v u Q I r hw;let⟨a,xs,e1,hq,hl,hw⟩:=hw;subst e1;cases r;let⟨its,rv,ht,hz⟩:=I.tuple hq;refine assign_Tuple_tuple (I.ok.hd hc) ht (by simp[hn,<-hl,rv.length]) hst λh' hx=>?_;have I1:Inv X pins σ H {s with heap:=h'}:=I.kept λb o e=>hx b o (Vy (Vn e)) e;exact h pins _ σ H xs _ Q I1 (by simpa using rv) hw
def  Qs(to ti:TE)(t:Iz):TG:=λv σ H Q=>to σ H λo H1=>ti σ H1 λi H2=>t o i v H2 λH3=>Q σ H3
def Aw(ho:PE X o to)(hi:PE X i l)(hs:IA X t)(ha:∀v,assign (.Subscript o i pos) X.env v=(do
  let g<-holding [v] (eval o X.env)
  let j<-holding [v,g] (eval i X.env)
  standAt pos
  holding [v,g,j] (setItem g j v)
  release [v,g,j] []):=by intro _;rfl):PG X (.Subscript o i pos) (Qs to l t):=by
 intro pins s σ H v u Q I r h
 refine Vk (wpAny_holding (bw (ho pins s σ H _ I h) λg C ⟨x,H1,I1,T,q1⟩=>?_))
 refine Vk (wpAny_holding (bw (hi pins C σ H1 _ I1 q1) λj p ⟨y,H2,I2,J,q2⟩=>?_))
 refine Vk (wpAny_standAt (Vk (wpAny_holding (bw (hs pins p σ H2 x y v g j u _ I2 T J r q2) λ_ s3 ⟨H3,I3,U⟩=>?_))))
 exact wpAny_release ⟨σ,H3,I3,U⟩
def  Ax(te:TE)(g:TG):TS:=λD σ H=>te σ H λx H1=>g x σ H1 D.nx
def rg(C:PE X e te)(t:PG X tg g)(r:swapsWithSole [tg] e pos.line X.env=pure false:=by rfl)(p:swappedStores [tg] e X.env=pure none:=by rfl)(h1:(assignEach [tg] X.env).map (·.2)=[assign tg X.env]:=by rfl):PS X (.Assign [tg] e pos) (Ax te g):=by
 intro pins s σ H D I h;refine wpAny_Assign_stores (bw (C pins s σ H _ I h) λv j ⟨x,H1,J,l,o⟩=>?_) r p;rw[h1];exact bw (t pins j σ H1 x v _ J l o) λ_ T q=>q
def IB(t:X.N.Nodup)(hi:X.N[i]?=!x)(l:Eg X.env.scope x)(r:PE X e te)(o:swapsWith e (!(.Name x pos')) pos.line X.env=pure false:=by rfl)(p:X.fn x=true\/X.env.scope.names.lookup x=some .local:=by first|exact .inl rfl|exact .inr rfl|assumption):
  PS X (.Assign [.Name x pos'] e pos) (Ax te (tL i)):=by
 intro pins s σ H D I h
 refine wpAny_Assign_Name (bw (r pins s σ H _ I h) λv U ⟨y,H1,J,g,j⟩=>?_) o
 exact tI J t hi l g (λT C=>⟨_,H1,C,j⟩) p
end
def  IC(c:TT)(tb:TS):TS:=λD σ H=>∃W:Nat->St->Hp->Prop,(∃m,W m σ H)/\∀m σ H,W m σ H->
 c σ H λb H1=>if b=true then∃N:St->Hp->Prop,(∀σ' H',N σ' H'->∃m',m'<m/\W m' σ' H')/\tb {D with nx:=N,ct:=N,bk:=D.nx} σ H1 else D.nx σ H1
def Ay{X:Cx}{pos:Pos}{c:Expr}{body:List Stmt}{tc:TT}{tb:TS}(hp:PassesOwn (!4) X.A X.env X.xe)(hc:PT X c tc)(hb:PSs X body tb):PS X (.While c body [] pos) (IC tc tb):=by
 intro pins s σ H D I h;let⟨W,⟨m0,w0⟩,turn⟩:=h;refine wpAny_While (codeAny_whileLoop (λn s'=>∃σ' H',Inv X pins σ' H' s'/\W n σ' H') ?_ m0 ⟨σ,H,I,w0⟩);rintro n s1 ⟨σ1,H1,I1,w1⟩;refine wpAny_passesOwn hp (bw (hc pins s1 σ1 H1 _ I1 (turn n σ1 H1 w1)) λb s2 ⟨H2,I2,q2⟩=>?_);cases b with
 |true=>
  let⟨N,hN,q2⟩:=q2;rw[if_pos rfl];refine wpAny_passesOwn hp (bw (hb pins s2 σ1 H2 _ I2 q2) λf s3 q3=>?_);cases f with
  |next=>
   let⟨σ3,H3,I3,n3⟩:=q3;let⟨m',hm,w3⟩:=hN σ3 H3 n3;exact⟨m',hm,σ3,H3,I3,w3⟩
  |cont=>
   let⟨σ3,H3,I3,n3⟩:=q3;let⟨m',hm,w3⟩:=hN σ3 H3 n3;exact⟨m',hm,σ3,H3,I3,w3⟩
  |brk=>exact q3
  |ret v=>exact q3
 |false=>
  rw[if_neg Bool.false_ne_true];exact wpAny_execs_nil ⟨σ1,H2,I2,q2⟩
structure It where
 go:Nat->Hp->Prop
 yld:Nat->Hp->V->Hp->Prop
 stop:Nat->Hp->Prop
def  j8(X:Cx)(pins:U5)(H:Hp)(b:Addr):Prop:=
 H b=none/\b≠X.env.locals/\b ∉ X.fs/\(b∈X.ex\/X.s₀.heap.objs.size<=b)/\(∀x c,X.env.cells.lookup x=!c->c≠b)/\∀p∈X.pn++pins,p.1≠b
def Inv.fpOk{σ:St}{b:Addr}(I:Inv X pins σ H s)(g:s.heap.objs.size<=b)(l:H' b=none):j8 X pins H' b:=by
 refine⟨l,Nat.ne_of_gt (Vu I.lt g),I.nofs g,.inr (Vx I.sz g),λx c e z=>?_,λp j z=>?_⟩
 .let⟨v,q⟩:=I.cell x c e;exact absurd (Vu q.lt (by rw[z];exact g)) (VD _)
 .exact absurd (Vu (Vn (I.pin p j).1) (by rw[z];exact g)) (VD _)
structure Turn(P:Program)(w:World)(K:Frag)(tg:Expr)(J:It)(fp:List Addr)(it:Addr)(tn:Nat->Heap->Prop):Prop where
 mem:it∈fp
 obj:∀i h,tn i h->∀b∈fp,∃o,h.get? b=!o/\∀v,o.data≠.cell v
 keep:∀i h h',tn i h->(∀b∈fp,∀o,h.get? b=!o->h'.get? b=!o)->tn i h'
 item:∀(X:Cx),X.prog=P->X.w=w->X.K=K->X.calm=true->∀(i:Nat)(pins:U5)(s:Shared)(σ:St)(H:Hp)(E:U8),Inv X pins σ H s->(∀b∈fp,j8 X pins H b)->tn i s.heap->J.go i H->
  wpAny (model P w) X.A (pyNext (.ref it)) (λr s1=>∃u,r=!u/\
   wpAny (model P w) X.A (letOwnedTupleGo tg (.ref it) u) (λ_ s2=>∃x H',Inv X pins σ H' s2/\RelV x u/\J.yld i H x H'/\tn (i+1) s2.heap/\∀b∈fp,H' b=none) E s1) E s
 done:∀(X:Cx),X.prog=P->X.w=w->X.K=K->X.calm=true->∀(i:Nat)(pins:U5)(s:Shared)(σ:St)(H:Hp)(E:U8),Inv X pins σ H s->(∀b∈fp,j8 X pins H b)->tn i s.heap->J.stop i H->
  wpAny (model P w) X.A (pyNext (.ref it)) (λr s1=>r=none/\Inv X pins σ H s1) E s
 self:∀(A:Around)(i:Nat)(s:Shared)(Q:U8)(E:U8),tn i s.heap->Q (.ref it) s->wpAny (model P w) A (pyIter (.ref it)) Q E s
noncomputable abbrev TI:=St->Hp->(It->Hp->Prop)->Prop
def  SK(X:Cx)(pins:U5)(σ:St)(tg:Expr)(R:It->Hp->Prop)(itv:Value)(s2:Shared):Prop:=
 ∃(it:Addr)(fp:List Addr)(tn:Nat->Heap->Prop)(J:It)(H':Hp),itv=.ref it/\Inv X pins σ H' s2/\Turn X.prog X.w X.K tg J fp it tn/\tn 0 s2.heap/\(∀b∈fp,j8 X pins H' b)/\R J H'
def  PI(X:Cx)(tg iter:Expr)(wi:TI):Prop:=
 ∀(pins:U5)(s:Shared)(σ:St)(H:Hp)(R:It->Hp->Prop),Inv X pins σ H s->wi σ H R->
  wpAny (!4) X.A (eval iter X.env) (λv s1=>wpAny (!4) X.A (pyIter v) (SK X pins σ tg R) X.xe s1) X.xe s
def xt(p:s.heap.get? l = !o)(t:o.cls = .type n)(hd:o.data = .fields j)(r:["enumerate", "zip", "dict_itemiterator", "dict_reverseitemiterator", "odict_iterator", "itertools.zip_longest", "itertools.pairwise"].contains n = false)(g:Q () s):wpAny M A (letOwnedTupleGo tg (.ref l) u) Q E s:=by
  cases tg <;> first
    | exact Vm g
    | (cases u <;> first
        | exact Vm g
        | (refine Vk (wpAny_load p ?_)
           rw [t,hd]
           show wpAny M A (if (["enumerate", "zip", "dict_itemiterator", "dict_reverseitemiterator", "odict_iterator", "itertools.zip_longest", "itertools.pairwise"].contains n && j[0]? == !(rawInt _)) = true then _ else _) Q E s
           rw [if_neg (by intro h; rw [r,Bool.false_and] at h; cases h)]
           exact Vm g))
noncomputable def  Qt(K:Frag)(a:Addr):It:=
 ⟨λi H=>∃xs x,SqL K H a xs/\xs[i]?=!x,λi H x H'=>H'=H/\∀xs,SqL K H a xs->xs[i]?=!x,λi H=>∃xs,SqL K H a xs/\xs.length<=i⟩
noncomputable def  Qu(K:Frag)(a:Addr):It:=
 ⟨λi H=>∃xs x,SqT K H a xs/\xs[i]?=!x,λi H x H'=>H'=H/\∀xs,SqT K H a xs->xs[i]?=!x,λi H=>∃xs,SqT K H a xs/\xs.length<=i⟩
def  Pl(lo:Int)(n:Nat):It:=⟨λi _=>i<n,λi H x H'=>H'=H/\x=.int (lo+i),λi _=>n<=i⟩
def y0{P:Program}{w:World}{K:Frag}{tg:Expr}(a g:Addr):Turn P w K tg (Qt K a) [g] g (λi h=>h.IsListIter g a i) where
 mem:=by simp
 obj:=λi h st b j=>by
  have e:b=g:=by simpa using j
  subst e;let⟨o,e,c,d⟩:=st;exact⟨o,e,λv z=>by rw[d]at z;cases z⟩
 keep:=λi h h' st k=>st.at λo e=>k g (by simp) o e
 item:=by
  intro X hP T hK hc i pins s σ H E I t st U;subst hP T hK;let⟨xs,x,r,J⟩:=U;let⟨C,rv,p,hz⟩:=I.list r;let⟨u,hu,ru⟩:=rv.get J;let⟨f0,f1,f2,f3,f4,f5⟩:=t g (by simp);refine wpAny_pyNext_list_item st p.isList (by simpa using hu) λh' l sb=>?_;have I1:Inv X pins σ H {s with heap:=h'}:=I.turned (λb o j e=>(sb.2 b j).trans e) f0 f1 f3 f4 f5;let⟨o,e,c,d⟩:=id l;exact⟨u,rfl,xt e c d (!2) ⟨x,H,I1,ru,⟨rfl,λys hy=>by rw[I.list_inj hy r];exact J⟩,l,λb j=>(t b j).1⟩⟩
 done:=by
  intro X hP T hK hc i pins s σ H E I t st U;subst hP T hK;let⟨xs,r,J⟩:=U;let⟨C,rv,p,hz⟩:=I.list r;let⟨f0,f1,f2,f3,f4,f5⟩:=t g (by simp);have hl:=rv.length;exact wpAny_pyNext_list_end (I.ok.hd hc) st p.isList (by simp;omega) λh' eb=>⟨rfl,I.turned (λb o j e=>eb b o j e) f0 f1 f3 f4 f5⟩
 self:=λ_ _ _ _ _ st h=>wpAny_pyIter_listiter st h
def vB{P:Program}{w:World}{K:Frag}{tg:Expr}(a g:Addr):Turn P w K tg (Qu K a) [g] g (λi h=>h.IsTupleIter g a i) where
 mem:=by simp
 obj:=λi h st b j=>by
  have e:b=g:=by simpa using j
  subst e;let⟨o,e,c,d⟩:=st;exact⟨o,e,λv z=>by rw[d]at z;cases z⟩
 keep:=λi h h' st k=>st.at λo e=>k g (by simp) o e
 item:=by
  intro X hP T hK hc i pins s σ H E I t st U;subst hP T hK;let⟨xs,x,r,J⟩:=U;let⟨C,rv,p,hz⟩:=I.tuple r;let⟨u,hu,ru⟩:=rv.get J;let⟨f0,f1,f2,f3,f4,f5⟩:=t g (by simp);refine wpAny_pyNext_tuple_item st (p) (by simpa using hu) λh' l sb=>?_;have I1:Inv X pins σ H {s with heap:=h'}:=I.turned (λb o j e=>(sb.2 b j).trans e) f0 f1 f3 f4 f5;let⟨o,e,c,d⟩:=id l;exact⟨u,rfl,xt e c d (!2) ⟨x,H,I1,ru,⟨rfl,λys hy=>by rw[I.tuple_inj hy r];exact J⟩,l,λb j=>(t b j).1⟩⟩
 done:=by
  intro X hP T hK hc i pins s σ H E I t st U;subst hP T hK;let⟨xs,r,J⟩:=U;let⟨C,rv,p,hz⟩:=I.tuple r;let⟨f0,f1,f2,f3,f4,f5⟩:=t g (by simp);have hl:=rv.length;exact wpAny_pyNext_tuple_end (I.ok.hd hc) st (p) (by simp;omega) λh' eb=>⟨rfl,I.turned (λb o j e=>eb b o j e) f0 f1 f3 f4 f5⟩
 self:=λ_ _ _ _ _ st h=>wpAny_pyIter_tupleiter st h
def vC{P:Program}{w:World}{K:Frag}{tg:Expr}(g:Addr)(lo:Int)(n:Nat):Turn P w K tg (Pl lo n) [g] g (λi h=>IsRangeIter h g (lo+(i:Nat)*1) ((n:Int)-(i:Nat)) 1) where
 mem:=by simp
 obj:=λi h st b j=>by
  have e:b=g:=by simpa using j
  subst e;exact⟨_,st,λv z=>by
   have z':=z;cases z'⟩
 keep:=λi h h' st k=>k g (by simp) _ st
 item:=by
  intro X hP hw hK C i pins s σ H E I p st r;subst hP hw hK;let⟨f0,f1,f2,U,T,J⟩:=p g (by simp);have W:=Walks.range (prog:=X.prog) (w:=X.w) (I.ok.hd C) g lo 1 n;refine W.item i s _ _ r st λv h' tk hv l kk=>?_;let⟨t,rfl⟩:=hv;have I1:Inv X pins σ H {s with heap:=h',toks:=tk}:=I.turned (λb o j e=>kk b o (by simpa using j) e) f0 f1 U T J;refine⟨_,rfl,xt l rfl rfl (!2) ⟨.int _,H,I1,⟨t,?_⟩,⟨rfl,rfl⟩,l,λb j=>(p b j).1⟩⟩;rw[Int.mul_one]
 done:=by
  intro X hP hw hK C i pins s σ H E I p st r;let⟨f0,f1,f2,U,T,J⟩:=p g (by simp);exact wpAny_pyNext_range_end (I.ok.hd C) st (by have:n<=i:=r;omega) λh' eb=>⟨rfl,I.turned (λb o j e=>eb b o j e) f0 f1 U T J⟩
 self:=λ_ _ _ _ _ st h=>wpAny_pyIter_rangeiter st h
section
variable{X:Cx}{tg:Expr}
def Az{σ:St}{lo hi}(I:Inv X pins σ H s)(h1:-(2^62)<=lo)(h2:lo<2^62)(h3:-(2^62)<=hi)(h4:hi<2^62)(q:R (Pl lo (hi-lo).toNat) H):wpAny (!4) X.A (pyIter (.ref s.heap.objs.size)) (SK X pins σ tg R) E {s with heap:=s.heap.push {cls:=.type "range",data:=.fields #[.int lo t,.int hi u,.int 1 v]},toks:=tk}:=by
 refine wpAny_pyIter_range (IsRange.new ..) (small_one h1 h2 h3 h4) ?_;have I1:Inv X pins σ H {s with heap:=s.heap.push {cls:=.type "range",data:=.fields #[.int lo t,.int hi u,.int 1 v]},toks:=tk}:=I.kept λb o e=>Vl _ e;refine⟨(s.heap.push {cls:=.type "range",data:=.fields #[.int lo t,.int hi u,.int 1 v]}).objs.size,[(s.heap.push {cls:=.type "range",data:=.fields #[.int lo t,.int hi u,.int 1 v]}).objs.size],_,_,H,rfl,
  I1.kept λb o e=>Vl _ e,vC _ lo (hi-lo).toNat,?_,λb hb=>?_,q⟩
 .have e1:lo+((0:Nat):Int)*1=lo:=by simp
  have e2:(((hi-lo).toNat:Nat):Int)-((0:Nat):Int)=Builtin.Range.rangeSize lo hi 1:=by rw[rangeSize_one];split<;>omega
  rw[e1,e2];exact Vo _ rfl
 .have e:b=(s.heap.push {cls:=.type "range",data:=.fields #[.int lo t,.int hi u,.int 1 v]}).objs.size:=by simpa using hb
  subst e;exact I1.fpOk (VI _) (I1.hok.fresh (VI _))
def  L6(ta:TA):TI:=λσ H R=>ta σ H λvs H1=>∃j:Int,vs=[.int j]/\ -(2^62)<=j/\j<2^62/\R (Pl 0 j.toNat) H1
def y6(U:Gl X "range")(T:X.mg "range"=none)(ha:PA X [a] ta)(J:starEach [a] X.env=[(false,eval a X.env)]:=by rfl):PI X tg (.Call (.Name "range" p) [a] [] pos) (L6 ta):=by
 intro pins s σ H R I h;refine Call_ (dq I U T boot_range (PyProof.Rows.callWith_type1 (bw (ha pos pins s σ H _ I h) λus s1 ⟨vs,H1,I1,o,g⟩=>?_) J rfl));let⟨j,e,g,C,q⟩:=g;subst e;cases o with
 |cons r l=>
  cases l;let⟨t,rfl⟩:=r;exact call_range_1 (Az I1 (!1) (!1) g C (by simpa using q))
def  L7(wi:TI)(g:TG)(tb:TS):TS:=λD σ H=>wi σ H λJ H1=>∃W:Nat->Nat->St->Hp->Prop,(∃m,W 0 m σ H1)/\∀i m σ H,W i m σ H->
 (J.stop i H/\D.nx σ H)\/(J.go i H/\∃N:St->Hp->Prop,(∀σ' H',N σ' H'->∃m',m'<m/\W (i+1) m' σ' H')/\∀x H',J.yld i H x H'->g x σ H' λσ2 H2=>tb {D with nx:=N,ct:=N,bk:=D.nx} σ2 H2)
def  nS(fp:List Addr)(h:Heap):U5:=fp.filterMap λb=>(h.get? b).map λo=>(b,o)
def gN(g:b∈fp)(e:h.get? b=!o):(b,o)∈nS fp h:=List.mem_filterMap.mpr ⟨b,g,by rw[e];rfl⟩
def y7(g:p∈nS fp h):p.1∈fp/\h.get? p.1=!p.2:=by
 let⟨b,j,e⟩:=List.mem_filterMap.mp g;cases q:h.get? b with
 |none=>rw[q]at e;cases e
 |some o=>
  rw[q]at e;have l:=Option.some.inj e;subst l;exact⟨j,q⟩
def Inv.pinned{σ:St}(I:Inv X pins σ H s)(t:∀b∈fp,j8 X pins H b)(r:∀b∈fp,∃o,s.heap.get? b=!o/\∀v,o.data≠.cell v):Inv X (pins++nS fp s.heap) σ H s:=
 I.pins_of λp l=>(mem_append.mp l).elim (λz=>I.pin p (VC _ z)) λz=>by
  let⟨g,e⟩:=y7 z;let⟨C,f1,f2,_⟩:=t p.1 g;let⟨o,j,d⟩:=r p.1 g;rw[e]at j;cases j;exact⟨e,C,f1,f2,d⟩
def Inv.unpinned{σ:St}(I:Inv X (pins++pl) σ H s):Inv X pins σ H s:=I.pins_of λp g=>I.pin p (VC _ (VB _ g))
def AA(hp:PassesOwn (!4) X.A X.env X.xe)(hc:X.calm=true)(hi:PI X tg iter wi)(hg:PG X tg g)(C:PSs X body tb)(hs:∀x,foldedSetIterable iter X.env x=pure x:=by intro _;rfl):PS X (.For tg iter body [] pos) (L7 wi g tb):=by
 intro pins s σ H D I h
 refine wpAny_For (bw (hi pins s σ H _ I h) λv s1 h1=>bw h1 λitv s2 h2=>?_) hs
 let⟨it,fp,tn,J,H2,e,I2,T,LA,f2,W,⟨m0,w0⟩,turn⟩:=h2
 subst e
 -- what stays true of the iterator's objects through the loop
 have t:∀{H':Hp},(∀b∈fp,H' b=none)->∀b∈fp,j8 X pins H' b:=λhn b C=>⟨hn b C,(f2 b C).2⟩
 refine codeAny_forLoop_any (λn s'=>∃i p H',Inv X pins p H' s'/\tn i s'.heap/\(∀b∈fp,H' b=none)/\W i n p H') ?_ m0 ⟨0,σ,H2,I2,LA,λb C=>(f2 b C).1,w0⟩
 rintro n s3 ⟨i,l,H3,I3,Ho,fr3,w3⟩
 rcases turn i n l H3 w3 with⟨stop,qn⟩|⟨go,N,hN,step⟩
 .refine wpAny_passesOwn hp (bw (T.done X rfl rfl rfl hc i pins s3 l H3 X.xe I3 (t fr3) Ho stop) λr s4 ⟨hr,I4⟩=>?_)
  subst hr
  exact wpAny_execs_nil ⟨l,H3,I4,qn⟩
 .refine wpAny_passesOwn hp (bw (T.item X rfl rfl rfl hc i pins s3 l H3 X.xe I3 (t fr3) Ho go) λr s4 ⟨u,hr,h4⟩=>?_)
  subst hr
  refine wpAny_passesOwn hp (bw h4 λ_ s5 ⟨x,H5,I5,r5,y5,st5,fr5⟩=>?_)
  have I5':=I5.pinned (t fr5) (T.obj _ _ st5)
  refine wpAny_passesOwn hp (bw (hg _ s5 l H5 x u _ I5' r5 (step x H5 y5)) λ_ s6 ⟨σ6,H6,I6,q6⟩=>?_)
  refine wpAny_passesOwn hp (bw (C _ s6 σ6 H6 _ I6 q6) λf s7 q7=>?_)
  have again:∀{j:St}{H7:Hp},Inv X (pins++nS fp s5.heap) j H7 s7->N j H7->∃m,m<n/\∃i p H',Inv X pins p H' s7/\tn i s7.heap/\(∀b∈fp,H' b=none)/\W i m p H':=λ{j H7} U n7=>by
   let⟨m',hm,w7⟩:=hN j H7 n7
   refine⟨m',hm,i+1,j,H7,U.unpinned,T.keep _ _ _ st5 λb C o e=>(U.pin (b,o) (VC _ (VC _ (gN C e)))).1,λb C=>?_,w7⟩
   let⟨o,e,d⟩:=T.obj _ _ st5 b C
   exact(U.pin (b,o) (VC _ (VC _ (gN C e)))).2.1
  cases f with
  |next=>let⟨j,H7,U,n7⟩:=q7;exact again U n7
  |cont=>let⟨j,H7,U,n7⟩:=q7;exact again U n7
  |brk=>let⟨j,H7,U,q7⟩:=q7;exact⟨j,H7,U.unpinned,q7⟩
  |ret v=>let⟨x7,j,H7,U,r7,q7⟩:=q7;exact⟨x7,j,H7,U.unpinned,r7,q7⟩
end
abbrev R2:=V->V->Hp->VK->Prop
def  OpR(X:Cx)(f:Value->Value->Sem Value)(r:R2):Prop:=
 ∀(pins:U5)(s:Shared)(σ:St)(H:Hp)(x y:V)(v u:Value)(Q:VK),Inv X pins σ H s->RelV x v->RelV y u->r x y H Q->
  wpAny (!4) X.A (f v u) (EP X pins σ Q) X.xe s
def  Qv(X:Cx)(f:Value->Sem Value)(r:V->Hp->VK->Prop):Prop:=
 ∀(pins:U5)(s:Shared)(σ:St)(H:Hp)(x:V)(v:Value)(Q:VK),Inv X pins σ H s->RelV x v->r x H Q->
  wpAny (!4) X.A (f v) (EP X pins σ Q) X.xe s
def  fC(X:Cx)(f:Value)(r:List V->Hp->VK->Prop):Prop:=
 ∀(pins:U5)(s:Shared)(σ:St)(H:Hp)(xs:List V)(us:U9)(Q:VK),Inv X pins σ H s->Vals xs us->r xs H Q->
  wpAny (!4) X.A (call f us) (EP X pins σ Q) X.xe s
def  Qw(X:Cx)(r:V->Hp->(Bool->Hp->Prop)->Prop):Prop:=
 ∀(pins:U5)(s:Shared)(σ:St)(H:Hp)(x:V)(v:Value)(Q:Bool->Hp->Prop),Inv X pins σ H s->RelV x v->r x H Q->
  wpAny (!4) X.A (truthy v) (TP X pins σ Q) X.xe s
def  L8(r:R2)(ta tb:TE):TE:=λσ H Q=>ta σ H λx H1=>tb σ H1 λy H2=>r x y H2 Q
def  Ud(r:V->Hp->VK->Prop)(ta:TE):TE:=λσ H Q=>ta σ H λx H1=>r x H1 Q
def  rI(C:Int->Int->Prop)(g:Int->Int->V):R2:=λx y H Q=>∃i j,x=.int i/\y=.int j/\C i j/\Q (g i j) H
def  tu(g:Int->Int->V):R2:=λx y H Q=>∃i j,x=.int i/\y=.int j/\Q (g i j) H
def  rU(g:Int->V):V->Hp->VK->Prop:=λx H Q=>∃i,x=.int i/\Q (g i) H
section
variable{X:Cx}{a b c:Expr}{ta tb tc:TE}{pos:Pos}
def ID(t:PE X a ta)(r:PE X b tb){σ:St}{R:V->V->Hp->Prop}(I:Inv X pins σ H s)(h:ta σ H λx H1=>tb σ H1 λy H2=>R x y H2){f:Value->Value->Sem Value}(hf:∀v u l x y H2,Inv X pins σ H2 l->RelV x v->RelV y u->R x y H2->wpAny (!4) X.A (f v u) Q X.xe l):
  wpAny (!4) X.A (eval a X.env) (λv j=>wpAny (!4) X.A (eval b X.env) (λu g=>wpAny (!4) X.A (f v u) Q X.xe g) X.xe j) X.xe s:=by
 refine bw (t pins s σ H _ I h) λv o ⟨x,H1,C,T,p⟩=>?_
 refine bw (r pins o σ H1 _ C p) λu l ⟨y,H2,I2,J,U⟩=>?_
 grind
def Hr(l:OpR X (binaryOp op) r)(p:PE X a ta)(o:PE X b tb):PE X (.BinOp a op b pos) (L8 r ta tb):=by
 intro pins s σ H Q I h;exact wpAny_BinOp (ID p o I h λv u g x y H2 t rx j q=>l pins g σ H2 x y v u Q t rx j q)
def L9(o:Qv X (unaryOp op) r)(p:PE X a ta):PE X (.UnaryOp op a pos) (Ud r ta):=by
 intro pins s σ H Q I h;exact UnaryOp_ (bw (p pins s σ H _ I h) λv g ⟨x,H1,t,j,l⟩=>o pins g σ H1 x v Q t j l)
def Pm{g:Int->Int->Int}(rule:∀(i j:Int)(t u:Tok)(s:Shared)(Q:U8)(E:U8),C i j->Q (.int (g i j) s.toks) {s with toks:=s.toks+1}->wpAny (!4) X.A (f (.int i t) (.int j u)) Q E s):
  OpR X f (rI C λi j=>.int (g i j)):=by
 intro pins s σ H x y v u Q I rx ry h
 let⟨i,j,rfl,rfl,hc,q⟩:=h
 let⟨t,rfl⟩:=rx
 let⟨t',rfl⟩:=ry
 exact rule i j t t' s _ _ hc ⟨.int (g i j),H,I.tok _,⟨_,rfl⟩,q⟩
def Ma{g:Int->Int->Int}(rule:∀(i j:Int)(t u:Tok)(s:Shared)(Q:U8)(E:U8),Q (.int (g i j) s.toks) {s with toks:=s.toks+1}->wpAny (!4) X.A (f (.int i t) (.int j u)) Q E s):
  OpR X f (tu λi j=>.int (g i j)):=by
 intro pins s σ H x y v u Q I rx ry h
 let⟨i,j,rfl,rfl,q⟩:=h
 let⟨t,rfl⟩:=rx
 let⟨t',rfl⟩:=ry
 exact rule i j t t' s _ _ ⟨.int (g i j),H,I.tok _,⟨_,rfl⟩,q⟩
def Ej{g:Int->Int->Bool}(rule:∀(i j:Int)(t u:Tok)(s:Shared)(Q:U8)(E:U8),Q (.bool (g i j)) s->wpAny (!4) X.A (f (.int i t) (.int j u)) Q E s):
  OpR X f (tu λi j=>.bl (g i j)):=by
 intro pins s σ H x y v u Q I rx o h
 let⟨i,j,rfl,rfl,q⟩:=h
 let⟨t,rfl⟩:=rx
 let⟨l,rfl⟩:=o
 exact rule i j t l s _ _ ⟨.bl (g i j),H,I,rfl,q⟩
def  AB(i j:Int):Prop:=0<=j/\j<=1000000/\i.natAbs<2^64
def  CMul(i j:Int):Prop:=(-(2^64)<i/\i<2^64)\/(-(2^64)<j/\j<2^64)
def CMul.ok(h:CMul i j):IntMulOk i j:=by
 rcases h with⟨h1,h2⟩|⟨h1,h2⟩
 .exact .of_left (intBits_le_64 h1 h2)
 .exact .of_right (intBits_le_64 h1 h2)
def IE:OpR X (binaryOp .Add) (tu λi j=>.int (i+j)):=Ma λ_ _ _ _ _ _ _ q=>add_int q
def IF:OpR X (binaryOp .Sub) (tu λi j=>.int (i-j)):=Ma λ_ _ _ _ _ _ _ q=>sub_int q
def IG:OpR X (binaryOp .Mult) (rI CMul λi j=>.int (i*j)):=Pm λ_ _ _ _ _ _ _ g q=>mul_int q g.ok
def IH:OpR X (binaryOp .Mod) (rI (λ_ j=>0<j) λi j=>.int (i%j)):=Pm λi j _ _ _ _ _ g q=>by
 exact mod_int' (!1) (by rw[Int.fmod_eq_emod_of_nonneg i (!1)];exact q)
def II:OpR X (binaryOp .Pow) (rI AB λi j=>.int (i^j.toNat)):=Pm λ_ _ _ _ _ _ _ hc q=>pow_int_small hc.1 hc.2.1 hc.2.2 q
def Ue{g:Int->Int}(rule:∀(i:Int)(t:Tok)(s:Shared)(Q:U8)(E:U8),Q (.int (g i) s.toks) {s with toks:=s.toks+1}->wpAny (!4) X.A (f (.int i t)) Q E s):
  Qv X f (rU λi=>.int (g i)):=by
 intro pins s σ H x v Q I rx h
 let⟨i,rfl,q⟩:=h
 let⟨t,rfl⟩:=rx
 exact rule i t s _ _ ⟨.int (g i),H,I.tok _,⟨_,rfl⟩,q⟩
def IJ:Qv X (unaryOp .USub) (rU λi=>.int (-i)):=Ue λ_ _ _ _ _ q=>neg_int q
end
noncomputable def  AC:V->V->Bool
 |.non,.non=>true|.non,.int _=>true|.int _,.non=>true|.non,.bl _=>true|.bl _,.non=>true|.non,.str _=>true|.str _,.non=>true
 |.int _,.int _=>true|.bl _,.bl _=>true|.str _,.str _=>true|.byt _,.byt _=>true
 |.int _,.str _=>true|.str _,.int _=>true|.bl _,.str _=>true|.str _,.bl _=>true
 |_,_=>false
def  Uf:R2:=λx y H Q=>AC x y=true/\Q (.bl (decide (x=y))) H
def  Ug:R2:=λx y H Q=>AC x y=true/\Q (.bl (not (decide (x=y)))) H
def xu:decide (V.int i=V.int j)=(i==j):=by
 rw[Bool.eq_iff_iff];simp
def dec_bl:decide (V.bl i=V.bl j)=(i==j):=by
 rw[Bool.eq_iff_iff];simp
def xv:decide (V.str i=V.str j)=(i==j):=by
 rw[Bool.eq_iff_iff];simp
def xw:decide (V.byt i=V.byt j)=(i.toList==j.toList):=by
 rw[Bool.eq_iff_iff];cases i;cases j;simp
section
variable{X:Cx}{a b c:Expr}{ta tb tc:TE}{pos:Pos}
def fin_bl{σ:St}(I:Inv X pins σ H s)(q:Q (.bl k) H)(e:k=g):EP X pins σ Q (.bool g) s:=by
 subst e;exact⟨.bl k,H,I,rfl,q⟩
def Mb:OpR X (compareOp .Eq) Uf:=by
 intro pins s σ H x y v u Q I rx g h;let⟨o,q⟩:=h;cases x with
 |non=>
  cases rx;cases y with
  |non=>cases g;exact PySem.EqNone.eq_none_none (!10)
  |bl j=>cases g;exact PySem.EqNone.eq_none_bool (!10)
  |int j=>let⟨l,rfl⟩:=g;exact PySem.EqNone.eq_none_int (!10)
  |str j=>let⟨l,rfl⟩:=g;exact PySem.EqNone.eq_none_str (!10)
  |_=>exact absurd (o) Vp
 |bl i=>
  cases rx;cases y with
  |non=>cases g;exact PySem.EqNone.eq_bool_none (!10)
  |bl j=>cases g;exact eq_bool (fin_bl I q dec_bl)
  |str j=>let⟨l,rfl⟩:=g;exact PySem.EqMixed.eq_bool_str (!10)
  |_=>exact absurd (o) Vp
 |int i=>
  let⟨t,rfl⟩:=rx;cases y with
  |non=>cases g;exact PySem.EqNone.eq_int_none (!10)
  |int j=>let⟨l,rfl⟩:=g;exact eq_int (fin_bl I q xu)
  |str j=>let⟨l,rfl⟩:=g;exact PySem.EqMixed.eq_int_str (!10)
  |_=>exact absurd (o) Vp
 |str i=>
  let⟨t,rfl⟩:=rx;cases y with
  |non=>cases g;exact PySem.EqNone.eq_str_none (!10)
  |bl j=>cases g;exact PySem.EqMixed.eq_str_bool (!10)
  |int j=>let⟨l,rfl⟩:=g;exact PySem.EqMixed.eq_str_int (!10)
  |str j=>let⟨l,rfl⟩:=g;exact eq_str (fin_bl I q xv)
  |_=>exact absurd (o) Vp
 |byt i=>
  let⟨t,rfl⟩:=rx;cases y with
  |byt j=>let⟨l,rfl⟩:=g;exact PySem.W.eq_bytes (fin_bl I q xw)
  |_=>exact absurd (o) Vp
 |_=>cases y<;>exact absurd (show false=true from o) Vp
def Mc:OpR X (compareOp .NotEq) Ug:=by
 intro pins s σ H x y v u Q I rx g h;let⟨o,q⟩:=h;cases x with
 |non=>
  cases rx;cases y with
  |non=>cases g;exact PySem.EqNone.ne_none_none (!10)
  |bl j=>cases g;exact PySem.EqNone.ne_none_bool (!10)
  |int j=>let⟨l,rfl⟩:=g;exact PySem.EqNone.ne_none_int (!10)
  |str j=>let⟨l,rfl⟩:=g;exact PySem.EqNone.ne_none_str (!10)
  |_=>exact absurd (o) Vp
 |bl i=>
  cases rx;cases y with
  |non=>cases g;exact PySem.EqNone.ne_bool_none (!10)
  |bl j=>cases g;exact ne_bool (fin_bl I q (congrArg not dec_bl))
  |str j=>let⟨l,rfl⟩:=g;exact PySem.EqMixed.ne_bool_str (!10)
  |_=>exact absurd (o) Vp
 |int i=>
  let⟨t,rfl⟩:=rx;cases y with
  |non=>cases g;exact PySem.EqNone.ne_int_none (!10)
  |int j=>let⟨l,rfl⟩:=g;exact ne_int (fin_bl I q (congrArg not xu))
  |str j=>let⟨l,rfl⟩:=g;exact PySem.EqMixed.ne_int_str (!10)
  |_=>exact absurd (o) Vp
 |str i=>
  let⟨t,rfl⟩:=rx;cases y with
  |non=>cases g;exact PySem.EqNone.ne_str_none (!10)
  |bl j=>cases g;exact PySem.EqMixed.ne_str_bool (!10)
  |int j=>let⟨l,rfl⟩:=g;exact PySem.EqMixed.ne_str_int (!10)
  |str j=>let⟨l,rfl⟩:=g;exact ne_str (fin_bl I q (congrArg not xv))
  |_=>exact absurd (o) Vp
 |byt i=>
  let⟨t,rfl⟩:=rx;cases y with
  |byt j=>let⟨l,rfl⟩:=g;exact PySem.W.ne_bytes (fin_bl I q (congrArg not xw))
  |_=>exact absurd (o) Vp
 |_=>cases y<;>exact absurd (show false=true from o) Vp
def op_lt:OpR X (compareOp .Lt) (tu λi j=>.bl (decide (i<j))):=Ej λ_ _ _ _ _ _ _ q=>lt_int q
def qm:OpR X (compareOp .LtE) (tu λi j=>.bl (decide (i<=j))):=Ej λ_ _ _ _ _ _ _ q=>le_int q
def op_gt:OpR X (compareOp .Gt) (tu λi j=>.bl (decide (j<i))):=Ej λ_ _ _ _ _ _ _ q=>gt_int q
def Hs:OpR X (compareOp .GtE) (tu λi j=>.bl (decide (j<=i))):=Ej λ_ _ _ _ _ _ _ q=>ge_int q
def op_isN:OpR X (compareOp .Is) (λx y H Q=>y=.non/\Q (.bl (decide (x=.non))) H):=by
 intro pins s σ H x y v u Q I rx g h;let⟨rfl,q⟩:=h;cases g;refine is_none_gen (fin_bl I q ?_);cases x<;>first
  |(cases rx;rfl)
  |(let⟨t,rfl⟩:=rx;rfl)
def op_notN:OpR X (compareOp .IsNot) (λx y H Q=>y=.non/\Q (.bl (not (decide (x=.non)))) H):=by
 intro pins s σ H x y v u Q I rx ry h;let⟨rfl,q⟩:=h;cases ry;refine isnot_none_gen (fin_bl I q ?_);cases x<;>first
  |(cases rx;rfl)
  |(let⟨t,rfl⟩:=rx;rfl)
def OpR.or(h:OpR X f r)(h':OpR X f j):OpR X f (λx y H Q=>r x y H Q\/j x y H Q):=by
 intro pins s σ H x y v u Q I rx g q;rcases q with q|q
 .exact h pins s σ H x y v u Q I rx g q
 .exact h' pins s σ H x y v u Q I rx g q
def ek(b:Expr)(h:op≠.In:=by decide)(h2:op≠.NotIn:=by decide):behindInMarks op b=false:=by
 have g:(op==CmpOp.In)=false:=by cases op<;>first|rfl|exact absurd rfl h
 have e2:(op==CmpOp.NotIn)=false:=by cases op<;>first|rfl|exact absurd rfl h2
 cases b<;>simp[behindInMarks,g,e2]
def Ek(l:OpR X (compareOp op) r)(t:PE X a ta)(p:PE X b tb)(o:behindInMarks op b=false):PE X (.Compare a [op] [b] pos) (L8 r ta tb):=by
 intro pins s σ H Q I h;exact wpAny_Compare1 (ID t p I h λv u g x y H2 C rx j q=>l pins g σ H2 x y v u Q C rx j q) o
def  Ht(t:TE):TT:=λσ H Q=>t σ H λx H'=>∃k,x=.bl k/\Q k H'
def El(T:OpR X (compareOp op) r)(ha:PE X a ta)(hb:PE X b tb)(U:behindInMarks op b=false):PT X (.Compare a [op] [b] pos) (Ht (L8 r ta tb)):=by
 intro pins s σ H Q I h;refine wpAny_isTrue_Compare1 (bw (ha pins s σ H _ I h) λv j ⟨x,H1,I1,p,J⟩=>bw (hb pins j σ H1 _ I1 J) λu g ⟨y,H2,I2,o,C⟩=>
  bw (T pins g σ H2 x y v u _ I2 p o C) λc s3 ⟨z,H3,I3,l,k,e,t⟩=>?_) U
 subst e;cases l;exact wpAny_truthy_bool ⟨H3,I3,t⟩
def  vD(r r':R2)(ta tb tc:TE):TE:=λσ H Q=>ta σ H λx H1=>tb σ H1 λy H2=>r x y H2 λz H3=>∃k,z=.bl k/\
 (if k=true then tc σ H3 λw' H4=>r' y w' H4 Q else Q (.bl false) H3)
def AD(ho:OpR X (compareOp op) r)(ho':OpR X (compareOp op') r')(ha:PE X a ta)(hb:PE X b tb)(hc:PE X c tc)(hm:lastMarks [op,op'] [b,c]=false:=by with_unfolding_all rfl):PE X (.Compare a [op,op'] [b,c] pos) (vD r r' ta tb tc):=by
 intro pins s σ H Q I h;refine Compare_chain (bw (ha pins s σ H _ I h) λv s1 ⟨x,H1,I1,r1,q1⟩=>chain_link (bw (hb pins s1 σ H1 _ I1 q1) λu s2 ⟨y,H2,I2,r2,q2⟩=>
  bw (ho pins s2 σ H2 x y v u _ I2 r1 r2 q2) λd s3 ⟨z,H3,I3,r3,k,e,q3⟩=>?_)) hm
 subst e;cases r3;refine wpAny_truthy_bool ?_;cases k with
 |false=>exact ite_ff ⟨.bl false,H3,I3,rfl,q3⟩
 |true=>exact ite_tt (chain_last (bw (hc pins s3 σ H3 _ I3 q3) λw' s4 ⟨z',H4,I4,r4,q4⟩=>ho' pins s4 σ H4 y z' u w' Q I4 r2 r4 q4))
def AE(ho:OpR X (compareOp op) r)(ho':OpR X (compareOp op') r')(ha:PE X a ta)(hb:PE X b tb)(hc:PE X c tc)(hm:lastMarks [op,op'] [b,c]=false:=by with_unfolding_all rfl):PT X (.Compare a [op,op'] [b,c] pos) (Ht (vD r r' ta tb tc)):=by
 intro pins s σ H Q I h;refine isTrue_chain (bw (ha pins s σ H _ I h) λv s1 ⟨x,H1,I1,r1,q1⟩=>test_link (bw (hb pins s1 σ H1 _ I1 q1) λu s2 ⟨y,H2,I2,r2,q2⟩=>
  bw (ho pins s2 σ H2 x y v u _ I2 r1 r2 q2) λd s3 ⟨z,H3,I3,r3,k,e,q3⟩=>?_)) hm
 subst e;cases r3;refine wpAny_truthy_bool ?_;cases k with
 |false=>
  let⟨k',e',q'⟩:=q3;cases e';exact ite_ff ⟨H3,I3,q'⟩
 |true=>
  refine ite_tt (test_last (bw (hc pins s3 σ H3 _ I3 q3) λw' s4 ⟨z',H4,I4,r4,q4⟩=>bw (ho' pins s4 σ H4 y z' u w' _ I4 r2 r4 q4) λd' s5 ⟨z2,H5,I5,r5,k2,e2,q5⟩=>?_));subst e2;cases r5;exact wpAny_truthy_bool ⟨H5,I5,q5⟩
def  Md(K:Frag)(x:V)(H:Hp)(k:Bool):Prop:=
 match x with
 |.non=>k=false
 |.bl b=>k=b
 |.int i=>k=(i !=0)
 |.str y=>y.length<=sizeLine/\k=((y.length:Int) !=0)
 |.byt y=>y.size<=sizeLine/\k=((y.size:Int) !=0)
 |.ref p=>(∃xs,SqL K H p xs/\k=not xs.isEmpty)\/(∃xs,SqT K H p xs/\k=not xs.isEmpty)\/∃kvs,H p=!(.dK kvs)/\k=not kvs.isEmpty
 |_=>False
def vE{vs:List (κ×Value)}(r:KV kvs vs):(not vs.isEmpty)=not kvs.isEmpty:=by
 cases r<;>rfl
def nT(r:Vals xs its):(not its.toArray.isEmpty)=not xs.isEmpty:=by
 cases r<;>simp
def j9:(sizeLine:Nat)<2^63:=by rw[sizeLine_eq];decide
def IK:Qw X (λx H Q=>∃k,Md X.K x H k/\Q k H):=by
 intro pins s σ H x v Q I rx h;let⟨k,e,q⟩:=h;have hs:=sizeLine_eq;cases x with
 |non=>
  cases rx;have g:=e;subst g;exact truthy_none ⟨H,I,q⟩
 |bl b=>
  cases rx;have g:=e;subst g;exact wpAny_truthy_bool ⟨H,I,q⟩
 |int i=>
  let⟨t,rfl⟩:=rx;have g:=e;subst g;exact PySem.P.truthy_int ⟨H,I,q⟩
 |str y=>
  let⟨t,rfl⟩:=rx;obtain⟨T,g⟩:y.length<=sizeLine/\k=((y.length:Int) !=0):=e;subst g;exact PySem.P.truthy_str (!1) ⟨H,I.tok _,q⟩
 |byt y=>
  let⟨t,rfl⟩:=rx;obtain⟨T,g⟩:y.size<=sizeLine/\k=((y.size:Int) !=0):=e;subst g;exact PySem.W.truthy_bytes (!1) ⟨H,I.tok _,q⟩
 |ref p=>
  cases rx;have g:(∃xs,SqL X.K H p xs/\k=not xs.isEmpty)\/(∃xs,SqT X.K H p xs/\k=not xs.isEmpty)\/∃kvs,H p=!(.dK kvs)/\k=not kvs.isEmpty:=e;rcases g with⟨xs,l,g⟩|⟨xs,l,g⟩|⟨kvs,l,g⟩
  .subst g;let⟨C,r,pl,J⟩:=I.list l;have j:=r.length;exact wpAny_truthy_list pl.isList (by simp only[size_toArray];omega) ⟨H,I.tok _,by rw[nT r];exact q⟩
  .subst g;let⟨C,r,pl,J⟩:=I.tuple l;have j:=r.length;exact truthy_tuple pl (by simp only[size_toArray];omega) ⟨H,I.tok _,by rw[nT r];exact q⟩
  .subst g;obtain⟨J,U,o,r,m⟩:kvs.length<=sizeLine/\(p==sysModules)=false/\∃o,KV kvs o/\s.heap.DictOf (eQ X.prog X.w) p o:=I.hok p _ l;have j:=Paired.length r;exact wpAny_truthy_dict U m (!1) ⟨H,I.tok _,by rw[vE r];exact q⟩
 |_=>exact(e).elim
def AF(p:PE X a ta)(o:∀whole,isTrue a X.env whole=(do let v<-whole;standAt a.pos;holding [v] (truthy v))):
  PT X a (λσ H Q=>ta σ H λx H'=>∃k,Md X.K x H' k/\Q k H'):=by
 intro pins s σ H Q I h
 exact isTrue_plain (bw (p pins s σ H _ I h) λv g ⟨x,H1,r,j,l⟩=>IK pins g σ H1 x v Q r j l) (o _)
def fE(r:Vals [x] g):∃u,g=[u]/\RelV x u:=by
 cases r with
 |cons l j=>cases j;exact⟨_,rfl,l⟩
def AG(r:Vals [x,y] j):∃u g,j=[u,g]/\RelV x u/\RelV y g:=by
 cases r with
 |cons t p=>
  cases p with
  |cons o l=>cases l;exact⟨_,_,rfl,t,o⟩
def y8(l:X.calm=true):fC X (.builtin "min") (λxs H Q=>∃i j,xs=[.int i,.int j]/\Q (.int (if j<i then j else i)) H):=by
 intro pins s σ H xs p Q I r h;let⟨i,j,rfl,q⟩:=h;let⟨u,o,rfl,⟨t,rfl⟩,⟨C,rfl⟩⟩:=AG r;refine min_two_ints (I.ok.hd l) λh' tk k=>⟨_,H,I.kept k,?_,q⟩;by_cases g:j<i
 .rw[if_pos g,if_pos g];exact⟨_,rfl⟩
 .rw[if_neg g,if_neg g];exact⟨_,rfl⟩
end
structure ObjM(h:Heap)(x dx C:Addr)(mA:Str->Va):Prop where
 obj:h.get? x=!(PySem.W.instObj C dx)
 ns:h.Ns1 dx mA
 ne:dx≠x
def y9{h:Heap}(n:h.Ns1 dx mA):∃j,h.get? dx=!j/\∀name,PySem.W.lookIn name j=!(mA name):=by
 let⟨o,es,J,p,hd,C,_,r⟩:=n;refine⟨o,p,λname=>?_⟩;have e:=r name;unfold nsFind findBy at e;rw[<-Array.find?_toList]at e;unfold PySem.W.lookIn;rw[hd];dsimp only;split
 .rename_i y q;rw[q]at e;exact congrArg some e
 .rename_i q;rw[q]at e;have a:es.toList.any (·.refKey)=false:=by
   rw[List.any_eq_false];intro y l;let⟨z,t,g⟩:=C y (Array.mem_toList_iff.mp l);simp[DictEntry.refKey,g]
  have I:¬es.toList.any (·.refKey)=true:=by rw[a];exact Vp
  rw[if_neg I];exact congrArg some e
def ObjM.look(I:ObjM h x dx C mA):∃g,PySem.W.InstAt h x (PySem.W.instObj C dx) C (!g)/\∀name,PySem.W.lookIn name g=!(mA name):=
 let⟨g,j,l⟩:=y9 I.ns
 ⟨g,⟨I.obj,rfl,rfl,j⟩,l⟩
section
variable{prog:Program}{w:World}{A:Around}{E:U8}{s:Shared}{K:Frag}{x dx C f:Addr}{mA:Str->Va}{name:Str}{v:Value}
def Em(X:K.In s.heap)(I:ObjM s.heap x dx C mA)(hg:PySem.W.plainGet K C name=true)(hh:PySem.W.hasDictIn K C=true)(ha:findIn K (.ref C) name=!none)(hv:mA name=!v)(hv':PySem.W.handedIn v=true)(h:Q v {s with toks:=s.toks+1}):
  wpAny (!6) A (getAttr (.ref x) name expr) Q E s:=by
 let⟨od,J,hl⟩:=I.look
 exact PySem.W.get_value X J (PySem.W.plainGet_of hg).1 (PySem.W.findObj_own hh ha rfl (by rw[hl,hv])) hv' h
def AH(X:K.In s.heap)(I:ObjM s.heap x dx C mA)(g:PySem.W.plainGet K C name=true)(r:findIn K (.ref C) name=!(!(.ref f)))(o:PySem.W.isFn K (.ref f)=true)(l:mA name=none)(h:Q (.ref f,[.ref x]) s):
  wpAny (!6) A (getMethod (.ref x) name pl) Q E s:=by
 let⟨j,J,p⟩:=I.look
 exact PySem.W.method_fn X J (PySem.W.plainGet_of g).1 (PySem.W.plainGet_of g).2 r (beq_iff_eq.mp o) (by show(PySem.W.lookIn name j).map (·.isSome)=!false;rw[p,l];rfl) h
def Eo(X:K.In s.heap)(I:ObjM s.heap x dx C mA)(hs:findIn K (.ref C) "__setattr__"=!(!(.builtin "object.__setattr__")))(hp:PySem.W.plainOver K C=true)(ht:PySem.W.takerIn K C name=!none)(hh:PySem.W.hasDictIn K C=true)(hw:PySem.Within mA ns)(hsz:ns.length<=sizeLine)(h:∀h',ObjM h' x dx C (λy=>if y=name then !v else mA y)->Heap.SameBut dx s.heap h'->Q () {s with heap:=h',toks:=s.toks+2}):
  wpAny (!6) A (setAttr (.ref x) name v) Q E s:=by
 let⟨od,J,hl⟩:=I.look
 refine PySem.W.set_plain X J hs (PySem.W.osa_open X J hp ht λb=>?_)
 let⟨cd,hc,hd'⟩:=PySem.W.any_some hh
 have hx:=I.obj
 refine Vk (Vm (Vk (Vk (wpAny_loadPart hx (Vk (PySem.W.Looks.here (PySem.W.looks_clsIn X hc) ?_))))))
 rw[hd']
 refine Vm (Vk (Vm (Vk ?_)))
 refine wpAny_nsSet1 I.ns λh' hn2 hs2=>?_
 let⟨oD,esD,epD,hoD,hdD,hcD⟩:=hn2.count (PySem.Within.cons name v hw)
 refine Vk (wpAny_lookBehind hoD (by rw[hdD];exact pastItsLine_dict (Vx hcD (by rw[length_cons];omega))) ?_)
 exact Vm (h _ ⟨(hs2.2 _ (Ne.symm I.ne)).trans I.obj,hn2,I.ne⟩ hs2)
def AI(X:K.In s.heap)(hm:PySem.W.makesIn K C=true)(hi:findIn K (.ref C) "__init__"=!(!(.ref f)))(hf:PySem.W.typeIn K (.ref f)=!(.type "function"))(h:codeAny (!6) (A.under (.builtin "type.__call__" ⟨.ref C::vs,kw⟩)) (.call (.ref f) ⟨.ref (!13)::vs,kw⟩) (PySem.W.InitBack (!13) R)
   {s with heap:=(s.heap.push PySem.W.emptyDict).push (PySem.W.instObj C s.heap.objs.size)}):
  codeAny (!6) A (.call (.ref C) ⟨vs,kw⟩) R s:=by
 exact PySem.W.make_core (PySem.W.makes_of X hm) (PySem.W.looks_findIn X hi) (λself=>PySem.W.bind_fn X self hf) (.inl rfl) h
end
noncomputable def  gO(f:Str)(v:V):List (Str×V)->List (Str×V)
 |[]=>[(f,v)]
 |(g,x)::r=>if g=f then(g,v)::r else(g,x)::gO f v r
def mz(f g:Str)(v:V):∀fs:List (Str×V),(gO f v fs).lookup g=if g=f then !v else fs.lookup g
 |[]=>by
  show List.lookup g [(f,v)]=_;by_cases h:g=f
  .have hb:(g==f)=true:=beq_iff_eq.mpr h;simp only[List.lookup,hb,if_pos h]
  .have hb:(g==f)=false:=beq_eq_false_iff_ne.mpr h;simp only[List.lookup,hb,if_neg h]
 |(k,x)::r=>by
  have ih:=mz f g v r;rw[show gO f v ((k,x)::r)=(if k=f then(k,v)::r else(k,x)::gO f v r)from rfl];by_cases hk:k=f
  .rw[if_pos hk];by_cases h:g=k
   .have hb:(g==k)=true:=beq_iff_eq.mpr h;simp only[List.lookup,hb,if_pos (h.trans hk)]
   .have hb:(g==k)=false:=beq_eq_false_iff_ne.mpr h;simp only[List.lookup,hb,if_neg (λe:g=f=>h (e.trans hk.symm))]
  .rw[if_neg hk];by_cases h:g=k
   .have hb:(g==k)=true:=beq_iff_eq.mpr h;simp only[List.lookup,hb,if_neg (λe:g=f=>hk (h.symm.trans e))]
   .have hb:(g==k)=false:=beq_eq_false_iff_ne.mpr h;simp only[List.lookup,hb];exact ih
def lN(f:Str)(v:V):∀fs:List (Str×V),f∈(gO f v fs).map (·.1)/\∀g,g∈fs.map (·.1)->g∈(gO f v fs).map (·.1)
 |[]=>⟨by simp[gO],λg h=>by simp at h⟩
 |(k,x)::r=>by
  let⟨i1,i2⟩:=lN f v r;rw[show gO f v ((k,x)::r)=(if k=f then(k,v)::r else(k,x)::gO f v r)from rfl];by_cases hk:k=f
  .rw[if_pos hk];subst hk;exact⟨by simp,λg h=>by simpa using h⟩
  .rw[if_neg hk];refine⟨?_,λg h=>?_⟩
   .rw[List.map_cons];exact Vs _ i1
   .rw[List.map_cons]at h⊢;rcases mem_cons.mp h with e|e
    .exact mem_cons.mpr (.inl e)
    .exact Vs _ (i2 g e)
def mB(f:Str)(v:V):∀fs:List (Str×V),(gO f v fs).length<=fs.length+1
 |[]=>by simp[gO]
 |(k,x)::r=>by
  have ih:=mB f v r;rw[show gO f v ((k,x)::r)=(if k=f then(k,v)::r else(k,x)::gO f v r)from rfl];by_cases hk:k=f
  .rw[if_pos hk,length_cons,length_cons];omega
  .rw[if_neg hk,length_cons,length_cons];omega
def RelO.some_of(r:RelO (!v) o):∃u,o=!u/\RelV v u:=by
 cases o with
 |none=>exact(r).elim
 |some u=>exact⟨u,rfl,r⟩
def RelO.none_of(r:RelO none o):o=none:=by grind [RelO]
def za(r:RelV v u):PySem.W.handedIn u=true:=by
 cases v with
 |non=>cases(r);rfl
 |bl b=>cases(r);rfl
 |int i=>let⟨t,e⟩:=(r);cases e;rfl
 |str x=>let⟨t,e⟩:=(r);cases e;rfl
 |byt b=>let⟨t,e⟩:=(r);cases e;rfl
 |flt b=>let⟨t,e⟩:=(r);cases e;rfl
 |ref a=>cases(r);rfl
 |ty n=>cases(r);rfl
section
variable{P:Program}{w:World}{H H':Hp}{h h':Heap}{a C dx:Addr}{fs fs':List (Str×V)}
def rh(g:HOk P w H h)(e:H a=!(.ins C dx fs)):∃mA,ObjM h a dx C mA/\(∀f,RelO (fs.lookup f) (mA f))/\PySem.Within mA (fs.map (·.1))/\fs.length<=1000/\H dx=!(.own a):=by
 let⟨d,z,ne,j,mA,n,r,q⟩:=(g a _ e);exact⟨mA,⟨j,n,ne⟩,r,q,z,d⟩
end
structure Cls(K:Frag)(C:Addr):Prop where
 pg:PySem.W.plainGet K C Str.empty=true
 hd:PySem.W.hasDictIn K C=true
 po:PySem.W.plainOver K C=true
 sa:findIn K (.ref C) "__setattr__"=!(!(.builtin "object.__setattr__"))
def Cls.get{K}(c:Cls K C)(f:Str):PySem.W.plainGet K C f=true:=c.pg
def  NoAttr(K:Frag)(C:Addr)(f:Str):Prop:=findIn K (.ref C) f=!none
def NoAttr.taker{K}(n:NoAttr K C f):PySem.W.takerIn K C f=!none:=by
 unfold PySem.W.takerIn;grind [NoAttr]
structure Meth(K:Frag)(C:Addr)(m:Str)(f:Addr):Prop where
 at_:findIn K (.ref C) m=!(!(.ref f))
 fn:PySem.W.isFn K (.ref f)=true
 kp:PySem.W.keepIn K (.ref f)=true
section
variable{X:Cx}{pins:U5}{σ:St}{H:Hp}{s:Shared}{a C dx:Addr}{fs:List (Str×V)}{f:Str}{v:V}{A:Around}{E:U8}
def vF(I:Inv X pins σ H s)(e:H a=!(.ins C dx fs))(c:Cls X.K C)(n:NoAttr X.K C f)(l:fs.lookup f=!v)(h:∀u s',Inv X pins σ H s'->RelV v u->Q u s'):wpAny (!4) A (getAttr (.ref a) f b) Q E s:=by
 let⟨mA,O,r,_,_,_⟩:=rh I.hok e;let⟨u,j,g⟩:=RelO.some_of (by rw[<-l];exact r f);exact Em I.kIn O (c.get f) c.hd n j (za g) (h u _ (I.tok _) g)
def vG(I:Inv X pins σ H s)(e:H a=!(.ins C dx fs))(c:Cls X.K C)(k:Meth X.K C m g)(l:fs.lookup m=none)(h:Q (.ref g,[.ref a]) s):wpAny (!4) A (getMethod (.ref a) m pl) Q E s:=by
 let⟨mA,O,r,_,_,_⟩:=rh I.hok e;have j:=RelO.none_of (by rw[<-l];exact r m);exact AH I.kIn O (c.get m) k.at_ k.fn j h
def vH(I:Inv X pins σ H s)(e:H a=!(.ins C dx fs))(c:Cls X.K C)(n:NoAttr X.K C f)(hl:fs.length<1000)(J:RelV y u)(h:∀s',Inv X pins σ (aR H a (.ins C dx (gO f y fs))) s'->Q () s'):wpAny (!4) A (setAttr (.ref a) f u) Q E s:=by
 let⟨mA,O,r,l,_,p⟩:=rh I.hok e;have T:(fs.map (·.1)).length<=sizeLine:=by rw[length_map,sizeLine_eq];omega
 refine Eo I.kIn O c.sa c.po n.taker c.hd l T λh' j t=>h _ ?_;have hd:∃o,h'.get? dx=!o:=let⟨o,_,_,e',_⟩:=j.ns;⟨o,e'⟩;refine I.write (by rw[e];exact True.intro) (.inr p) (λb q hb z=>(t.2 b hb).trans z) hd ?_;refine⟨by rw[ag O.ne];exact p,?_,O.ne,j.obj,_,j.ns,λg=>?_,λg U=>?_⟩
 .have:=mB f y fs;omega
 .show RelO ((gO f y fs).lookup g) (if g=f then !u else mA g);rw[mz];by_cases q:g=f
  .rw[if_pos q,if_pos q];exact J
  .rw[if_neg q,if_neg q];exact r g
 .by_cases q:g=f
  .rw[q];exact(lN f y fs).1
  .refine(lN f y fs).2 g (l g λz=>U ?_);show(if g=f then !u else mA g)=none;rw[if_neg q];exact z
def Inv.made(I:Inv X pins σ H s):Inv X pins σ (aR (aR H s.heap.objs.size (.own (!13))) (!13) (.ins C s.heap.objs.size []))
  {s with heap:=(s.heap.push PySem.W.emptyDict).push (PySem.W.instObj C s.heap.objs.size)}:=by
 have e1:(s.heap.push PySem.W.emptyDict).get? s.heap.objs.size=!PySem.W.emptyDict:=Vo s.heap rfl
 have e2:((s.heap.push PySem.W.emptyDict).push (PySem.W.instObj C s.heap.objs.size)).get? (!13)=!(PySem.W.instObj C s.heap.objs.size):=by
  have:=Vo (s.heap.push PySem.W.emptyDict) (o:=PySem.W.instObj C s.heap.objs.size) rfl;rwa [Heap.size_push]at this
 have e3:(s.heap.push PySem.W.emptyDict).Ns s.heap.objs.size (λ_=>none):=⟨PySem.W.emptyDict,#[],_,e1,rfl,(λe he=>absurd he (by simp)),λ_=>rfl⟩
 have I1:=I.laid (o:=.own (!13)) (t':=s.toks) (λb u q=>Vl _ q) (VI _) ⟨_,e1⟩
 refine I1.laid (λb u q=>Vl _ q) (Nat.le_of_eq (Heap.size_push _ _)) ?_
 have ne:s.heap.objs.size≠s.heap.objs.size+1:=Vy (Nat.lt_succ_self _)
 refine⟨by rw[ag ne,al],Nat.zero_le _,ne,e2,λ_=>none,(Heap.Ns1.of_empty e3).at λo q=>Vl _ q,λ_=>True.intro,λy hy=>absurd rfl hy⟩
def Ep(j:attributeBase e f env (eval e env)=eval e env)(h:wpAny (!6) A (eval e env) (λo g=>wpAny (!6) A (getAttr o f true) Q E g) E s):wpAny (!6) A (eval (.Attribute e f pos) env) Q E s:=
 Attribute_any_ h (by rw[arm_eval_Attribute,j])
end
def  Qx(K:Frag)(ta:TE)(f:Str):TE:=λσ H Q=>ta σ H λx H1=>∃a C dx fs v,x=.ref a/\H1 a=!(.ins C dx fs)/\Cls K C/\NoAttr K C f/\fs.lookup f=!v/\Q v H1
def  Qy(K:Frag)(ta tv:TE)(f:Str):TS:=λD σ H=>tv σ H λy H1=>ta σ H1 λx H2=>∃a C dx fs,x=.ref a/\H2 a=!(.ins C dx fs)/\Cls K C/\NoAttr K C f/\fs.length<1000/\
 D.nx σ (aR H2 a (.ins C dx (gO f y fs)))
section
variable{X:Cx}{o e value:Expr}{f:Str}{pos pos' tpos:Pos}{ta tv:TE}
def AJ(j:PE X e ta)(o:attributeBase e f X.env (eval e X.env)=eval e X.env):PE X (.Attribute e f pos) (Qx X.K ta f):=by
 intro pins s σ H Q I h;refine Ep o (bw (j pins s σ H _ I h) λu U ⟨x,H1,t,rx,a,C,dx,fs,v,ex,p,c,n,l,q⟩=>?_);subst ex;obtain rfl:u=Value.ref a:=rx;exact vF t p c n l λJ T r g=>⟨v,H1,r,g,q⟩
def AK(T:PE X o ta)(t:PE X value tv)(J:swapsWith value (!(.Attribute o f pos')) pos.line X.env=pure false):PS X (.Assign [.Attribute o f pos'] value pos) (Qy X.K ta tv f):=by
 intro pins s σ H D I h;refine plainObj_wpAny_Assign_Attribute (bw (t pins s σ H _ I h) λu g ⟨y,H1,I1,j,q⟩=>bw (T pins g σ H1 _ I1 q) λr s2 ⟨x,H2,I2,rx,a,C,dx,fs,ex,U,c,n,l,p⟩=>?_) J;subst ex;obtain rfl:r=Value.ref a:=rx;exact vH I2 U c n l j λs3 I3=>⟨σ,_,I3,p⟩
end
structure Room(k:Nat)(A:Around):Prop where
 hd:A.handled=none
 dp:A.depth+3*k+5<recursionLimit
 un:A.units+16*k+200<cLine
def Room.mono(r:Room k A)(h:j<=k):Room j A:=⟨r.hd,by have:=r.dp;omega,by have:=r.un;omega⟩
def Room.deeper(r:Room (k+1) A)(env:Env):Room k (A.deeper env):=
 ⟨r.hd,by have:=r.dp;show A.depth+1+3*k+5<_;omega,by have:=r.un;show A.units+3+16*k+200<_;omega⟩
def vI{A:Around}:(A.under (.builtin "type.__call__" ⟨.ref C::g,j⟩)).depth=A.depth+1:=by constructor<;>grind
def vJ{A:Around}:(A.under (.builtin "type.__call__" ⟨.ref C::g,j⟩)).units=A.units+1:=by constructor<;>grind
def Room.make(r:Room (k+1) A)(C:Addr)(g:U9)(j:List (Str×Value)):Room k (A.under (.builtin "type.__call__" ⟨.ref C::g,j⟩)):=
 ⟨r.hd,by have:=r.dp;rw[vI];omega,by have:=r.un;rw[vJ];omega⟩
def Room.depth(r:Room k A):A.depth<recursionLimit:=by have:=r.dp;omega
def  Me:TA:=λ_ H Q=>Q [] H
def  Mg(ta:TE)(tr:TA):TA:=λσ H Q=>ta σ H λx H1=>tr σ H1 λxs H2=>Q (x::xs) H2
section
variable{X:Cx}{e:Expr}{es:Vh}{te:TE}{t:TA}{pos:Pos}
def pa_nil:PA X [] Me:=λ_ _ _ _ H Q I h=>Calls.spliced_nil ⟨[],H,I,.nil,h⟩
def dG(J:PE X e te)(C:PA X es t)(r:starEach (e::es) X.env=(false,eval e X.env)::starEach es X.env:=by rfl):PA X (e::es) (Mg te t):=by
 intro pos pins s σ H Q I h;rw[r];show wpAny _ _ (spliced ((false,eval e X.env)::backTo pos (starEach es X.env))) _ _ s;refine Calls.spliced_cons (bw (J pins s σ H _ I h) λu g ⟨x,H1,U,l,p⟩=>?_);exact bw (C pos pins g σ H1 _ U p) λus s2 ⟨xs,H2,T,j,o⟩=>⟨x::xs,H2,T,.cons l j,o⟩
def  Qz(t:TA):TE:=λσ H Q=>t σ H λxs H1=>xs.length<=sizeLine/\∀p,H1 p=none->Q (.ref p) (aR H1 p (.tup xs))
def  QA(t:TA):TE:=λσ H Q=>t σ H λxs H1=>xs.length<=sizeLine/\∀p,H1 p=none->Q (.ref p) (aR H1 p (.lst xs))
def AL{x1}(h:PA X es t):PE X (.Tuple es x1 pos) (Qz t):=by
 intro pins s σ H Q I o;refine wpAny_Tuple_spliced (bw (h pos pins s σ H _ I o) λl g ⟨xs,H1,j,r,z,q⟩=>⟨by rw[<-r.length];exact z,?_⟩);have p:=j.hok.fresh (VI _);refine⟨.ref g.heap.objs.size,aR H1 g.heap.objs.size _,j.laid (λb u e=>Vl _ e) (VI _) ?_,rfl,q _ p⟩;exact⟨z,l,r,⟨_,Vo _ rfl,rfl,_,rfl⟩⟩
def AM(h:PA X es t):PE X (.List es pos) (QA t):=by
 intro pins s σ H Q I o;refine wpAny_List_spliced (bw (h pos pins s σ H _ I o) λl g ⟨xs,H1,j,r,z,q⟩=>⟨by rw[<-r.length];exact z,?_⟩);have p:=j.hok.fresh (VI _);refine⟨.ref g.heap.objs.size,aR H1 g.heap.objs.size _,j.laid (λb u e=>Vl _ e) (VI _) ?_,rfl,q _ p⟩;exact⟨z,l,0,r,Vo _ rfl⟩
end
abbrev Sp:=List V->Hp->VK->XK->Prop
abbrev IL:=List Env->Hp->Shared->XK->U8
structure Env0(P:Program)(w:World)(K:Frag)(mg:Str->Va)(base:Heap)(A:Around)(outer:List Env)(s:Shared)(H:Hp):Prop where
 frames:A.frames=!outer
 mod:Mod K mg base
 bs:∀b o,base.get? b=!o->s.heap.get? b=!o/\H b=none
 bsz:base.objs.size<=s.heap.objs.size
 funs:s.heap.FunFrames base outer
 frf:(∀b∈frs outer,H b=none)/\GT H
 hok:HOk P w H s.heap
 bare:AllBare s.gens
def  CE(outer:List Env)(P:Program)(w:World)(H:Hp)(s:Shared)(Q:VK)(u:Value)(s':Shared):Prop:=
 ∃v H',s'.os=s.os/\AllBare s'.gens/\Un (frs outer) [] H H' s.heap s'.heap/\HOk P w H' s'.heap/\RelV v u/\Q v H'
def  CR(CX:IL)(outer:List Env)(P:Program)(w:World)(H:Hp)(s:Shared)(Q:VK)(E:XK)(r:Result)(s':Shared):Prop:=
 match r with
 |.ok (.ret u)=>CE outer P w H s Q u s'
 |.ok _=>False
 |.error e=>CX outer H s E e s'
structure FnOk(P:Program)(w:World)(K:Frag)(mg:Str->Va)(base:Heap)(CX:IL)(k:Nat)(f:Addr)(fd:FuncData)(ps:Vc)(sp:Sp):Prop where
 len:∀vs H Q E,sp vs H Q E->vs.length=ps.length
 run:∀(A:Around)(outer:List Env)(s:Shared)(H:Hp)(args:Args)(us:U9)(vs:List V)(Q:VK)(E:XK),Room k A->Env0 P w K mg base A outer s H->BindsTo s fd args (ps.zip us)->Vals vs us->sp vs H Q E->
  codeAny (model P w) A (.call (.ref f) args) (CR CX outer P w H s Q E) s
def FnOk.imp{K}(F:FnOk P w K mg base CX k f fd ps sp)(h:∀j H Q E,l j H Q E->sp j H Q E):FnOk P w K mg base CX k f fd ps l:=
 ⟨λj H Q E q=>F.len j H Q E (h _ _ _ _ q),λA g s H args o j Q E t C I p r=>F.run A g s H args o j Q E t C I p (h _ _ _ _ r)⟩
def Env0.make{K}(e:Env0 P w K mg base A g s H)(C:Addr)(j:U9)(l:List (Str×Value)):
 Env0 P w K mg base (A.under (.builtin "type.__call__" ⟨.ref C::j,l⟩)) g s H:=⟨by first|exact e.frames|(simpa [Around.under,Code.envs,Code.isFrame,pushEnvs] using e.frames),e.mod,e.bs,e.bsz,e.funs,e.frf,e.hok,e.bare⟩
section
variable{X:Cx}{pins:U5}{σ:St}{H:Hp}{s s':Shared}
def Inv.env0(I:Inv X pins σ H s):Env0 X.prog X.w X.K X.mg X.base X.A X.stack s H:=
 ⟨I.ok.frames,I.ok.mod,I.bs,Vx I.ok.bsz I.sz,I.stack,⟨I.stkFree,I.tab⟩,I.hok,I.bare⟩
def Inv.after(I:Inv X pins σ H s)(h:CE X.stack X.prog X.w H s Q u s'):EP X pins σ Q u s':=by
 let⟨v,H',os,bare,un,l,r,q⟩:=h;let⟨o,g,d,t,j⟩:=s';obtain rfl:j=s.os:=os;exact⟨v,H',I.call un l bare (λb z=>absurd z (by simp)),r,q⟩
end
def  Mh(sp:Sp)(dvs:List V)(E:XK)(t:TA):TE:=λσ H Q=>t σ H λvs H1=>sp (vs++dvs) H1 Q E
def  Mi(C:Addr)(m:Str)(sp:Sp)(dvs:List V)(E:XK)(ta:TE)(t:TA):TE:=λσ H Q=>ta σ H λx H1=>∃a dx fs,x=.ref a/\H1 a=!(.ins C dx fs)/\fs.lookup m=none/\
 t σ H1 λvs H2=>sp (x::(vs++dvs)) H2 Q E
def  Mj(C:Addr)(sp:Sp)(dvs:List V)(E:XK)(t:TA):TE:=λσ H Q=>t σ H λvs H1=>∀x dx,H1 x=none->H1 dx=none->dx≠x->
 sp (.ref x::(vs++dvs)) (aR (aR H1 dx (.own x)) x (.ins C dx [])) (λv H2=>v=.non/\Q (.ref x) H2) E
def  Binds(K:Frag)(fd:FuncData)(ps:Vc)(ds:U9):Prop:=
 ∀(s:Shared)(us:U9),K.In s.heap->(us++ds).length=ps.length->BindsTo s fd ⟨us,[]⟩ (ps.zip (us++ds))
def Binds.all{K}(h:∀g:U9,g.length=ps.length->bindArgs fd ⟨g,[]⟩=pure (ps.zip g)):Binds K fd ps []:=λs g _ j=>by
 rw[List.append_nil]at j⊢;exact .of_eq (h g j)
def  lO(CX:IL)(X:Cx)(E:XK):Prop:=∀(pins:U5)(σ:St)(H:Hp)(s:Shared)(e:Value)(s':Shared),Inv X pins σ H s->CX X.stack H s E e s'->X.xe e s'
section
variable{X:Cx}{CX:IL}{k:Nat}{f C:Addr}{fd:FuncData}{ps:Vc}{sp:Sp}{dvs:List V}{ds:U9}{E:XK}{x m:Str}{p pos apos:Pos}{e o:Expr}{es:Vh}{ta:TE}{t:TA}
def AN{σ:St}(F:FnOk X.prog X.w X.K X.mg X.base CX k f fd ps sp)(p:Room k X.A)(C:Binds X.K fd ps ds)(hd:Vals dvs ds)(o:lO CX X E)(I:Inv X pins σ H s)(r:Vals vs j)(h:sp (vs++dvs) H Q E):wpAny (!4) X.A (call (.ref f) j) (EP X pins σ Q) X.xe s:=by
 have l:=r.append hd;have t:(j++ds).length=ps.length:=by rw[<-l.length];exact F.len _ _ _ _ h
 refine wpAny_call (codeAny_mono (F.run X.A X.stack s H ⟨j,[]⟩ _ _ Q E p I.env0 (C s j I.kIn t) l h) λr s' g=>?_);cases r with
 |error e=>exact o pins σ H s e s' I g
 |ok J=>
  cases J with
  |ret u=>exact I.after g
  |next=>exact False.elim g
  |brk=>exact False.elim g
  |cont=>exact False.elim g
def nq(F:FnOk X.prog X.w X.K X.mg X.base CX k f fd ps sp)(C:Room k X.A)(U:Gl X x)(J:X.mg x=!(.ref f))(T:PySem.W.keepIn X.K (.ref f)=true)(hb:Binds X.K fd ps ds)(hd:Vals dvs ds)(o:lO CX X E)
  (ha:PA X (e::es) t) (j:(!7)=false:=by decide) (he:starEach (e::es) X.env=(false,eval e X.env)::starEach es X.env:=by rfl) (g:(!14).any (·.1)=false:=by rfl):
  PE X (!18) (Mh sp dvs E t):=by
 intro pins s σ H Q I h
 refine wpAny_Call_Name_kw (re I U J ?_ j)
 refine PySem.W.callWith_K I.ok.mod.kin T (bw (ha pos pins s σ H _ I h) λus s1 ⟨vs,H1,l,r,q⟩=>⟨l.kIn,?_⟩) he g
 exact AN F C hb hd o l r q
def AO(T : PE X o ta)(c : Cls X.K C)(p : Meth X.K C m f)(F : FnOk X.prog X.w X.K X.mg X.base CX k f fd ps sp)(J : Room k X.A)(U : Binds X.K fd ps ds)(hd : Vals dvs ds)(r : lO CX X E)(t : eval (.Call (.Attribute o m apos) [] [] pos) X.env = (do
   let j <- eval o X.env
   standAt apos.atName
   let (f,first) <- holding [j] (getMethod j m pl)
   callWith pos f first (backTo pos (starEach [] X.env)) (backToKw pos (keywordEach [] X.env))):=by rfl) :
  PE X (.Call (.Attribute o m apos) [] [] pos) (Mi C m sp dvs E ta Me):=by
 intro pins s σ H Q I h
 refine PySem.W.methodCall_KW (bw (T pins s σ H _ I h) fun u s1 ⟨x,H1,g,rx,a,dx,fs,ex,ea,l,q⟩=>?_) t
 subst ex
 obtain rfl:u = Value.ref a:=rx
 refine vG g ea c p l ?_
 exact PySem.W.callWith_K0 g.kIn p.kp (AN (vs:=[.ref a]) F J U hd r g (.cons rfl .nil) q)
structure Mk(K:Frag)(C f:Addr):Prop where
 makes:PySem.W.makesIn K C=true
 init:findIn K (.ref C) "__init__"=!(!(.ref f))
 fn:PySem.W.isFn K (.ref f)=true
 kp:PySem.W.keepIn K (.ref C)=true
def AQ{σ:St}(M:Mk X.K C f)(F:FnOk X.prog X.w X.K X.mg X.base CX k f fd ps sp)(hr:Room (k+1) X.A)(hb:Binds X.K fd ps ds)(hd:Vals dvs ds)(hx:lO CX X E)(I:Inv X pins σ H s)(r:Vals vs us)(h:∀x dx,H x=none->H dx=none->dx≠x->sp (.ref x::(vs++dvs)) (aR (aR H dx (.own x)) x (.ins C dx [])) (λv H2=>v=.non/\Q (.ref x) H2) E):
  wpAny (!4) X.A (call (.ref C) us) (EP X pins σ Q) X.xe s:=by
 have hq:=h _ s.heap.objs.size (I.hok.fresh (Nat.le_succ _)) (I.hok.fresh (VI _)) (Vy (Nat.lt_succ_self _))
 have I2:=Inv.made (C:=C) I
 have r2:Vals (V.ref (!13)::(vs++dvs)) (Value.ref (!13)::(us++ds)):=.cons rfl (r.append hd)
 have hl:(Value.ref (!13)::us++ds).length=ps.length:=by
  have e:=r2.length;rw[F.len _ _ _ _ hq]at e;exact e.symm
 refine wpAny_call (AI I.kIn M.makes M.init (beq_iff_eq.mp M.fn) (codeAny_mono (F.run _ X.stack _ _ ⟨Value.ref _::us,[]⟩ (Value.ref _::(us++ds)) _ _ E (hr.make C us [])
  (I2.env0.make C us []) (hb _ (Value.ref _::us) I2.kIn hl) r2 hq) λr s' hq'=>?_))
 cases r with
 |error e=>exact hx pins σ _ _ e s' I2 hq'
 |ok fl=>
  cases fl with
  |ret u=>
   let⟨v,H',I3,rv,ev,q3⟩:=I2.after hq';subst ev;exact⟨rv,⟨V.ref _,H',I3,rfl,q3⟩⟩
  |next=>exact False.elim hq'
  |brk=>exact False.elim hq'
  |cont=>exact False.elim hq'
def Er(M:Mk X.K C f)(F:FnOk X.prog X.w X.K X.mg X.base CX k f fd ps sp)(J:Room (k+1) X.A)(U:Gl X x)(T:X.mg x=!(.ref C))(hb:Binds X.K fd ps ds)(hd:Vals dvs ds)(o:lO CX X E)
  (ha:PA X (e::es) t) (j:(!7)=false:=by decide) (he:starEach (e::es) X.env=(false,eval e X.env)::starEach es X.env:=by rfl) (g:(!14).any (·.1)=false:=by rfl):
  PE X (!18) (Mj C sp dvs E t):=by
 intro pins s σ H Q I h
 refine wpAny_Call_Name_kw (re I U T ?_ j)
 refine PySem.W.callWith_K I.ok.mod.kin M.kp (bw (ha pos pins s σ H _ I h) λus s1 ⟨vs,H1,l,r,q⟩=>⟨l.kIn,?_⟩) he g
 exact AQ M F J hb hd o l r q
end
structure FnScope(N P:Vc)(sc:Scope):Prop where
 kind:sc.kind=.function
 co:sc.isCoroutine=false
 gen:sc.isGenerator=false
 nd:N.Nodup
 pre:N.take P.length=P
 par:∀x∈P,sc.names.lookup x=some .local\/sc.names.lookup x=some .cell
 nofree:∀y∈sc.names,y.2≠.free
def qo{kindOf}:∀{binds:List (Str×Value)}{m:Str->Va},(∀v,(x,v) ∉ binds)->bindL kindOf binds m x=m x
 |[],_,_=>rfl
 |(n,v)::r,m,h=>by
  unfold bindL;rw[qo λw hw=>h w (mem_cons_of_mem _ hw)];split
  .have:x≠n:=by rintro rfl;exact h v Vr
   simp[this]
  .rfl
def qp{kindOf}:∀{binds:List (Str×Value)}{m:Str->Va},(∀v,(x,v) ∉ binds)->bindC kindOf binds m x=m x
 |[],_,_=>rfl
 |(n,v)::r,m,h=>by
  unfold bindC;rw[qp λw hw=>h w (mem_cons_of_mem _ hw)];split
  .rfl
  .have:x≠n:=by rintro rfl;exact h v Vr
   simp[this]
def qq{kindOf}:∀{P:Vc}{vs:U9}{i:Nat}{m:Str->Va},P.Nodup->P[i]?=!x->vs[i]?=!v->kindOf x=some .local->
  bindL kindOf (P.zip vs) m x=!v
 |[],_,_,_,_,h,_,_=>by simp at h
 |_::_,[],_,_,_,_,h,_=>by simp at h
 |p::P,w::vs,0,m,nd,h1,h2,hk=>by
  simp at h1 h2;subst h1;subst h2;show bindL kindOf ((p,w)::P.zip vs) m p=_;unfold bindL;rw[qo λv hv=>(List.nodup_cons.mp nd).1 (List.of_mem_zip hv).1,if_pos hk];simp
 |p::P,w::vs,i+1,m,nd,h1,h2,hk=>by
  show bindL kindOf ((p,w)::P.zip vs) m x=_;unfold bindL;exact qq (i:=i) (List.nodup_cons.mp nd).2 (by simpa using h1) (by simpa using h2) hk
def qr{kindOf}:∀{P:Vc}{vs:U9}{i:Nat}{m:Str->Va},P.Nodup->P[i]?=!x->vs[i]?=!v->kindOf x≠some .local->
  bindC kindOf (P.zip vs) m x=!v
 |[],_,_,_,_,h,_,_=>by simp at h
 |_::_,[],_,_,_,_,h,_=>by simp at h
 |p::P,w::vs,0,m,nd,h1,h2,hk=>by
  simp at h1 h2;subst h1;subst h2;show bindC kindOf ((p,w)::P.zip vs) m p=_;unfold bindC;rw[qp λv hv=>(List.nodup_cons.mp nd).1 (List.of_mem_zip hv).1,if_neg hk];simp
 |p::P,w::vs,i+1,m,nd,h1,h2,hk=>by
  show bindC kindOf ((p,w)::P.zip vs) m x=_;unfold bindC;exact qr (i:=i) (List.nodup_cons.mp nd).2 (by simpa using h1) (by simpa using h2) hk
noncomputable def  jT(N:Vc)(vs:List V):St:=vs.map some++List.replicate (N.length-vs.length) none
def  nU(CX:IL)(P:Program)(w:World)(K:Frag)(mg:Str->Va)(base:Heap)(N:Vc)(qual:Str)(scope:Scope)(f:Addr)(cd:Value)(A:Around)(outer:List Env)(s:Shared)(H:Hp)(E:XK):Cx where
 prog:=P
 w:=w
 K:=K
 mg:=mg
 base:=base
 A:=A.deeper (envOfC qual scope s.heap.objs.size f cd)
 N:=N
 s₀:=s
 H₀:=H
 env:=envOfC qual scope s.heap.objs.size f cd
 outer:=outer
 stack:=envOfC qual scope s.heap.objs.size f cd::outer
 ex:=[]
 calm:=true
 fn:=λ_=>true
 pn:=[]
 xe:=λe s'=>wpAny (model P w) (A.deeper (envOfC qual scope s.heap.objs.size f cd)) (leaving (envOfC qual scope s.heap.objs.size f cd) e) (λ_ s''=>CX outer H s E e s'') (λe' s''=>CX outer H s E e' s'') s'
def tN{g:Scope}(h:g.names.lookup x=some .cell):∃c,(cellsFrom n g.names []).lookup x=!c:=by
 have q:=PySem.W.cellsFrom_some g.names n [] (.inl h);exact Option.isSome_iff_exists.mp q
def zb{K}(S:FnScope N ps scope)(hd:A.handled=none)(e0:Env0 P w K mg base A outer s H)(hl:vs.length=ps.length)(r:Vals vs us)(x:InCallC s s.heap.objs.size (bindL (envOfC qual scope s.heap.objs.size f cd).kindOf (ps.zip us) λ_=>none) (cellsFrom (!13) scope.names []) (bindC (envOfC qual scope s.heap.objs.size f cd).kindOf (ps.zip us) λ_=>none) s1):
  Inv (nU CX P w K mg base N qual scope f cd A outer s H E) [] (jT N vs) H s1:=by
 have hpl:ps.length<=N.length:=by have:=congrArg List.length S.pre;rw[List.length_take]at this;omega
 let⟨h1,tk,rfl,hk⟩:=x.done
 have noA:∀b:Addr,b ∉ (nU CX P w K mg base N qual scope f cd A outer s H E).ex:=λb z=>absurd (show b∈([]:List Addr)from z) (by simp)
 refine⟨⟨e0.mod,S.kind,rfl,rfl,VI _,λy z c h1 h2=>?_,λy hy=>?_,λy c _ h=>?_,λ_=>hd,Around.frames_deeper e0.frames,.inr ⟨rfl,rfl⟩,λb z=>absurd z (noA b),e0.bs,e0.bsz,λb _ _=>noA b,λb z=>absurd z (noA b),e0.funs,e0.frf⟩,
  rfl,e0.bare,Un.kept hk,⟨_,x.toInCall.ns,λi y v h1 h2 h3=>?_⟩,λy c h=>⟨_,x.cell y c h⟩,e0.hok.fresh (VI _),λy c h=>?_,λp hp=>absurd (show p∈([]:U5)from hp) (by simp),e0.hok.kept hk,?_⟩
 .exact name_of_addr x.apart (PySem.mem_of_lookup h1) (PySem.mem_of_lookup h2)
 .have hy:scope.names.lookup y=some .cell\/scope.names.lookup y=some .free:=hy;rcases hy with hy|hy
  .exact tN hy
  .exact absurd rfl (S.nofree _ (PySem.mem_of_lookup hy))
 .exact VF (x.above y c (PySem.mem_of_lookup h))
 .have hi:i<vs.length:=by
   unfold jT at h2;by_cases hi:i<vs.length
   .exact hi
   .rw[getElem?_append_right (by simpa using hi)]at h2;rw[List.getElem?_replicate]at h2;split at h2<;>cases h2
  have ha:vs[i]?=!v:=by
   unfold jT at h2;rw[getElem?_append_left (by simpa using hi),getElem?_map]at h2;cases e:vs[i]? with
   |none=>rw[e]at h2;cases h2
   |some a=>rw[e]at h2;cases h2;rfl
  let⟨u,hu,rv⟩:=r.get ha;have hp:ps[i]?=!y:=by
   rw[<-S.pre,List.getElem?_take_of_lt (!1)];exact h1
  have ndP:ps.Nodup:=by rw[<-S.pre];exact S.nd.sublist (List.take_sublist _ _)
  refine⟨u,rv,?_⟩;rcases S.par y (VH hp)with k|k
  .exact .inl ⟨k,qq ndP hp hu k⟩
  .let⟨c,e⟩:=tN k;refine .inr ⟨.inl k,c,e,?_⟩;have q:=x.cell y c e;rw[qr ndP hp hu (by show scope.names.lookup y≠_;rw[k];decide)]at q;exact q
 .exact e0.hok.fresh (VF (x.above y c (PySem.mem_of_lookup h)))
 .unfold jT;show _=N.length;rw[length_append,length_map,List.length_replicate];omega
def Hu{K}{dV kV doc pm l ct oc}(lk:K.lookup f=!⟨oc,od,.func (PySem.W.fnOf name j C body scope dV kV doc pm an l ct),osl⟩)(hcd:PySem.W.codeIn K l j=true)(S:FnScope N ps scope)(len:∀T H Q E,sp T H Q E->T.length=ps.length)(hbody:∀(A:Around)(g:List Env)(s:Shared)(H:Hp)(T:List V)(Q:VK)(E:XK),Room k (A.deeper (envOfC j scope s.heap.objs.size f l))->sp T H Q E->
   ∃t,PSs (nU CX P w K mg base N j scope f l A g s H E) body t/\t {nx:=λ_ H'=>Q .non H',rt:=Q} (jT N T) H):
  FnOk P w K mg base CX (k+1) f (PySem.W.fnOf name j C body scope dV kV doc pm an l ct) ps sp:=by
 refine⟨len,λA g s H args us T Q E hr e0 hb r hsp=>?_⟩
 have hl:=len _ _ _ _ hsp
 have KX:=e0.mod.kin.keeps λb o e=>(e0.bs b o e).1
 have lim:=e0.mod.nolimit.keeps λb o e=>(e0.bs b o e).1
 have U:∀y∈ps.zip us,scope.names.lookup y.1=some .local\/(scope.names.lookup y.1=some .cell/\((cellsFrom (!13) scope.names []).lookup y.1).isSome=true):=λ⟨n,v⟩ hy=>by
  rcases S.par n (List.of_mem_zip hy).1 with q|q
  .exact .inl q
  .exact .inr ⟨q,PySem.W.cellsFrom_some _ _ _ (.inl q)⟩
 refine codeAny_call_function hr.depth (KX _ _ lk) rfl S.co S.gen rfl (PySem.W.codeRec_of KX hcd) (hb _ _ _ _ ?_)
 refine wpAny_newFunctionEnv_cells S.kind U λenv he s1 x=>?_
 subst he
 refine⟨lim.keeps x.toInCall.keep,codeAny_func ?_⟩
 let⟨t,ht,hq⟩:=hbody A g s H T Q E (hr.deeper _) hsp
 have I:Inv (nU CX P w K mg base N j scope f l A g s H E) [] (jT N T) H s1:=zb S hr.hd e0 hl r x
 refine VJ (ht [] s1 _ H _ I hq) (λfl s' hs=>?_) λe s' hs=>hs
 have fin:∀{p:St}{H':Hp}{v:V}{u:Value},Inv (nU CX P w K mg base N j scope f l A g s H E) [] p H' s'->RelV v u->Q v H'->CE g P w H s Q u s':=
  λ{p H' v u} J rv q=>⟨v,H',J.os,J.bare,J.base,J.hok,rv,q⟩
 cases fl with
 |ret u=>
  let⟨v,p,H',J,rv,q⟩:=hs;exact fin J rv q
 |next=>
  let⟨p,H',J,q⟩:=hs;exact fin (v:=V.non) J rfl q
 |brk=>
  let⟨_,_,_,q⟩:=hs;exact False.elim q
 |cont=>
  let⟨_,_,_,q⟩:=hs;exact False.elim q
section
variable{X:Cx}{x:Str}{p pos:Pos}{e:Expr}{es:Vh}{t:TA}{id T:String}{r:List V->Hp->VK->Prop}
def  SL(r:List V->Hp->VK->Prop)(t:TA):TE:=λσ H Q=>t σ H λvs H1=>r vs H1 Q
def nV(hc:fC X (.builtin id) r)(hg:Gl X x)(hm:X.mg x=none)(U:bootBuiltins x=!(.builtin id))(ha:PA X (e::es) t)(hn:x≠"__name__":=by decide)(j:(!7)=false:=by decide)
  (he:starEach (e::es) X.env=(false,eval e X.env)::starEach es X.env:=by rfl) (g:(!14).any (·.1)=false:=by rfl):PE X (!18) (SL r t):=by
 intro pins s σ H Q I h
 refine wpAny_Call_Name_kw (dq I hg hm U ?_ hn j)
 exact PyProof.Rows.callWith_builtin1 (bw (ha pos pins s σ H _ I h) λo C ⟨l,H1,I1,J,T⟩=>hc pins C σ H1 l o Q I1 J T) he g
def qu(hc:fC X (.type T) r)(hg:Gl X x)(hm:X.mg x=none)(hv:bootBuiltins x=!(.type T))(ha:PA X (e::es) t)(hn:x≠"__name__":=by decide)(j:(!7)=false:=by decide)
  (he:starEach (e::es) X.env=(false,eval e X.env)::starEach es X.env:=by rfl) (g:(!14).any (·.1)=false:=by rfl):PE X (!18) (SL r t):=by
 intro pins s σ H Q I h
 refine wpAny_Call_Name_kw (dq I hg hm hv ?_ hn j)
 exact PyProof.Rows.callWith_type1 (bw (ha pos pins s σ H _ I h) λo C ⟨l,H1,I1,J,U⟩=>hc pins C σ H1 l o Q I1 J U) he g
end
end L2
namespace HT
open PySem PyProof.Rows
noncomputable def  lexLt:Vd->Vd->Bool
 |[],[]=>false
 |[],_::_=>true
 |_::_,[]=>false
 |x::xs,y::ys=>if x=y then lexLt xs ys else decide (x<y)
def lexLt_cons(x y:Int)(xs ys:Vd):lexLt (x::xs) (y::ys)=if x=y then lexLt xs ys else decide (x<y):=rfl
def lexLt_nil_nil:lexLt [] []=false:=rfl
def iQ(y:Int)(ys:Vd):lexLt [] (y::ys)=true:=rfl
def iR(x:Int)(xs:Vd):lexLt (x::xs) []=false:=rfl
def tO(A:Around)(s:Shared)(a:Int)(t:Tok)(c:Int)(u:Tok):∃e,SeqAt.EqAt A s (.int a t) (.int c u) e/\(e=true↔a=c):=
 ⟨(a==c),SeqAt.EqAt.int_int a t c u,by simp⟩
def AR(A:Around)(s:Shared)(a:Int)(t:Tok)(c:Int)(u:Tok)(prog:Program)(w:World)(E:U8)(Q:U8)(h:Q (.bool (decide (a<c))) s):
  wpAny (!6) A (richCompare .Lt (.int a t) (.int c u)) Q E s:=
 (PyProof.Rows.lt_int h:wpAny _ A (compareOp .Lt _ _) Q E s)
section
open PySem.SeqAt
open PySem.AutoSeq1 (wpAny_loadPart')
open PySem.MeetsSeq PySem.MeetsSeq2 PySem.MeetsSeq3
def pX(l b:Addr)(items items2:Vf)(n n2:Nat)(dd dd2:Option Addr)(sl sl2:Array (Va))(ns ms:Vd)(hi:IntsAre items.toList ns)(hj:IntsAre items2.toList ms):
  Meets (Builtin.«tuple.__lt__» ⟨[.ref l,.ref b],[]⟩)
   (λ_ R s=>s.heap.get? l=some {cls:=.type "tuple",dict:=dd,data:=.seq items n,slots:=sl}/\s.heap.get? b=some {cls:=.type "tuple",dict:=dd2,data:=.seq items2 n2,slots:=sl2}/\
    R (.ok (.ret (.bool (lexLt ns ms)))) s):=
 .of_wp λprog w A R s h=>by
  let⟨hp,g,d,tk,os⟩:=s;let⟨hl,hb,h⟩:=h;have f2:=AutoSeq1.sub_tuple_tuple;have z1:items.size=ns.length:=by rw[<-hi.length];simp
  have z2:items2.size=ms.length:=by rw[<-hj.length];simp
  wp_walk using wpAny_loadPart' hl,wpAny_loadPart' hb,wpAny_forIn_list _ (λrest b s'=>b.1=none/\s'=⟨hp,g,d,tk,os⟩/\∃(vs ws:U9)(ns' ms':Vd),rest=vs.zip ws/\
   IntsAre vs ns'/\IntsAre ws ms'/\ns'.length+items2.size=ms'.length+items.size/\R (.ok (.ret (.bool (lexLt ns' ms')))) ⟨hp,g,d,tk,os⟩) _
  case turn=>
   rintro⟨y,x⟩ rest b s' ⟨hb',rfl,vs,ws,ns',ms',hz,hvi,hwi,hlen,hR⟩;cases hvi with
   |nil=>rw[List.zip_nil_left]at hz;cases hz
   |cons a t hvi'=>
    cases hwi with
    |nil=>rw[List.zip_nil_right]at hz;cases hz
    |cons c u hwi'=>
     rw[List.zip_cons_cons]at hz;injection hz with hyx hrest;injection hyx with hy hx;subst hy hx;rw[lexLt_cons]at hR;simp only[length_cons]at hlen;let⟨e,he,hiff⟩:=tO A.in1 ⟨hp,g,d,tk,os⟩ a t c u;refine Vk (he prog w _ _ ?_);cases e with
     |true=>
      rw[if_pos (hiff.mp rfl)]at hR;wp_walk;exact⟨rfl,rfl,_,_,_,_,hrest,hvi',hwi',by omega,hR⟩
     |false=>
      rw[if_neg (λq=>absurd (hiff.mpr q) Bool.false_ne_true)]at hR;have hri:=AR A.in1 ⟨hp,g,d,tk,os⟩ a t c u prog w;wp_walk using hri;exact⟨_,rfl,by simpa using hR⟩
  case fin=>
   rintro⟨b1,b2⟩ s' ⟨hb',rfl,vs,ws,ns',ms',hz,hvi,hwi,hlen,hR⟩;simp only at hb';subst hb';have hv:lexLt ns' ms'=decide (items.size<items2.size):=by
    cases hvi with
    |nil=>
     cases hwi with
     |nil=>
      simp only[List.length_nil]at hlen;rw[lexLt_nil_nil];exact(decide_eq_false (!1)).symm
     |cons c u hw=>
      simp only[List.length_nil,length_cons]at hlen;rw[iQ];exact(decide_eq_true (!1)).symm
    |cons a t hv=>
     cases hwi with
     |nil=>
      simp only[List.length_nil,length_cons]at hlen;rw[iR];exact(decide_eq_false (!1)).symm
     |cons c u hw=>
      rw[List.zip_cons_cons]at hz;cases hz
   rw[hv]at hR;wp_walk;exact⟨_,rfl,by simpa [Builtin.Tuple.tupleCompareSizes] using hR⟩
  case h=>
   exact⟨rfl,rfl,items.toList,items2.toList,ns,ms,rfl,hi,hj,by omega,h⟩
end
def lt_tupInts(hl:IsTup s.heap l items)(hb:IsTup s.heap b items2)(hi:IntsAre items.toList ns)(hj:IntsAre items2.toList ms)(hu:A.units<cLine)(h:Q (.bool (lexLt ns ms)) s):wpAny (!6) A (compareOp .Lt (.ref l) (.ref b)) Q E s:=by
 let⟨⟨cls,dd,data,sl⟩,ho,hc,n,hd⟩:=id hl;let⟨⟨cls2,dd2,data2,sl2⟩,ho2,hc2,n2,hd2⟩:=id hb;subst hc hd hc2 hd2;exact richCompare_meets_room (op:=.Lt) ⟨_,ho,rfl⟩ ⟨_,ho2,rfl⟩ PySem.F.slot_tuple_lt PySem.F.entry_tuple_lt (PySem.F.args_tuple_lt_2 _ _) (pX l b items items2 n n2 dd dd2 sl sl2 ns ms hi hj)
  ⟨ho,ho2,show Value.bool (lexLt ns ms)≠Value.notImplemented/\Q (.bool (lexLt ns ms)) s from⟨(λx=>nomatch x),h⟩⟩ hu
def cat_tup{prog:Program}{w:World}{A:Around}{E:U8}{s:Shared}(ht:IsTup s.heap t l.toArray)(hb:IsTup s.heap b g.toArray)(hv:l≠[])(h1:g=[]->Q (.ref t) s)(h2:g≠[]->Q (.ref s.heap.objs.size) {s with heap:=s.heap.push {cls:=.type "tuple",data:=.seq (l++g).toArray}})(I:l.length+g.length<=sizeLine):wpAny (!6) A (binaryOp .Add (.ref t) (.ref b)) Q E s:=by
 let⟨⟨cls,dd,data,U⟩,C,hc,n,hd⟩:=id ht;let⟨⟨cls2,p,data2,o⟩,j,T,n2,J⟩:=id hb;subst hc hd T J;have e:l.toArray++g.toArray=(l++g).toArray:=by simp
 by_cases r:g=[]
 .exact concat_meets ⟨_,C,rfl⟩ ⟨_,j,rfl⟩ noFill_tuple_add seq_tuple_add PySem.F.slot_tuple_add PySem.F.entry_tuple_add (PySem.F.args_tuple_add_2 _ _)
   (tuple_addW1 t b l.toArray g.toArray n n2 dd p U o (by simpa using hv) (by simp[r])) ⟨C,j,h1 r⟩
 .refine concat_meets ⟨_,C,rfl⟩ ⟨_,j,rfl⟩ noFill_tuple_add seq_tuple_add PySem.F.slot_tuple_add PySem.F.entry_tuple_add (PySem.F.args_tuple_add_2 _ _)
   (tuple_addW2 t b l.toArray g.toArray n n2 dd p U o (by simpa using hv) (by simpa using r) (by rw[size_toArray,size_toArray];exact I)) ⟨C,j,?_⟩
  rw[e];exact h2 r
noncomputable def  sIx(n d:Nat):Vj->Nat
 |none=>d
 |some v=>if v<0 then(v+(n:Int)).toNat else min v.toNat n
def sIx_none(n d:Nat):sIx n d none=d:=rfl
def sIx_nat(n d k:Nat):sIx n d (!(k:Int))=min k n:=by grind [sIx]
def xx(v:Int)(n d:Nat):(if v<0 then max (v+(n:Int)) 0 else min v (n:Int))=((sIx n d (!v):Nat):Int):=by grind [sIx]
def vK(lo hi:Vj)(n:Nat):Builtin.Slice.sliceAdjust lo hi 1 (n:Int)=(((sIx n 0 lo:Nat):Int),((sIx n n hi:Nat):Int)):=by
 refine Prod.ext ?_ ?_
 .cases lo with
  |none=>rfl
  |some v=>exact xx v n 0
 .cases hi with
  |none=>rfl
  |some v=>exact xx v n n
def vL(i j:Nat):Builtin.Slice.slicePlaces (i:Int) (j:Int) 1=j-i:=by
 unfold Builtin.Slice.slicePlaces;split<;>omega
def nW(p:IsPart v o)(h:Q o s):wpAny (!6) A (Builtin.Slice.slicePartIndex v) Q E s:=by
 cases p with
 |none=>exact slicePart_none h
 |int i t=>exact slicePart_int h
def sliceApplied_gen{lo hi}{Q:Int×Int×Nat->Shared->Prop}(hs:s.heap.IsSliceOf sl vl vu .none)(pl:IsPart vl lo)(pu:IsPart vu hi)(h:Q (((sIx n 0 lo:Nat):Int),1,sIx n n hi-sIx n 0 lo) s):wpAny (!6) A (Builtin.Slice.sliceApplied (.ref sl) (pure (n:Int))) Q E s:=by
 let⟨os,hos,hcs,hds⟩:=id hs;refine Vk (Vk (wpAny_field hos hds rfl (Vk (wpAny_field hos hds rfl (Vk (wpAny_field hos hds rfl (Vm ?_)))))));refine Vk (slicePart_none ?_);refine Vk (nW pl (Vk (nW pu (Vk (Vm ?_)))));show wpAny _ _ (match Builtin.Slice.sliceAdjust lo hi 1 (n:Int)with|(lo,hi)=>pure (lo,(1:Int),Builtin.Slice.slicePlaces lo hi 1)) _ _ s;rw[vK];show wpAny _ _ (pure (((sIx n 0 lo:Nat):Int),(1:Int),Builtin.Slice.slicePlaces ((sIx n 0 lo:Nat):Int) ((sIx n n hi:Nat):Int) 1)) _ _ s;rw[vL];exact Vm h
def AS(xs:Vf)(i k:Nat):((List.range k).filterMap λ(m:Nat)=>xs[((i:Int)+(m:Int)*1).toNat]?).toArray=((xs.toList.drop i).take k).toArray:=by
 have e:(λ(m:Nat)=>xs[((i:Int)+(m:Int)*1).toNat]?)=λm=>xs[i+m]?:=by
  funext m;have:((i:Int)+(m:Int)*1).toNat=i+m:=by omega
  rw[this]
 rw[e];have:=pick_run xs i k;rw[List.filterMap_map]at this;have e2:((λx=>xs[x]?)∘λx=>i+x)=λm=>xs[i+m]?:=rfl;grind
def getItem_tuple_cut{lo hi}(ht:IsTup s.heap t items)(hs:s.heap.IsSliceOf sl vl vu .none)(pl:IsPart vl lo)(pu:IsPart vu hi)(hw:¬ (sIx items.size 0 lo=0/\sIx items.size items.size hi=items.size))(h:Q (.ref s.heap.objs.size) {s with heap:=s.heap.push {cls:=.type "tuple",data:=.seq ((items.toList.drop (sIx items.size 0 lo)).take (sIx items.size items.size hi-sIx items.size 0 lo)).toArray}})(hsz:items.size<=sizeLine):wpAny (!6) A (getItem (.ref t) (.ref sl)) Q E s:=by
 have htake:sizeOk (.seq ((items.toList.drop (sIx items.size 0 lo)).take (sIx items.size items.size hi-sIx items.size 0 lo)).toArray):=by
  show((items.toList.drop (sIx items.size 0 lo)).take (sIx items.size items.size hi-sIx items.size 0 lo)).toArray.size<=sizeLine;rw[size_toArray,List.length_take,List.length_drop,Array.length_toList];omega
 let⟨os,hos,hcs,hds⟩:=id hs;have hTs:s.TypeIs (.ref sl) "slice":=⟨os,hos,hcs⟩;unfold getItem;try with_reducible refine wpAny_holding ?_
 first|refine Vk (Vm ?_)|skip
 refine Vk (wpAny_sequenceKey ht.typeIs (!2) ?_);refine Vk (wpAny_callSpecial?_slot ht.typeIs PyProof.Rows.slot_tuple_getitem
  (wpAny_call_entry PyProof.Rows.slot_tuple_getitem ht.typeIs entry_tuple_getitem ?_ (args_tuple_getitem _ _)))
 show wpAny _ _ (Builtin.Tuple.tupleItemsOf (.ref t)>>=_) _ _ s;refine Vk (tupleItemsOf_ ht ?_);refine Vk (wpAny_typeOf hTs ?_);refine Vk (sliceApplied_gen hs pl pu ?_);have hno:¬ ((((sIx items.size 0 lo:Nat):Int)==0&&(1:Int)==1&&(sIx items.size items.size hi-sIx items.size 0 lo)==items.size)=true):=by
  intro q;rw[and_eq_true,and_eq_true]at q;have q1:=eq_of_beq q.1.1;have q2:=eq_of_beq q.2;exact hw ⟨by omega,by omega⟩
 show wpAny _ _ (if(((sIx items.size 0 lo:Nat):Int)==0&&(1:Int)==1&&(sIx items.size items.size hi-sIx items.size 0 lo)==items.size)=true then _ else _) _ _ s;rw[if_neg hno,AS];first
  |exact Vk (wpAny_newObj_type (Vm ⟨_,rfl,Vm h⟩) htake)
  |exact Vk (wpAny_newObj_type (Vk (Vm _)) htake)
  |exact Vk (Vk (wpAny_newObj_type (Vm _) htake))
  |exact Vk (Vk (wpAny_newObj_type _ htake))
end HT
namespace L2
open PySem PySem.Spec PyProof.Rows
abbrev TO:=St->Hp->(Vj->Hp->Prop)->Prop
def  PO(X:Cx)(e:Option Expr)(t:TO):Prop:=
 ∀(pins:U5)(s:Shared)(σ:St)(H:Hp)(Q:Vj->Hp->Prop),Inv X pins σ H s->t σ H Q->
  wpAny (!4) X.A (evalPart e X.env) (λu s'=>∃o H',Inv X pins σ H' s'/\IsPart u o/\Q o H') X.xe s
def  Es:TO:=λ_ H Q=>Q none H
def  Ml(t:TE):TO:=λσ H Q=>t σ H λx H1=>∃i,x=.int i/\Q (!i) H1
def gP:∀{g:U9},Vals (j.map V.int) g->IntsAre g j:=by
 induction j with
 |nil=>intro g r;rw[List.map_nil]at r;cases r;exact .nil
 |cons n j p=>
  intro g r;cases r with
  |cons o l=>
   let⟨t,e⟩:=o;subst e;exact .cons n t (p l)
section
variable{X:Cx}{e:Expr}{te:TE}{lo hi:Option Expr}{tl th:TO}{pos p2:Pos}
def po_none:PO X none Es:=by
 intro pins s σ H Q I h;exact Vm ⟨none,H,I,.none,h⟩
def Et(h:PE X e te):PO X (!e) (Ml te):=by
 intro pins s σ H Q I l;refine bw (h pins s σ H _ I l) λu p ⟨x,H1,o,g,j⟩=>?_;let⟨i,rfl,q⟩:=j;let⟨t,rfl⟩:=g;exact⟨!i,H1,o,.int i t,q⟩
def  SlR(X:Cx)(r:V->Vj->Vj->Hp->VK->Prop):Prop:=
 ∀(pins:U5)(s:Shared)(σ:St)(H:Hp)(x:V)(v vl vu:Value)(lo hi:Vj)(sl:Addr)(Q:VK),Inv X pins σ H s->RelV x v->s.heap.IsSliceOf sl vl vu .none->IsPart vl lo->IsPart vu hi->r x lo hi H Q->
  ∃T id,typeLookup (.type T) "__getitem__"=pure (!(.builtin id))/\s.TypeIs v T/\wpAny (!4) X.A (getItem v (.ref sl)) (EP X pins σ Q) X.xe s
def SlR.or(h:SlR X r)(h':SlR X p):SlR X (λx lo hi H Q=>r x lo hi H Q\/p x lo hi H Q):=by
 intro pins s σ H x v j g lo hi l Q I rx o pl pu q;rcases q with q|q
 .exact h pins s σ H x v j g lo hi l Q I rx o pl pu q
 .exact h' pins s σ H x v j g lo hi l Q I rx o pl pu q
def  Uh(r:V->Vj->Vj->Hp->VK->Prop)(te:TE)(tl th:TO):TE:=λσ H Q=>te σ H λx H1=>tl σ H1 λl H2=>th σ H2 λu H3=>r x l u H3 Q
def tR(hr:SlR X r)(he:PE X e te)(hl:PO X lo tl)(hu:PO X hi th):PE X (.Subscript e (.Slice lo hi none p2) pos) (Uh r te tl th):=by
 intro pins s σ H Q I h;refine Subscript_ (bw (he pins s σ H _ I h) λv s1 ⟨x,H1,I1,r1,q1⟩=>?_);refine wpAny_Slice (bw (hl pins s1 σ H1 _ I1 q1) λvl s2 ⟨l,H2,I2,pl,q2⟩=>bw (hu pins s2 σ H2 _ I2 q2) λvu s3 ⟨u,H3,I3,pu,q3⟩=>?_);refine Vm ?_;have I4:Inv X pins σ H3 {s3 with heap:=s3.heap.push {cls:=.type "slice",data:=.fields #[vl,vu,.none]}}:=I3.kept λb ob q=>Vl _ q;let⟨T,id,hT,ht,hg⟩:=hr pins {s3 with heap:=s3.heap.push {cls:=.type "slice",data:=.fields #[vl,vu,.none]}} σ H3 x v vl vu l u s3.heap.objs.size Q I4 r1 (Heap.IsSliceOf.new ..) pl pu q3;exact tail_any ht hT hg (by with_unfolding_all rfl)
def  zc(xs:List V)(lo hi:Vj):List V:=(xs.drop (HT.sIx xs.length 0 lo)).take (HT.sIx xs.length xs.length hi-HT.sIx xs.length 0 lo)
def mC(xs:List V)(lo hi:Vj):(zc xs lo hi).length<=xs.length:=by grind [zc]
def  QB(K:Frag):V->Vj->Vj->Hp->VK->Prop:=λx lo hi H Q=>∃a xs,x=.ref a/\SqT K H a xs/\
 ¬ (HT.sIx xs.length 0 lo=0/\HT.sIx xs.length xs.length hi=xs.length)/\∀p,H p=none->Q (.ref p) (aR H p (.tup (zc xs lo hi)))
def sl_tup:SlR X (QB X.K):=by
 intro pins s σ H x v T J lo hi U Q I rx C pl pu h;let⟨a,xs,rfl,p,t,q⟩:=h;cases rx;let⟨j,r,o,l⟩:=I.tuple p;have g:j.toArray.size=xs.length:=by rw[size_toArray];exact r.length.symm
 refine⟨"tuple",_,PyProof.Rows.slot_tuple_getitem.lookup,o.typeIs,?_⟩;refine HT.getItem_tuple_cut o C pl pu (by rw[g];exact t) ?_ (by rw[g];exact l);rw[g];refine⟨.ref s.heap.objs.size,_,I.laid (λb ob q=>Vl _ q) (VI _) ?_,rfl,q _ (I.hok.fresh (VI _))⟩;exact⟨Vx (mC xs lo hi) l,_,(r.drop _).take _,IsTup.new _ _⟩
def  Mm(K:Frag):R2:=λx y H Q=>∃a b ns ms,x=.ref a/\y=.ref b/\SqT K H a (ns.map V.int)/\SqT K H b (ms.map V.int)/\Q (.bl (HT.lexLt ns ms)) H
def AT(J:X.A.units<cLine):OpR X (compareOp .Lt) (Mm X.K):=by
 intro pins s σ H x y v u Q I rx j h;let⟨a,b,ns,ms,rfl,rfl,U,T,q⟩:=h;cases rx;cases j;let⟨r,o,p,_⟩:=I.tuple U;let⟨g,l,p2,_⟩:=I.tuple T;have C:=gP o;have t:=gP l;exact HT.lt_tupInts p p2 C t J ⟨.bl _,H,I,rfl,q⟩
def  Hv(K:Frag):R2:=λx y H Q=>∃a b xs ys,x=.ref a/\y=.ref b/\SqT K H a xs/\SqT K H b ys/\xs≠[]/\xs.length+ys.length<=sizeLine/\
 (ys=[]->Q (.ref a) H)/\(ys≠[]->∀p,H p=none->Q (.ref p) (aR H p (.tup (xs++ys))))
def Vals.nil_iff(r:Vals xs g):g=[]↔xs=[]:=by
 cases r with
 |nil=>simp
 |cons _ _=>simp
def Eu:OpR X (binaryOp .Add) (Hv X.K):=by
 intro pins s σ H x y v u Q I rx p h;let⟨a,b,xs,ys,rfl,rfl,ha,U,T,o,t,r⟩:=h;cases rx;cases p;let⟨J,j,C,_⟩:=I.tuple ha;let⟨l,g,p2,_⟩:=I.tuple U;refine HT.cat_tup C p2 (λz=>T (j.nil_iff.mp z)) (λz=>⟨.ref a,H,I,rfl,t (g.nil_iff.mp z)⟩) (λz=>?_) (by rw[<-j.length,<-g.length];exact o);refine⟨.ref s.heap.objs.size,_,I.laid (λb ob q=>Vl _ q) (VI _) ?_,rfl,r (λw=>z (g.nil_iff.mpr w)) _ (I.hok.fresh (VI _))⟩;exact⟨by rw[length_append];exact o,_,j.append g,IsTup.new _ _⟩
end
noncomputable def  zd(n:Nat)(i:Int):Option Nat:=if 0<=i then(if i<n then !i.toNat else none)else if -(n:Int)<=i then some (i+n).toNat else none
def  nX{α:Type}(xs:List α)(i:Int):Option α:=(zd xs.length i).bind λj=>xs[j]?
def xy(h:zd n i=!j):seqIndex? i n=!j/\j<n/\ -(n:Int)<=i/\i<n:=by
 unfold zd at h;by_cases h0:0<=i
 .rw[if_pos h0]at h;by_cases h1:i<n
  .rw[if_pos h1]at h;have e:=Option.some.inj h;exact⟨by rw[seqIndex_of h0 h1,e],by omega,by omega,h1⟩
  .rw[if_neg h1]at h;cases h
 .rw[if_neg h0]at h;by_cases h1:-(n:Int)<=i
  .rw[if_pos h1]at h;have e:=Option.some.inj h;exact⟨by rw[seqIndex_neg (!1) h1,e],by omega,h1,by omega⟩
  .rw[if_neg h1]at h;cases h
def rp{v:α}(h:nX xs i=!v):∃j,seqIndex? i xs.length=!j/\xs[j]?=!v/\j<xs.length/\ -(xs.length:Int)<=i/\i<xs.length:=by
 unfold nX at h;cases e:zd xs.length i with
 |none=>rw[e]at h;cases h
 |some j=>
  rw[e]at h;let⟨h1,h2,l,g⟩:=xy e;exact⟨j,h1,h,h2,l,g⟩
def  nr(b:Expr):Prop:=∀o i,subscripted b false o i=operate [o,i] (getItem o i)
def  IxR(X:Cx)(r:R2):Prop:=
 ∀(value slice:Expr)(pins:U5)(s:Shared)(σ:St)(H:Hp)(x y:V)(v u:Value)(Q:VK),Inv X pins σ H s->RelV x v->RelV y u->r x y H Q->
  subscripted slice false v u=operate [v,u] (getItem v u)->wpAny (!4) X.A (subscriptTail value slice v u) (EP X pins σ Q) X.xe s
def  Ui(X:Cx)(id:String)(r:V->List V->Hp->VK->Prop):Prop:=
 ∀(pins:U5)(s:Shared)(σ:St)(H:Hp)(x:V)(xs:List V)(v:Value)(us:U9)(Q:VK),Inv X pins σ H s->RelV x v->Vals xs us->r x xs H Q->
  wpAny (!4) X.A (call (.builtin id) (v::us)) (EP X pins σ Q) X.xe s
section
variable{X:Cx}{a b:Expr}{ta tb:TE}{pos:Pos}
def IxR.or(h:IxR X r)(h':IxR X l):IxR X (λx y H Q=>r x y H Q\/l x y H Q):=by
 intro value slice pins s σ H x y v u Q I rx g q j;rcases q with q|q
 .exact h value slice pins s σ H x y v u Q I rx g q j
 .exact h' value slice pins s σ H x y v u Q I rx g q j
def Hw(o:IxR X r)(t:PE X a ta)(p:PE X b tb)(l:nr b):PE X (.Subscript a b pos) (L8 r ta tb):=by
 intro pins s σ H Q I h;exact Subscript_ (ID t p I h λv u g x y H2 C rx j q=>o a b pins g σ H2 x y v u Q C rx j q (l _ _))
def  Mn(K:Frag):R2:=λx y H Q=>∃p xs i v,x=.ref p/\y=.int i/\SqL K H p xs/\nX xs i=!v/\Q v H
def  Mp(K:Frag):R2:=λx y H Q=>∃p xs i v,x=.ref p/\y=.int i/\SqT K H p xs/\nX xs i=!v/\Q v H
def  Mq:R2:=λx y H Q=>∃z i c,x=.str z/\y=.int i/\z.length<=sizeLine/\nX z.cps.toList i=!c/\Q (.str ⟨#[c]⟩) H
def ix_list:IxR X (Mn X.K):=by
 intro value slice pins s σ H x y v u Q I rx T h C;let⟨p,xs,i,z,rfl,rfl,U,he,q⟩:=h;cases rx;let⟨t,rfl⟩:=T;let⟨l,r,pl,hz⟩:=I.list U;let⟨j,h1,h2,h3,h4,h5⟩:=rp he;let⟨w,J,g⟩:=r.get h2;have hl:=r.length;have hn:=j9;have fin:EP X pins σ Q w s:=⟨z,H,I,g,q⟩;by_cases h0:0<=i
 .have o:i.toNat=j:=by
   rw[seqIndex_of h0 h5]at h1;exact Option.some.inj h1
  exact item_listR pl.isList h0 (!1) (by rw[o];simpa using J) fin C
 .have o:(i+(l.toArray.size:Int)).toNat=j:=by
   rw[seqIndex_neg (!1) h4]at h1;rw[size_toArray,<-hl];exact Option.some.inj h1
  exact subscriptTail_builtinR pl.isList.typeIs slot_list_getitem.lookup
   (wpAny_getItem_list_neg pl.isList (!1) (by rw[size_toArray]<;>omega) (!1) (by rw[o];simpa using J) ⟨rfl,fin⟩) C
def ix_tup:IxR X (Mp X.K):=by
 intro value slice pins s σ H x y v u Q I rx l h C;let⟨p,xs,i,z,rfl,rfl,J,U,q⟩:=h;cases rx;let⟨t,rfl⟩:=l;let⟨o,r,pl,hz⟩:=I.tuple J;let⟨j,h1,h2,h3,h4,h5⟩:=rp U;let⟨w,ew,g⟩:=r.get h2;have T:=r.length;have hn:=j9;have fin:EP X pins σ Q w s:=⟨z,H,I,g,q⟩;exact subscriptTail_builtinR pl.typeIs slot_tuple_getitem.lookup
  (getItem_tuple pl (!1) (!1) (by rw[size_toArray,<-T];exact h1) (by simpa using ew) ⟨rfl,fin⟩) C
def IM:IxR X Mq:=by
 intro value slice pins s σ H x y v u Q I rx g h l;let⟨z,i,c,rfl,rfl,U,p,q⟩:=h;let⟨t,rfl⟩:=rx;let⟨T,rfl⟩:=g;let⟨j,h1,h2,h3,C,r⟩:=rp p;have o:z.cps.toList.length=z.length:=by simp[Str.length]
 rw[o]at h1 C r;have hn:=j9;exact tail_any (typeIs_str s z t) slot_str_getitem.lookup (getItem_str (by
  have J:decide (i< -(2^63:Int))=false:=decide_eq_false (!1);have e2:decide (i≥2^63)=false:=decide_eq_false (!1);rw[J,e2,Bool.or_false]) (by rw[h1];simpa using h2) ⟨.str ⟨#[c]⟩,H,I.tok _,⟨_,rfl⟩,q⟩) l
def  SM(K:Frag):R2:=λx y H Q=>Mn K x y H Q\/Mp K x y H Q\/Mq x y H Q
def ix_seq:IxR X (SM X.K):=ix_list.or (ix_tup.or IM)
def vM(g:U9)(n j:Nat)(u:Value):Obj.mapSeq (·.setIfInBounds j u) {cls:=.type "list",data:=.seq g.toArray n}={cls:=.type "list",data:=.seq (g.set j u).toArray n}:=by
 simp[Obj.mapSeq]
def Inv.lst{σ:St}(I:Inv X pins σ H s)(h:H p=!(.lst xs)):
  ∃(g:U9)(n:Nat),Vals xs g/\s.heap.get? p=some {cls:=.type "list",data:=.seq g.toArray n}/\xs.length<=sizeLine:=by
 let⟨z,g,n,r,e⟩:=I.hok p _ h
 grind
def Inv.lstUpd{σ:St}{its its':U9}(I:Inv X pins σ H s)(h:H p=!(.lst xs))(ho:s.heap.get? p=some {cls:=.type "list",data:=.seq its.toArray n})(hf:f {cls:=.type "list",data:=.seq its.toArray n}={cls:=.type "list",data:=.seq its'.toArray n'})(r:Vals ys its')(hz:ys.length<=sizeLine)(t:Nat):
  Inv X pins σ (aR H p (.lst ys)) {s with heap:=s.heap.update p f,toks:=t}:=by
 have e:(s.heap.update p f).get? p=some {cls:=.type "list",data:=.seq its'.toArray n'}:=by
  rw[Heap.get?_update_self f ho (by rw[hf]<;>rfl),hf]
 refine I.write (by rw[h];trivial) (.inl rfl) (λb u hb q=>(Heap.get?_update_other _ _ (Ne.symm hb)).trans q) ⟨_,e⟩ ?_
 exact⟨hz,its',n',r,e⟩
def  Mr:V->V->V->Hp->(Hp->Prop)->Prop:=λo i v H Q=>∃p xs k j,o=.ref p/\i=.int k/\H p=!(.lst xs)/\zd xs.length k=!j/\Q (aR H p (.lst (xs.set j v)))
def AU:IA X Mr:=by
 intro pins s σ H o i v ov iv u Q I ro ri rv h;let⟨p,xs,k,j,rfl,rfl,hp,hj,q⟩:=h;cases ro;let⟨t,rfl⟩:=ri;let⟨its,n,r,ho,hz⟩:=I.lst hp;let⟨h1,h2,h3,h4⟩:=xy hj;have hl:=r.length;have hn:=j9;have I':Inv X pins σ (aR H p (.lst (xs.set j v))) {s with heap:=s.heap.update p (Obj.mapSeq (·.setIfInBounds j u))}:=
  I.lstUpd hp ho (vM its n j u) (r.set rv j) (by rw[List.length_set];exact hz) s.toks
 by_cases h0:0<=k
 .have hk:k.toNat=j:=by
   rw[seqIndex_of h0 h4]at h1;exact Option.some.inj h1
  exact PySem.W.ki_setAt ho h0 (!1) (by rw[size_toArray,<-hl];exact h4) (by rw[hk];exact⟨_,I',q⟩)
 .have hk:(k+(its.toArray.size:Int)).toNat=j:=by
   rw[seqIndex_neg (!1) h3]at h1;rw[size_toArray,<-hl];exact Option.some.inj h1
  exact PySem.W.ki_setBack ho (!1) (by rw[size_toArray,<-hl];exact h3) (!1) (by rw[hk];exact⟨_,I',q⟩)
def rr(lo hi:Vj)(n:Nat):(sliceBounds lo hi none n).1=((HT.sIx n 0 lo:Nat):Int)/\(sliceBounds lo hi none n).2.1=((HT.sIx n n hi:Nat):Int)/\(sliceBounds lo hi none n).2.2=1:=by
 refine⟨?_,?_,rfl⟩
 .cases lo with
  |none=>simp[sliceBounds,HT.sIx]
  |some i=>
   simp only[sliceBounds,HT.sIx,Option.getD_none,show(1:Int)>0 by decide,if_true];by_cases h:i<0
   .simp only[h,if_true]<;>omega
   .simp only[h,if_false]<;>omega
 .cases hi with
  |none=>simp[sliceBounds,HT.sIx]
  |some i=>
   simp only[sliceBounds,HT.sIx,Option.getD_none,show(1:Int)>0 by decide,if_true];by_cases h:i<0
   .simp only[h,if_true]<;>omega
   .simp only[h,if_false]<;>omega
def pY(g:U9)(lo hi:Vj):slicePick g.toArray lo hi none=((g.drop (HT.sIx g.length 0 lo)).take (HT.sIx g.length g.length hi-HT.sIx g.length 0 lo)).toArray:=by
 let⟨h1,h2,j⟩:=rr lo hi g.toArray.size;unfold slicePick;rw[h1,h2,j];simp only[sliceRange_one,pick_run,size_toArray]<;>rfl
def  QC(K:Frag):V->Vj->Vj->Hp->VK->Prop:=λx lo hi H Q=>∃a xs,x=.ref a/\SqL K H a xs/\∀p,H p=none->Q (.ref p) (aR H p (.lst (zc xs lo hi)))
def Ew:SlR X (QC X.K):=by
 intro pins s σ H x v J C lo hi T Q I rx t pl pu h;let⟨a,xs,rfl,p,q⟩:=h;cases rx;let⟨l,r,j,o⟩:=I.list p;have g:=r.length;refine⟨"list",_,slot_list_getitem.lookup,j.isList.typeIs,?_⟩;refine wpAny_getItem_list_slice j.isList t pl pu .none (by simp) ?_ (by rw[size_toArray]<;>omega);rw[pY,<-g];refine⟨.ref s.heap.objs.size,_,I.laid (λb U q=>Vl _ q) (VI _) ?_,rfl,q _ (I.hok.fresh (VI _))⟩;exact⟨Vx (mC xs lo hi) o,_,0,(r.drop _).take _,Vo _ rfl⟩
def  iS:V->Bool
 |.non=>true
 |.bl _=>true
 |.int _=>true
 |.str _=>true
 |_=>false
noncomputable def  Ex:V->V->Bool
 |.non,.non=>true
 |.bl a,.bl b=>a==b
 |.bl a,.int b=>(if a then 1 else 0)==b
 |.int a,.bl b=>a==(if b then 1 else 0)
 |.int a,.int b=>a==b
 |.str a,.str b=>a==b
 |_,_=>false
def AV(j:RelV y u)(rx:RelV x v)(o:iS y=true)(l:iS x=true):SeqAt.EqAt A s u v (Ex y x):=by
 cases y with
 |non=>
  cases j;cases x with
  |non=>cases rx;exact SeqAt.EqAt.same _
  |bl b=>cases rx;exact SeqAt.EqAt.none_bool b
  |int b=>let⟨t,rfl⟩:=rx;exact SeqAt.EqAt.none_int b t
  |str b=>let⟨t,rfl⟩:=rx;exact SeqAt.EqAt.none_str b t
  |_=>exact absurd (l) Vp
 |bl a=>
  cases j;cases x with
  |non=>cases rx;exact SeqAt.EqAt.bool_none a
  |bl b=>cases rx;exact SeqAt.EqAt.bool_bool a b
  |int b=>let⟨t,rfl⟩:=rx;exact SeqAt.EqAt.bool_int a b t
  |str b=>let⟨t,rfl⟩:=rx;exact SeqAt.EqAt.bool_str a b t
  |_=>exact absurd (l) Vp
 |int a=>
  let⟨g,rfl⟩:=j;cases x with
  |non=>cases rx;exact SeqAt.EqAt.int_none a g
  |bl b=>cases rx;exact SeqAt.EqAt.int_bool a g b
  |int b=>let⟨t,rfl⟩:=rx;exact SeqAt.EqAt.int_int a g b t
  |str b=>let⟨t,rfl⟩:=rx;exact SeqAt.EqAt.int_str a g b t
  |_=>exact absurd (l) Vp
 |str a=>
  let⟨g,rfl⟩:=j;cases x with
  |non=>cases rx;exact SeqAt.EqAt.str_none a g
  |bl b=>cases rx;exact SeqAt.EqAt.str_bool a g b
  |int b=>let⟨t,rfl⟩:=rx;exact SeqAt.EqAt.str_int a g b t
  |str b=>let⟨t,rfl⟩:=rx;exact SeqAt.EqAt.str_str a g b t
  |_=>exact absurd (l) Vp
 |_=>exact absurd (o) Vp
def  vN(x:V)(u:Value):Bool:=match u with
 |.none=>Ex .non x
 |.bool b=>Ex (.bl b) x
 |.int i _=>Ex (.int i) x
 |.str z _=>Ex (.str z) x
 |_=>false
def AW(r:RelV y u)(f:iS y=true):vN x u=Ex y x:=by
 cases y with
 |non=>cases r;rfl
 |bl b=>cases r;rfl
 |int i=>let⟨t,rfl⟩:=r;rfl
 |str z=>let⟨t,rfl⟩:=r;rfl
 |_=>exact absurd (f) Vp
def kN:∀{xs:List V}{us:U9},Vals xs us->xs.all iS=true->us.any (vN x)=xs.any λy=>Ex y x
 |_,_,.nil,_=>rfl
 |y::xs,u::us,.cons r t,f=>by
  rw[List.all_cons,and_eq_true]at f;rw[List.any_cons,List.any_cons,AW r f.1,kN t f.2]
def iT(rx:RelV x v)(fx:iS x=true):∀{xs:List V}{us:U9},Vals xs us->xs.all iS=true->∀u∈us,SeqAt.EqAt A s u v (vN x u)
 |_,_,.nil,_=>λu hu=>by cases hu
 |y::xs,u::us,.cons r t,f=>λu' hu=>by
  rw[List.all_cons,and_eq_true]at f;rcases mem_cons.mp hu with rfl|hu
  .rw[AW r f.1];exact AV r rx f.1 fx
  .exact iT rx fx t f.2 u' hu
def  QD(x:V)(xs:List V):Bool:=xs.any λy=>Ex y x
def  Pn(K:Frag)(neg:Bool):R2:=λx y H Q=>∃p xs,y=.ref p/\(SqL K H p xs\/SqT K H p xs)/\iS x=true/\xs.all iS=true/\Q (.bl (if neg then not (QD x xs) else QD x xs)) H
def op_in_seq:OpR X (compareOp .In) (Pn X.K false):=by
 intro pins s σ H x y v u Q I rx t h;let⟨p,xs,rfl,j,o,fs,q⟩:=h;cases t;rcases j with j|j
 .let⟨g,r,pl,C⟩:=I.list j;refine SeqAt.in_listAt (vN x) pl.isList (λw l=>iT rx o r fs w (by simpa using l)) ⟨.bl _,H,I,rfl,?_⟩;rw[show g.toArray.any (vN x)=g.any (vN x)by simp,kN r fs];exact q
 .let⟨g,r,pl,C⟩:=I.tuple j;refine SeqAt.in_tupleAt (vN x) pl (λw l=>iT rx o r fs w (by simpa using l)) ⟨.bl _,H,I,rfl,?_⟩;rw[show g.toArray.any (vN x)=g.any (vN x)by simp,kN r fs];exact q
def op_notIn_seq:OpR X (compareOp .NotIn) (Pn X.K true):=by
 intro pins s σ H x y v u Q I rx t h;let⟨p,xs,rfl,j,o,fs,q⟩:=h;cases t;rcases j with j|j
 .let⟨g,r,pl,C⟩:=I.list j;refine SeqAt.notIn_listAt (vN x) pl.isList (λw l=>iT rx o r fs w (by simpa using l)) ⟨.bl _,H,I,rfl,?_⟩;rw[show g.toArray.any (vN x)=g.any (vN x)by simp,kN r fs];exact q
 .let⟨g,r,pl,C⟩:=I.tuple j;refine SeqAt.notIn_tupleAt (vN x) pl (λw l=>iT rx o r fs w (by simpa using l)) ⟨.bl _,H,I,rfl,?_⟩;rw[show g.toArray.any (vN x)=g.any (vN x)by simp,kN r fs];exact q
def call_len_seq:fC X (.builtin "len") (λxs H Q=>∃p ys,xs=[.ref p]/\(SqL X.K H p ys\/SqT X.K H p ys)/\Q (.int ys.length) H):=by
 intro pins s σ H xs C Q I r h;let⟨p,ys,rfl,j,q⟩:=h;let⟨u,rfl,rx⟩:=fE r;cases rx;have J:=j9;rcases j with j|j
 .let⟨o,l,pl,t⟩:=I.list j;have g:=l.length;exact Calls.call_len_list pl.isList (by simp only[size_toArray]<;>omega) ⟨.int ys.length,H,I.tok _,⟨s.toks+1,by rw[size_toArray,g]⟩,q⟩
 .let⟨o,l,pl,t⟩:=I.tuple j;have g:=l.length;exact len_tuple pl (by simp only[size_toArray]<;>omega) ⟨.int ys.length,H,I.tok _,⟨s.toks+1,by rw[size_toArray,g]⟩,q⟩
def rz:fC X (.type "list") (λxs H Q=>∃p ys,xs=[.ref p]/\(SqL X.K H p ys\/SqT X.K H p ys)/\∀l,H l=none->Q (.ref l) (aR H l (.lst ys))):=by
 intro pins s σ H xs us Q I r h;let⟨p,ys,rfl,T,q⟩:=h;let⟨u,rfl,rx⟩:=fE r;cases rx;have fin:∀(g:U9),Vals ys g->ys.length<=sizeLine->∀(h':Heap)(t:Nat),(∀b o',s.heap.get? b=!o'->h'.get? b=!o')->
   h'.get? s.heap.objs.size=some {cls:=.type "list",dict:=none,data:=.seq g.toArray t,slots:=#[]}->EP X pins σ Q _ {s with heap:=h'}:=λg j J h' t C e=>
  ⟨.ref s.heap.objs.size,_,I.laid C (VI _) (show ObjOk X.prog X.w _ h' _ (.lst ys)from⟨J,g,t,j,e⟩),rfl,q _ (I.hok.fresh (VI _))⟩
 rcases T with T|T
 .let⟨g,j,pl,J⟩:=I.list T;have U:=j.length;let⟨o,ho,hc,n,hd⟩:=pl.isList;exact call_list_seq p (.inl rfl) ho hc hd (λh' t C e=>fin g j J h' t C e) (by simp only[size_toArray]<;>omega)
 .let⟨g,j,pl,J⟩:=I.tuple T;have U:=j.length;let⟨o,ho,hc,n,hd⟩:=pl;exact call_list_seq p (.inr rfl) ho hc hd (λh' t C e=>fin g j J h' t C e) (by simp only[size_toArray]<;>omega)
def call_tuple_of:fC X (.type "tuple") (λxs H Q=>∃p ys,xs=[.ref p]/\((SqL X.K H p ys/\∀l,H l=none->Q (.ref l) (aR H l (.tup ys)))\/(SqT X.K H p ys/\Q (.ref p) H))):=by
 intro pins s σ H xs us Q I r h;let⟨p,ys,rfl,h⟩:=h;let⟨u,rfl,rx⟩:=fE r;cases rx;rcases h with⟨hq,q⟩|⟨hq,q⟩
 .let⟨its,r',pl,hz⟩:=I.list hq;have hlen:=r'.length;refine call_tuple_list pl.isList (λh' kp=>?_) (by simp only[size_toArray]<;>omega);have I1:Inv X pins σ H {s with heap:=h'}:=I.kept kp;have I2:Inv X pins σ (aR H h'.objs.size (.tup ys)) {s with heap:=h'.push {cls:=.type "tuple",data:=.seq its.toArray}}:=
   I1.laid (λb o e=>Vl _ e) (VI _) (⟨hz,its,r',IsTup.new _ _⟩)
  exact⟨.ref h'.objs.size,_,I2,rfl,q _ (I1.hok.fresh (VI _))⟩
 .let⟨its,r',pl,hz⟩:=I.tuple hq;exact call_tuple_same pl ⟨.ref p,H,I,rfl,q⟩
def  SN(K:Frag)(T:String)(x:V)(H:Hp):Prop:=match x with
 |.str _=>T="str"
 |.int _=>T="int"
 |.ref p=>(T="list"/\∃xs,SqL K H p xs)\/(T="tuple"/\∃o,K.lookup p=!o/\o.cls=.type "tuple"/\o.dict=none)\/
  (T="dict"/\((∃kvs,H p=!(.dK kvs))\/∃kvs,H p=!(.dT kvs)))\/(T="set"/\∃S n,H p=!(.set S n))
 |_=>False
def IN{σ:St}(I:Inv X pins σ H s)(r:RelV x v)(ty:SN X.K T x H):
  s.TypeIs v T/\∀a,v=.ref a->∃j,s.heap.get? a=!j/\j.dict=none:=by
 cases x with
 |str z=>
  let⟨t,rfl⟩:=r;cases(ty);exact⟨typeIs_str s z t,λ_ e=>nomatch e⟩
 |int i=>
  let⟨t,rfl⟩:=r;cases(ty);exact⟨typeIs_int s i t,λ_ e=>nomatch e⟩
 |ref p=>
  cases r;rcases ty with⟨rfl,xs,C⟩|⟨rfl,o,g,J,hd⟩|⟨rfl,g⟩|⟨rfl,S,n,g⟩
  .let⟨l,_,pl,_⟩:=I.list C;refine⟨pl.isList.typeIs,λa e=>?_⟩;cases e;let⟨o,n,e,c,hd,_⟩:=pl;exact⟨o,e,hd⟩
  .refine⟨⟨o,I.kIn p o g,J⟩,λa e=>?_⟩;cases e;exact⟨o,I.kIn _ o g,hd⟩
  .have z:∃o,s.heap.get? p=!o/\o.ExactDict:=by
    rcases g with⟨kvs,g⟩|⟨kvs,g⟩
    .let⟨_,_,_,_,o,_,_,e,ex,_⟩:=I.hok p _ g;exact⟨o,e,ex⟩
    .let⟨_,_,_,_,o,_,_,e,ex,_⟩:=I.hok p _ g;exact⟨o,e,ex⟩
   let⟨o,e,ex⟩:=z;refine⟨⟨o,e,ex.1⟩,λa e2=>?_⟩;cases e2;exact⟨o,e,ex.2.1⟩
  .let⟨o,_,_,_,e,ex,_⟩:=I.hok p _ g;refine⟨⟨o,e,ex.1⟩,λa e2=>?_⟩;cases e2;exact⟨o,e,ex.2.1⟩
 |_=>exact False.elim ty
def  Uj(K:Frag)(T:String)(r:V->List V->Hp->VK->Prop)(to:TE)(t:TA):TE:=λσ H Q=>to σ H λx H1=>SN K T x H1/\t σ H1 λxs H2=>r x xs H2 Q
variable{o e:Expr}{es:Vh}{to:TE}{t:TA}{name:Str}{apos cpos:Pos}{T id:String}{r:V->List V->Hp->VK->Prop}
def tT(pa:PlainAttrs T)(slot:Slot T name id)(C:typeOf (.builtin id)=pure (.type "method_descriptor"))(hm:Ui X id r)(ho:PE X o to)(ha:PA X (e::es) t)
  (l:attributeBase o name X.env (eval o X.env)=eval o X.env:=by rfl)
  (p:((backTo cpos (starEach (e::es) X.env)).all (λx=>not x.1)&&(backToKw cpos (keywordEach [] X.env)).all (λx=>x.1.isSome)
   &&decide ((e::es).length+([]:List Keyword).length+(if([]:List Keyword).isEmpty then 0 else 1)<30))=true:=by rfl)
  (j:(apos.endLine==cpos.line)=true:=by rfl) (hs:starEach (e::es) X.env=(false,eval e X.env)::starEach es X.env:=by rfl) (g:(backTo cpos (starEach es X.env)).any (·.1)=false:=by rfl):
  PE X (.Call (.Attribute o name apos) (e::es) [] cpos) (Uj X.K T r to t):=by
 intro pins s σ H Q I h
 refine wpAny_Call_method_late l p j rfl (bw (ho pins s σ H _ I h) λv s1 ⟨x,H1,I1,J,ty,q1⟩=>?_)
 let⟨h1,h2⟩:=IN I1 J ty
 refine⟨T,id,pa,slot,C,h1,h2,?_⟩
 have U:=ha cpos pins s1 σ H1 _ I1 q1
 rw[hs]at U⊢
 refine Calls.callWith_builtin (by show(false||(backTo cpos (starEach es X.env)).any (·.1))=false;rw[g]<;>rfl) (Calls.evalArgs_plain ?_)
 exact bw U λus s2 ⟨vs,H2,I2,r2,q2⟩=>hm pins s2 σ H2 x vs v us Q I2 J r2 q2
end
def  QE(X:Cx)(id:String)(r:V->List V->Hp->VK->Prop):Prop:=
 ∀(pins:U5)(s:Shared)(σ:St)(H:Hp)(x:V)(xs:List V)(v:Value)(us:U9)(Q:VK),Inv X pins σ H s->RelV x v->Vals xs us->r x xs H Q->
  wpAny (!4) X.A (call (.builtin id) (v::us)) (EP X pins σ Q) X.xe s
def Vals.one:∀{x:V}{g:U9},Vals [x] g->∃u,g=[u]/\RelV x u
 |_,_,.cons r .nil=>⟨_,rfl,r⟩
def Vals.reverse(h:Vals xs g):Vals xs.reverse g.reverse:=by
 induction h with
 |nil=>exact .nil
 |cons r t j=>rw[List.reverse_cons,List.reverse_cons];exact Vals.append j (.cons r .nil)
def Inv.lset{its its':U9}(I:Inv X pins σ H s)(hH:H l=!(.lst xs))(e:s.heap.get? l=some {cls:=.type "list",data:=.seq its.toArray n})(hf:f its.toArray=its'.toArray)(hv:Vals ys its')(hz:ys.length<=sizeLine):
  Inv X pins σ (aR H l (.lst ys)) {s with heap:=s.heap.update l (Obj.mapSeq f),toks:=t'}:=by
 have q:=PySem.IsL.update e f
 rw[hf]at q
 refine I.write (by rw[hH];exact trivial) (.inl rfl) (λb' u hb hu=>(Heap.get?_update_other s.heap _ (Ne.symm hb)).trans hu) ⟨_,q⟩ ?_
 exact⟨hz,its',_,hv,q⟩
def Inv.lnew(I:Inv X pins σ H s)(hv:Vals ys its)(hz:ys.length<=sizeLine):
  Inv X pins σ (aR H s.heap.objs.size (.lst ys)) {s with heap:=s.heap.push {cls:=.type "list",data:=.seq its.toArray},toks:=t'}:=
 I.laid (λ_ _ q=>Vl _ q) (VI _) ⟨hz,its,0,hv,Vo _ rfl⟩
def Inv.fresh(I:Inv X pins σ H s):H s.heap.objs.size=none:=I.hok.fresh (VI _)
def Inv.lstM{X:Cx}{pins:U5}{σ:St}{H:Hp}{s:Shared}{l:Addr}{xs:List V}(I:Inv X pins σ H s)(j:H l=!(.lst xs)):xs.length<=sizeLine/\∃(g:U9)(n:Nat),Vals xs g/\xs.length=g.length/\s.heap.get? l=some {cls:=.type "list",data:=.seq g.toArray n}:=by
 let⟨z,g,n,r,e⟩:=I.hok l _ j;exact⟨z,g,n,r,r.length,e⟩
def AX(h:n<=sizeLine):Builtin.List.listTooLong n=false:=by
 exact decide_eq_false (!1)
def  Ey:V->List V->Hp->VK->Prop:=λx vs H Q=>∃l xs y,x=.ref l/\vs=[y]/\H l=!(.lst xs)/\xs.length<sizeLine/\Q .non (aR H l (.lst (xs++[y])))
def ze{X:Cx}:QE X "list.append" Ey:=by
 intro pins s σ H x p v t Q I rx rv h;let⟨l,xs,y,rfl,rfl,j,C,q⟩:=h;cases rx;let⟨u,rfl,o⟩:=rv.one;let⟨z,g,n,r,J,e⟩:=I.lstM j;refine call_meets F.slot_list_append ⟨_,e,rfl⟩ F.entry_list_append (F.args_list_append_2 _ _) (PySem.list_append l g.toArray n u (by rw[size_toArray];omega)) ⟨e,?_⟩;refine⟨.non,_,I.lset j e (by simp) (r.append (.cons o .nil)) ?_,rfl,q⟩;grind
section
variable{prog:Program}{w:World}{A:Around}{E:U8}{s:Shared}
set_option maxRecDepth 100000 in
end
end L2
namespace Att
open PySem PySem.W PySem.Calls PyProof.Rows
def mZ:∀(g:Vd)(j:U9),WellAll P h j (g.map WData.int)->IntsAre j g:=by
 intro g;induction g with
 |nil=>
  intro j w;cases w;exact .nil
 |cons n g l=>
  intro j w;cases w with
  |cons a b=>
   cases a;exact .cons _ _ (l _ b)
def zf{l:OpenLaw}(hn:l.most=!n)(hpre:l.row.toRowW.claim.pre args=true)(hwl:WellAll P h vals args):
  ∃a vs ns,vals=[Value.ref a]/\args=[WData.list (ns.map WData.int)]/\h.get? a=some {cls:=.type "list",data:=.seq vs.toArray}/\IntsAre vs ns/\ns.length<=n:=by
 have hsh:WShape.hasAll [] args [.list .int]=true:=(pre_splitW hpre).1
 have hc:l.pre.holds [] {args:=args}=true:=(pre_splitW hpre).2
 let⟨d,r,rfl,h1,h2⟩:=hasAllW_cons hsh
 obtain rfl:=hasAllW_nil h2
 let⟨xs,rfl,h3⟩:=hasW_list h1
 let⟨ns,rfl⟩:=items_int h3
 have hlen:ns.length<=n:=by
  have h4:(WTm.not (.lt (.lit (.int (n:Int))) (.len (.arg 0)))).holds [] {args:=[.list (ns.map .int)]}=true:=by
   have h4:=(holds_andW hc).1;rw[hn]at h4;exact h4
  have h5:=condW_of h4 (w_not (w_lt w_lit (w_len_list (w_arg rfl))));refine Nat.le_of_not_lt λq=>?_;first
   |(rw[decide_eq_true q']at h5;exact absurd h5 (!2))
   |(simp at h5;omega)
 cases hwl with
 |cons w1 w2=>
  cases w2;cases w1 with
  |list ho hall=>exact⟨_,_,ns,rfl,rfl,ho,mZ ns _ hall,hlen⟩
def zg(l:OpenLaw)(args:List WData):l.row.toRowW.claim.post args (.bool true) args=true:=
 postW_of
  (by first|rfl|decide|simp[WShape.has,WShape.arms,WShape.armsAll])
  (w_eq_bool (w_res rfl) w_lit) rfl
def attach_call{l:OpenLaw}(hn:l.most=!n)(hdf:d.params.defaults=[])(call:∀(w:World)(s₀ s₁:Shared)(mg mb:Str->Va)(fa:Addr)(o:Obj)(pm cd doc:Value)(a:Addr)(vs:U9)(ns:Vd),
   Ground q loose [] XP w s₀ mg mb s₁.heap->YP w s₁.heap->
   s₁.heap.get? fa=!o->o.data=.func (docDef d.name d.params d.body d.scope pm cd doc)->s₁.heap.CodeRec cd d.name->mg d.name=!(.ref fa)->
   s₁.heap.get? a=some {cls:=.type "list",data:=.seq vs.toArray}->IntsAre vs ns->ns.length<=n->s₁.gens=#[]->
   codeAny (model l.prog w) callerA (.call (.ref fa) ⟨[.ref a],[]⟩) (λr s'=>r=.ok (.ret (.bool true))/\OldK s₁.heap s'.heap/\s'.os=s₁.os/\AllBare s'.gens) s₁):
  WalkO q loose XP YP l.row.toRowW d [] (λf vs=>PySem.call f vs):=by
 intro w s₀ s₁ mg mb G ρ fa o pm cd doc dV kV ho hd hcd hD hmg hg args vals as hpre hlay hrd hwl hlo
 obtain rfl:dV=.none:=Dflts.none hD hdf
 obtain rfl:kV=.none:=Dflts.noKw hD
 let⟨a,vs,ns,rfl,rfl,hobj,hints,hlen⟩:=zf hn hpre hwl
 refine enter_call (codeAny_mono (call w s₀ s₁ mg mb fa o pm cd doc a vs ns G ρ ho (fd_plain hd) hcd hmg hobj hints hlen hg) λr s' hq=>?_)
 let⟨rfl,h2,h3,h4⟩:=hq
 exact⟨.inl ⟨.bool true,.bool true,[],rfl,λ_=>rfl,.bool true,zg l _,λ_=>⟨List.Pairwise.nil,λ_ hm=>(nomatch hm)⟩⟩,h2,h3,h4⟩
end Att
namespace L2
open PySem PySem.Spec PyProof.Rows
def qv:∀{vs:U9}{ns:Vd},IntsAre vs ns->Vals (ns.map V.int) vs
 |_,_,.nil=>.nil
 |_,_,.cons n t h=>.cons ⟨t,rfl⟩ (qv h)
def  QF(H:Hp):Prop:=∀b,H b=none\/∃o xs,H b=!(.frz o (.lst xs))
def  dS(H:Hp):Hp:=λb=>match lamTabs.lookup b with
 |some z=>!(.cod #[] z.1 z.2)
 |none=>H b
def iU(h:lamTabs.lookup b=none):dS H b=H b:=by unfold dS;rw[h]
def withT_yes(h:lamTabs.lookup b=!z):dS H b=!(.cod #[] z.1 z.2):=by unfold dS;rw[h]
def  rA(K:Frag)(h:Heap):Prop:=∀b z,lamTabs.lookup b=!z->h.get? b=some {cls:=.none,data:=.fields #[]}/\K.lookup b=none/\isCodeTable h b
def AY{K}(hT:rA K g.heap)(KX:K.In g.heap)(hns:g.heap.Ns mainGlobals mg)(p:g.heap.Ns builtinsNs mb)(hbb:∀x:Str,x≠"__name__" ->mb x=bootBuiltins x)(hlim:g.heap.NoLimit)(hg:g.gens=#[])(ha:g.heap.get? a=some {cls:=.type "list",data:=.seq C.toArray})(hi:IntsAre C ns)(hl:ns.length<=sizeLine)(hr:Room k callerA)(F:∀base:Heap,K.In base->base.Ns mainGlobals mg->FnOk P w K mg base CX k fa fd [x] sp)(U:∀(s:Shared)(u:Value),BindsTo s fd ⟨[u],[]⟩ [(x,u)])(hsp:∀H:Hp,SqL K H a (ns.map V.int)->sp [.ref a] H (λv _=>v=.bl true) λ_ _ _=>False)(hCX:∀H e s',CX [] H g (λ_ _ _=>False) e s'->False):
  codeAny (model P w) callerA (.call (.ref fa) ⟨[.ref a],[]⟩) (λr s'=>r=.ok (.ret (.bool true))/\OldK g.heap s'.heap/\s'.os=g.os/\AllBare s'.gens) g:=by
 have rv:=qv hi
 have lenV:=hi.length
 -- from an abstract heap in which nothing but the J may be tracked
 have core:∀H:Hp,QF H->SqL K H a (ns.map V.int)->HOk P w H g.heap->(∀b,H b≠none->b=a)->(H a≠none->K.lookup a=none)->
   codeAny (model P w) callerA (.call (.ref fa) ⟨[.ref a],[]⟩) (λr s'=>r=.ok (.ret (.bool true))/\OldK g.heap s'.heap/\s'.os=g.os/\AllBare s'.gens) g:=by
  intro l hO hS0 hok0 hA0 hK
  have hTa:lamTabs.lookup a=none:=by
   cases q:lamTabs.lookup a with
   |none=>rfl
   |some z=>
    have e:=(hT a z q).1
    rw[ha]at e
    cases e
  have up:∀b o,l b=!o->dS l b=!o:=λb o e=>by
   rw[iU (by rw[hA0 b (by rw[e];simp)];exact hTa)];exact e
  have hA:∀b,dS l b≠none->b=a\/∃z,lamTabs.lookup b=!z:=λb h=>by
   cases q:lamTabs.lookup b with
   |some z=>exact .inr ⟨z,rfl⟩
   |none=>rw[iU q]at h;exact .inl (hA0 b h)
  have hS:=SqL.up up hS0
  have hok:HOk P w (dS l) g.heap:=λb o e=>by
   cases q:lamTabs.lookup b with
   |some z=>
    rw[withT_yes q]at e
    cases e
    exact .inl (hT b z q).1
   |none=>
    rw[iU q]at e
    exact(hok0 b o e).stay (λ_ _ _ z=>z) (λc z=>up _ _ z) (λc xs z=>up _ _ z) λc o' u' z=>up _ _ z
  have j:∀{b:Addr}{o:Obj},g.heap.get? b=!o->dS l b=none->(rc g.heap _).get? b=!o:=λe n=>Ar e n
  have noA:∀{b:Addr}{o:Obj}{es:Array DictEntry}{ep:Nat},g.heap.get? b=!o->o.data=.dict es ep->dS l b=none:=λ{b o es ep} e d=>by
   cases q:dS l b with
   |none=>rfl
   |some u=>
    rcases hA b (by rw[q];simp)with e'|⟨z,e'⟩
    .subst e'
     rw[ha]at e;cases e
     have d':=d
     cases d'
    .rw[(hT b z e').1]at e;cases e
     have d':=d
     cases d'
  have t:∀{b:Addr}{m:Str->Va},g.heap.Ns b m->(rc g.heap (dS l)).Ns b m:=λ{b m} ⟨o,es,ep,e,d,r⟩=>⟨o,es,ep,j e (noA e d),d,r⟩
  have hKb:K.In (rc g.heap (dS l)):=λb o e=>j (KX b o e) (by
   cases q:dS l b with
   |none=>rfl
   |some u=>
    rcases hA b (by rw[q];simp)with e'|⟨z,e'⟩
    .subst e'
     rw[hK (by rw[iU hTa]at q;rw[q];simp)]at e;cases e
    .rw[(hT b z e').2.1]at e;cases e)
  have hM:Mod K mg (rc g.heap (dS l)):=⟨hKb,t hns,⟨mb,t p,hbb⟩,let⟨mc,h1,h2⟩:=hlim;⟨mc,t h1,h2⟩⟩
  have e0:Env0 P w K mg (rc g.heap (dS l)) callerA [] g (dS l):=⟨rfl,hM,λb o e=>Ee e,Nat.le_of_eq (yZ _ _),trivial,⟨λb p=>absurd (show b∈([]:List Addr)from p) (by simp),λb z q=>withT_yes q⟩,hok,.of_eq hg⟩
  refine codeAny_mono ((F _ hKb (t hns)).run callerA [] g _ ⟨[.ref a],[]⟩ [.ref a] [.ref a] _ _ hr e0 (U g _) (.cons rfl .nil) (hsp _ hS)) λr s' h=>?_
  cases r with
  |error e=>exact(hCX _ e s' h).elim
  |ok fl=>
   cases fl with
   |next=>exact False.elim h
   |brk=>exact False.elim h
   |cont=>exact False.elim h
   |ret u=>
    let⟨v,H',os,bare,un,T,r',q⟩:=h
    have q':=q
    subst q'
    obtain rfl:u=Value.bool true:=r'
    have I:∀b o,g.heap.get? b=!o->s'.heap.get? b=!o\/(isCodeTable g.heap b/\o.cls=.none/\∃C more,o.data=.fields C/\s'.heap.get? b=some {o with data:=.fields (C++more)}):=λb o e=>by
     cases q:dS l b with
     |none=>exact .inl (un.keep b o e q (by intro z;exact absurd (show b∈([]:List Addr)from z) (by simp)) (by simp))
     |some u=>
      cases qt:lamTabs.lookup b with
      |some z=>
       have z2:=un.frzs b (.cod #[] z.1 z.2) True.intro (withT_yes qt)
       let⟨g1,g2,g3⟩:=hT b z qt
       rw[e]at g1
       cases g1
       rcases T b _ z2 with y|⟨_,_,_,_,y,_⟩
       .exact .inl y
       .exact .inr ⟨g3,rfl,_,_,rfl,y⟩
      |none=>
       rw[iU qt]at q
       rcases hO b with z|⟨ob,xs,z⟩
       .rw[q]at z;cases z
       .have z2:=un.frzs b (.frz ob _) True.intro (up _ _ z)
        let⟨e1,_⟩:=hok b _ (up _ _ z)
        let⟨e2,_⟩:=T b _ z2
        rw[e]at e1;cases e1
        exact .inl e2
    refine⟨rfl,⟨λb o e=>?_,λb o e=>?_⟩,os,bare⟩
    .rcases I b o e with y|⟨y1,y2,vs',more,y3,y4⟩
     .exact .inl y
     .exact .inr (.inl ⟨y1,y2,vs',more,y3,y4⟩)
    .rcases I b o e with y|⟨_,_,_,_,_,y4⟩
     .exact⟨_,y⟩
     .exact⟨_,y4⟩
 cases hk:K.lookup a with
 |some o=>
  -- the J is one of the module's own objects
  have e:=KX a o hk
  rw[ha]at e
  cases e
  refine core (λ_=>none) (λ_=>.inl rfl) (.inr ⟨_,C.toArray,_,hk,rfl,rfl,rfl,by rw[size_toArray,lenV];exact hl,by simpa using rv⟩) (λb u z=>by have z':(none:Option HO)=!u:=z;cases z') (λb z=>absurd rfl z) λz=>absurd rfl z
 |none=>
  refine core (λb=>if b=a then !(.frz {cls:=.type "list",data:=.seq C.toArray} (.lst _))else none) (λb=>?_) (.inl (.inr ⟨{cls:=.type "list",data:=.seq C.toArray},if_pos rfl⟩)) (λb u z=>?_) (λb z=>?_) λ_=>hk
  .by_cases p:b=a
   .exact .inr ⟨_,_,if_pos p⟩
   .exact .inl (if_neg p)
  .by_cases p:b=a
   .have z':=(if_pos p).symm.trans z
    cases z'
    subst p
    exact⟨ha,by rw[length_map];exact hl,C,_,rv,ha⟩
   .have z':=(if_neg p).symm.trans z
    cases z'
  .by_cases p:b=a
   .exact p
   .exact absurd (if_neg p) z
def walk_of{l:PySem.W.OpenLaw}{K:Params->Frag}{CX:World->IL}{sp:World->Sp}(hn:l.most=!n)(U:n<=sizeLine)(hdf:d.params.defaults=[])(hr:Room k callerA)(hY:∀(w:World)(h:Heap),YP w h->(K w.params).In h)(hT:∀(w:World)(h:Heap),YP w h->rA (K w.params) h)(F:∀(w:World)(mg:Str->Va)(fa:Addr)(h:Heap),(K w.params).In h->h.Ns mainGlobals mg->mg d.name=!(.ref fa)->
   ∃fd:FuncData,(∀(s:Shared)(u:Value),BindsTo s fd ⟨[u],[]⟩ [(x,u)])/\
    ∀base:Heap,(K w.params).In base->base.Ns mainGlobals mg->FnOk l.prog w (K w.params) mg base (CX w) k fa fd [x] (sp w)) (I:∀(w:World)(H:Hp)(a:Addr)(C:Vd),C.length<=n->SqL (K w.params) H a (C.map V.int)->sp w [.ref a] H (λv _=>v=.bl true) λ_ _ _=>False) (hCX:∀(w:World)(H:Hp)(s:Shared)(e:Value)(s':Shared),CX w [] H s (λ_ _ _=>False) e s'->False):
  PySem.W.WalkO q J XP YP l.row.toRowW d [] (λf vs=>PySem.call f vs):=by
 refine Att.attach_call hn hdf λw s₀ r mg mb fa o pm cd doc a vs C G ρ ho hd hcd hmg t p j hg=>?_
 have KX:=hY w _ ρ
 let⟨fd,hb,hF⟩:=F w mg fa _ KX G.T.g hmg
 exact AY (hT w _ ρ) KX G.T.g G.T.b G.T.builtins G.T.nolimit hg t p (Vx j U) hr hF hb (λH hS=>I w H a C j hS) λH e s'=>hCX w H r e s'
abbrev rB:IL:=λ_ _ _ _ _ _=>False
abbrev E0:XK:=λ_ _ _=>False
def qw:lO rB X E0:=λ_ _ _ _ _ _ _ h=>h.elim
structure Fun(K:Frag)(x qual:Str)(st:Stmt)(f:Addr)(fd:FuncData):Prop where
 ex:∃(oc:Value)(od:Option Addr)(kV doc pm:Value)(an:Option Addr)(cdv ct:Value)(osl:Array (Va)),
  fd=PySem.W.fnOf x qual (bJ st) (aO st) (ah st) .none kV doc pm an cdv ct/\K.lookup f=!⟨oc,od,.func fd,osl⟩/\PySem.W.codeIn K cdv qual=true
 kp:PySem.W.keepIn K (.ref f)=true
section
variable{P:Program}{w:World}{K:Frag}{mg:Str->Va}{base:Heap}
def Fun.ok{st}(F:Fun K x l st f fd)(S:FnScope N ps (ah st))(len:∀o H Q E,sp o H Q E->o.length=ps.length)(p:∀(j:Value)(A:Around)(g:List Env)(s:Shared)(H:Hp)(o:List V)(Q:VK)(E:XK),Room k (A.deeper (envOfC l (ah st) s.heap.objs.size f j))->sp o H Q E->
  ∃t,PSs (nU rB P w K mg base N l (ah st) f j A g s H E).nox (aO st) t/\t {nx:=λ_ H'=>Q .non H',rt:=Q} (jT N o) H):FnOk P w K mg base rB (k+1) f fd ps sp:=by
 let⟨oc,od,kV,U,pm,an,j,ct,I,rfl,J,C⟩:=F.ex
 refine Hu J C S len λA g s H o Q E T r=>?_
 let⟨t,h,q⟩:=p j A g s H o Q E T r
 exact⟨t,h.nox,q⟩
def Fun.binds{st}(F:Fun K x l st f fd)(h:∀(kV g pm:Value)(p:Option Addr)(j ct:Value)(o:U9),o.length=ps.length->bindArgs (PySem.W.fnOf x l (bJ st) (aO st) (ah st) .none kV g pm p j ct) ⟨o,[]⟩=pure (ps.zip o)):Binds K fd ps []:=by
 let⟨I,C,kV,g,pm,p,j,ct,r,rfl,J,t⟩:=F.ex;exact .all (h kV g pm p j ct)
def nY{st}{kV o pm j ct}(l:K.lookup f=!⟨C,t,.func (PySem.W.fnOf x g (bJ st) (aO st) (ah st) .none kV o pm r j ct),p⟩)(c:PySem.W.codeIn K j g=true)(k:PySem.W.keepIn K (.ref f)=true):Fun K x g st f (PySem.W.fnOf x g (bJ st) (aO st) (ah st) .none kV o pm r j ct):=⟨⟨C,t,kV,o,pm,r,j,ct,p,rfl,l,c⟩,k⟩
end
def IP{A B:Prop}(h:B):if false=true then A else B:=by
 exact h
def IQ{A B:Prop}(h:A):if true=true then A else B:=by
 exact h
def  Same(H H':Hp):Prop:=∀b o,H b=!o->H' b=!o
def Same.refl(H:Hp):Same H H:=λ_ _ h=>h
def Same.trans(a:Same H H1)(b:Same H1 H2):Same H H2:=λc o h=>b c o (a c o h)
def Same.free(e:Same H H')(h:H' l=Option.none):H l=Option.none:=by
 cases q:H l with
 |none=>rfl
 |some o=>
  rw[e l o q]at h;cases h
def Same.seq{K}(e:Same H H')(h:SqL K H a xs):SqL K H' a xs:=by
 rcases h with(h|⟨o,h⟩)|h
 .exact .inl (.inl (e _ _ h))
 .exact .inl (.inr ⟨o,e _ _ h⟩)
 .exact .inr h
def PE.imp(h:PE X e t)(k:∀σ H Q,g σ H Q->t σ H Q):PE X e g:=λpins s σ H Q I q=>h pins s σ H Q I (k _ _ _ q)
def PT.imp(h:PT X e t)(k:∀σ H Q,g σ H Q->t σ H Q):PT X e g:=λpins s σ H Q I q=>h pins s σ H Q I (k _ _ _ q)
def PA.imp(h:PA X e t)(k:∀σ H Q,g σ H Q->t σ H Q):PA X e g:=λpos pins s σ H Q I q=>h pos pins s σ H Q I (k _ _ _ q)
def PS.imp{st}(h:PS X st t)(k:∀D σ H,g D σ H->t D σ H):PS X st g:=λpins s σ H D I q=>h pins s σ H D I (k _ _ _ q)
def PSs.imp{st}(h:PSs X st t)(k:∀D σ H,g D σ H->t D σ H):PSs X st g:=λpins s σ H D I q=>h pins s σ H D I (k _ _ _ q)
def PI.imp(h:PI X tg iter t)(k:∀σ H R,g σ H R->t σ H R):PI X tg iter g:=λpins s σ H R I q=>h pins s σ H R I (k _ _ _ q)
def PG.imp(h:PG X tg t)(k:∀v σ H Q,g v σ H Q->t v σ H Q):PG X tg g:=λpins s σ H v u Q I r q=>h pins s σ H v u Q I r (k _ _ _ _ q)
def mD{α β:Type}{f:α->β->Sem (ForInStep β)}{g}:∀(l:List α)(c:β),(∀x∈l,∀c,f x c=pure (.yield (g c x)))->forIn l c f=pure (l.foldl g c)
 |[],_,_=>rfl
 |x::l,c,h=>by
  rw[List.forIn_cons,h x mem_cons_self,pure_bind];exact mD l _ λy hy=>h y (Vs _ hy)
noncomputable def  f8(env:Env)(cs:List (Str×Addr))(x:Str×NameKind):List (Str×Addr):=if x.2==.free then(x.1,(env.cells.lookup x.1).getD 0)::cs else cs
abbrev rC(env:Env)(scope:Scope):List (Str×Addr):=scope.names.foldl (f8 env) []
def mE(h:(k==NameKind.free)=true):k=.free:=by grind
def nZ(h:∀y∈scope.names,y.2=.free->∃c,env.cells.lookup y.1=!c):closureFor scope env=pure (rC env scope):=by
 simp only[closureFor];rw[mD (g:=f8 env) scope.names [] (λx j c=>by
  let⟨n,k⟩:=x;unfold f8;cases l:(k==NameKind.free)with
  |false=>simp
  |true=>
   let⟨a,e⟩:=h (n,k) j (mE l);have o:=e;simp[cellOf,o])]
 rfl
def fG:∀(l:List (Str×NameKind))(cs:List (Str×Addr)),(∀x c,cs.lookup x=!c->env.cells.lookup x=!c)->(∀y∈l,y.2=.free->∃c,env.cells.lookup y.1=!c)->
  ∀x c,(l.foldl (f8 env) cs).lookup x=!c->env.cells.lookup x=!c
 |[],_,h,_,x,c,e=>h x c e
 |(n,k)::l,cs,h,hl,x,c,e=>by
  refine fG l (f8 env cs (n,k)) (λy d q=>?_) (λy hy=>hl y (Vs _ hy)) x c e;unfold f8 at q;cases hk:(k==NameKind.free)with
  |false=>rw[hk]at q;exact h y d (by simpa using q)
  |true=>
   rw[hk]at q;let⟨a,ea⟩:=hl (n,k) Vr (mE hk);have ea':env.cells.lookup n=!a:=ea;simp only[if_true,List.lookup_cons,ea',Option.getD_some]at q;cases hy:(y==n)with
   |true=>
    rw[hy]at q;have hyn:y=n:=by simpa using hy
    rw[hyn,ea'];exact q
   |false=>rw[hy]at q;exact h y d q
def ka:∀(l:List (Str×NameKind))(cs:List (Str×Addr))(x:Str),((x,NameKind.free)∈l\/(cs.lookup x).isSome=true)->((l.foldl (f8 env) cs).lookup x).isSome=true
 |[],_,_,h=>by
  rcases h with h|h
  .cases h
  .exact h
 |(n,k)::l,cs,x,h=>by
  refine ka l (f8 env cs (n,k)) x ?_;rcases h with h|h
  .rcases mem_cons.mp h with e|h
   .cases e;refine .inr ?_;unfold f8;simp
   .exact .inl h
  .refine .inr ?_;unfold f8;split
   .rw[List.lookup_cons];split
    .rfl
    .exact h
   .exact h
def n5(h:(relabel scope env).names.lookup x=!k):∃g,(x,g)∈scope.names/\(g=k\/(g=.free/\k=.cell)):=by
 have h':(scope.names.map λ(n,k)=>if(k==NameKind.free&&env.scope.kind==.function&&env.kindOf n==some .cell)then(n,NameKind.cell)else(n,k)).lookup x=!k:=h;have j:=PySem.mem_of_lookup h';grind
def  n6(X:Cx)(scope:Scope)(C:Addr)(s:Shared)(H:Hp)(fp:List Addr):Cx where
 prog:=X.prog
 w:=X.w
 K:=X.K
 mg:=X.mg
 base:=X.base
 A:=X.A
 N:=X.N
 s₀:=s
 H₀:=H
 env:=compEnvC scope (rC X.env scope) C X.env
 outer:=X.stack
 stack:=X.stack
 ex:=fp
 fn:=λ_=>false
 calm:=X.calm
 pn:=[]
 xe:=λ_ _=>False
structure CSc(X:Cx)(scope:Scope)(ks:Vb):Prop where
 kind:scope.kind=.function
 nocell:∀y∈scope.names,y.2≠.cell
 names:∀y∈scope.names,y.2=.local->scope.names.lookup y.1=some .local
 free:∀y∈scope.names,y.2=.free->X.env.scope.names.lookup y.1=some .cell\/X.env.scope.names.lookup y.1=some .free
 own:∀(i:Nat)(x:Str),X.N[i]?=!x->scope.names.lookup x=some .local->i∈ks
noncomputable def  gx{α:Type}(ks:Vb)(σ:List (Option α)):List (Option α):=ks.foldl (λσ k=>σ.set k none) σ
def kO:∀(ks:Vb)(σ:List (Option α)),(gx ks σ).length=σ.length
 |[],_=>rfl
 |k::ks,σ=>by
  show(gx ks (σ.set k none)).length=_;rw[kO ks];simp
def n9:∀(ks:Vb)(σ:List (Option α))(i:Nat)(v:α),(gx ks σ)[i]?=!(!v)->σ[i]?=!(!v)/\i ∉ ks
 |[],_,_,_,h=>⟨h,by simp⟩
 |k::ks,σ,i,v,h=>by
  let⟨h1,h2⟩:=n9 ks (σ.set k none) i v h;by_cases hk:k=i
  .subst hk;rw[List.getElem?_set]at h1;simp only[if_true]at h1;split at h1<;>simp at h1
  .rw[List.getElem?_set_ne hk]at h1;exact⟨h1,by simp[h2,Ne.symm hk]⟩
def tU:∀(ks:Vb)(σ:List (Option α))(i:Nat)(v:α),σ[i]?=!(!v)->i ∉ ks->(gx ks σ)[i]?=!(!v)
 |[],_,_,_,h,_=>h
 |k::ks,σ,i,v,h,hn=>by
  refine tU ks (σ.set k none) i v ?_ λz=>hn (Vs _ z);rw[List.getElem?_set_ne (λz=>hn (by simp[z]))];exact h
section
variable{X:Cx}{pins:U5}{σ:St}{H:Hp}{s:Shared}{fp:List Addr}{scope:Scope}{ks:Vb}{C D:Addr}
def Inv.cells_of(I:Inv X pins σ H s)(S:CSc X scope ks):∀y∈scope.names,y.2=.free->∃c,X.env.cells.lookup y.1=!c:=λy g j=>I.ok.has y.1 (S.free y g j)
def vO(I:Inv X pins σ H s)(S:CSc X scope ks)(l:∀b∈fp,j8 X pins H b)(p:∀b∈fp,b<s.heap.objs.size)(t:s.heap.objs.size<=C):(!12).Ok where
 mod:=I.ok.mod
 kind:=S.kind
 glob:=I.ok.glob
 blt:=I.ok.blt
 above:=t
 inj:=λx y c h1 h2=>I.ok.inj x y c (fG _ [] (λ_ _ z=>nomatch z) (I.cells_of S) x c h1) (fG _ [] (λ_ _ z=>nomatch z) (I.cells_of S) y c h2)
 has:=λx T=>by
  have q:∃k,(relabel scope X.env).names.lookup x=!k/\(k=.cell\/k=.free):=by
   rcases T with h|h
   .exact⟨_,h,.inl rfl⟩
   .exact⟨_,h,.inr rfl⟩
  let⟨k,hk,hc⟩:=q;let⟨J,r,h0⟩:=n5 hk;have g:J=.free:=by
   rcases h0 with rfl|⟨h,_⟩
   .rcases hc with z|z
    .exact absurd z (S.nocell _ r)
    .exact z
   .exact h
  subst g;exact Option.isSome_iff_exists.mp (ka scope.names [] x (.inl r))
 cab:=λ_ _ z=>absurd z Vp
 hd:=I.ok.hd
 frames:=I.ok.frames
 stk:=.inl rfl
 exf:=λb j=>⟨Vy (Vu (p b j) t),λx c e=>(l b j).2.2.2.2.1 x c (fG _ [] (λ_ _ z=>nomatch z) (I.cells_of S) x c e)⟩
 bs:=I.bs
 bsz:=Vx I.ok.bsz I.sz
 noex:=λb o e j=>by
  rcases(l b j).2.2.2.1 with z|z
  .exact I.ok.noex b o e z
  .exact absurd (Vu (Vu (Vn e) I.ok.bsz) z) (VD _)
 exfs:=λb j U=>by
  rcases mem_cons.mp (I.stkSub b U)with z|z
  .exact(l b j).2.1 z
  .exact(l b j).2.2.1 z
 funs:=I.stack
 frf:=⟨I.stkFree,I.tab⟩
def zh{g:U9}(I:Inv X pins σ H s)(S:CSc X scope ks)(hf:∀b∈fp,j8 X pins H b)(hlt:∀b∈fp,b<s.heap.objs.size)(hD:s.heap.objs.size<=D)(hC:s.heap.objs.size<=C)(hDC:D≠C)(old:∀b o,s.heap.get? b=!o->j.get? b=!o)(hns:j.Ns C m)(hacc:j.get? D=some {cls:=.type "list",data:=.seq g.toArray n}):
  Inv (!12) [(D,{cls:=.type "list",data:=.seq g.toArray n})] (gx ks σ) H {s with heap:=j,toks:=tk}:=by
 have cs:=fG scope.names [] (λ_ _ z=>nomatch z) (I.cells_of S)
 refine⟨vO I S hf hlt hC,rfl,I.bare,Un.kept old,⟨m,hns,λi x v hN hσ hv=>?_⟩,λx c e=>?_,I.hok.fresh hC,λx c e=>I.freeC x c (cs x c e),λp hp=>?_,I.hok.kept old,?_⟩
 .let⟨h1,h2⟩:=n9 ks σ i v hσ;have hv':∃k,(relabel scope X.env).names.lookup x=!k/\(k=.local\/k=.cell\/k=.free):=by
   rcases hv with h|h|h
   .exact⟨_,h,.inl rfl⟩
   .exact⟨_,h,.inr (.inl rfl)⟩
   .exact⟨_,h,.inr (.inr rfl)⟩
  let⟨k,hk,hkk⟩:=hv';let⟨k0,hm,h0⟩:=n5 hk;have J:k0=.free:=by
   rcases h0 with e|⟨h,_⟩
   .subst e;rcases hkk with z|z|z
    .exact absurd (S.own i x hN (S.names _ hm z)) h2
    .exact absurd z (S.nocell _ hm)
    .exact z
   .exact h
  subst J;have hX:=S.free _ hm rfl;let⟨m0,hn0,hl0⟩:=I.loc;let⟨u,r,l⟩:=hl0 i x v hN h1 (by rcases hX with z|z;exact .inr (.inl z);exact .inr (.inr z));refine⟨u,r,.inr ⟨?_,?_⟩⟩
  .have hk2:k=.cell\/k=.free:=by
    rcases h0 with e|⟨_,e⟩
    .exact .inr e.symm
    .exact .inl e
   rcases hk2 with e|e
   .subst e;exact .inl hk
   .subst e;exact .inr hk
  .rcases l with⟨U,_⟩|⟨_,c,ec,T⟩
   .have t:X.env.scope.names.lookup x=some .local:=U;rcases hX with z|z
    .rw[t]at z;cases z
    .rw[t]at z;cases z
   .let⟨c',ec'⟩:=Option.isSome_iff_exists.mp (ka scope.names [] x (.inl hm));have e2:=cs x c' ec';rw[ec]at e2;cases e2;let⟨o,ho,hd⟩:=T;exact⟨c,ec',o,old c o ho,hd⟩
 .let⟨v,o,ho,hd⟩:=I.cell x c (cs x c e);exact⟨v,o,old c o ho,hd⟩
 .have e:p=(D,{cls:=.type "list",data:=.seq g.toArray n}):=by
   have hp':p∈[]++[(D,({cls:=.type "list",data:=.seq g.toArray n}:Obj))]:=hp;simpa using hp'
  subst e;refine⟨hacc,I.hok.fresh hD,hDC,λhb=>?_,λv z=>?_⟩
  .rcases mem_cons.mp (I.stkSub D hb)with z|z
   .exact absurd (Vu I.lt hD) (by rw[z];exact VD _)
   .exact I.nofs hD z
  .have z':Data.seq g.toArray n=Data.cell v:=z;cases z'
 .show(gx ks σ).length=X.N.length;rw[kO];exact I.len
def HOk.adopt(x:HOk P w H h)(g:H a=none)(new:ObjOk P w (aR H a o) h a o):HOk P w (aR H a o) h:=λb u q=>by
 by_cases j:b=a
 .subst j;rw[al]at q;cases q;exact new
 .rw[ag j]at q;refine(x b u q).stay (λ_ _ _ z=>z) (λc z=>?_) (λc xs z=>?_) λc o' l z=>?_
  .rw[ag (am z g)];exact z
  .rw[ag (am z g)];exact z
  .rw[ag (am z g)];exact z
def Ez{p:St}(I:Inv X pins σ H s)(J:Inv (!12) pl p H' s')(U:∀b∈fp,j8 X pins H b)(hD:s.heap.objs.size<=D)(g:H' D=none)(l:s'.heap.get? D=some {cls:=.type "list",data:=.seq j.toArray n})(r:Vals ys j)(t:ys.length<=sizeLine):Inv X pins σ (aR H' D (.lst ys)) s':=by
 have B:=J.base;have ne:∀b o,s.heap.get? b=!o->b≠D:=λb o e=>Vy (Vu (Vn e) hD);refine I.call' J.os ⟨B.keep,B.slot,λb o e q T=>?_,B.there,λb xs q=>?_,λb o u q=>?_,λb ps q=>?_⟩ (J.hok.adopt g ⟨t,j,n,r,l⟩) J.bare λb hb=>?_
 .rw[ag (ne b o e)];exact B.free b o e q T
 .have z:=B.tups b xs q;rw[ag (am z g)];exact z
 .have z:=B.frzs b o u q;rw[ag (am z g)];exact z
 .let⟨more,z⟩:=B.tbls b ps q;exact⟨more,by rw[ag (am z g)];exact z⟩
 .let⟨_,f1,_,f3,f4,f5⟩:=U b hb;exact⟨f3,f1,f4,f5⟩
end
def  PTs(X:Cx)(ifs:Vh)(t:TT):Prop:=
 ∀(pins:U5)(s:Shared)(σ:St)(H:Hp)(Q:Bool->Hp->Prop),Inv X pins σ H s->t σ H Q->
  wpAny (!4) X.A (forIn ifs true λc r=>if r=true then do let ok<-isTrue c X.env (eval c X.env);pure (ForInStep.yield ok)else pure (ForInStep.yield r)) (TP X pins σ Q) X.xe s
def  QG:TT:=λ_ H Q=>Q true H
def pts_nil:PTs X [] QG:=λ_ _ _ H _ I h=>wpAny_tests_nil ⟨H,I,h⟩
def EA(h:PT X c t):PTs X [c] t:=λpins s σ H Q I q=>wpAny_tests_one (h pins s σ H Q I q)
def vP{prog:Program}{w:World}{A:Around}{R:Result->Shared->Prop}(I:Nat->Shared->Prop)(g:∀n s,I n s->wpAny (!6) A (pyNext p) (λr o=>match r with
   |none=>R (.ok .next) o
   |some v=>wpAny (!6) A (letOwnedTupleGo tg p v) (λ_ J=>wpAny (!6) A (assign tg env v) (λ_ C=>
    wpAny (!6) A (forIn ifs true λc r=>if r=true then do let ok<-isTrue c env (eval c env);pure (ForInStep.yield ok)else pure (ForInStep.yield r)) (λok l=>
     if ok=true then wpAny (!6) A (eval elt env) (λx s5=>wpAny (!6) A (call (.builtin "list.append") [j,x]) (λ_ t=>∃m,m<n/\I m t) (λ_ _=>False) s5) (λ_ _=>False) l
     else∃m,m<n/\I m l) (λ_ _=>False) C) (λ_ _=>False) J) (λ_ _=>False) o) (λ_ _=>False) s) (n:Nat) (h:I n s):codeAny (!6) A (.compLoop (!9) 0 p j env) R s:=by
 refine codeAny_loop rfl I (λk s' U=>?_) n h
 show wpAny _ A ((compTurn (!9) 0 p j env).onRaise (λx=>do noteFrame x env;theTreesLotGoes x)) _ _ s'
 refine wpAny_noted ?_
 rw[compTurn_list]
 refine Vk (wpAny_standAt (Vk (VJ (g k s' U) (λr o h1=>?_) λ_ _ z=>z.elim)))
 cases r with
 |none=>exact Vm h1
 |some v=>
  refine Vk (VJ h1 (λ_ J h2=>?_) λ_ _ z=>z.elim);refine Vk (VJ h2 (λ_ C h3=>?_) λ_ _ z=>z.elim);refine Vk (VJ h3 (λok l T=>?_) λ_ _ z=>z.elim);cases ok with
  |false=>exact Vm ⟨rfl,T⟩
  |true=>
   refine Vk (Vk (VJ T (λx s5 h5=>?_) λ_ _ z=>z.elim));exact Vk (VJ h5 (λ_ t h6=>Vm (Vm ⟨rfl,h6⟩)) λ_ _ z=>z.elim)
def  QH(σ σ':St):Prop:=σ'.length=σ.length/\∀(i:Nat)(v:V),σ[i]?=!(!v)->σ'[i]?=!(!v)
def  Hx(J:It)(ks:Vb)(g:TG)(tt:TT)(te:TE)(σ:St)(vA:List V->Hp->Prop)(W:Nat->Nat->List V->Hp->Prop):Prop:=∀i m ys H2,W i m ys H2->
 (J.stop i H2/\ys.length<=sizeLine/\vA ys H2)\/
 (J.go i H2/\ys.length<sizeLine/\∀x H3,J.yld i H2 x H3->g x (gx ks σ) H3 λσ4 H4=>QH (gx ks σ) σ4/\tt σ4 H4 λc H5=>
  if c=true then te σ4 H5 λy H6=>∃m',m'<m/\W (i+1) m' (ys++[y]) H6 else∃m',m'<m/\W (i+1) m' ys H5)
def  tV(wi:TI)(ks:Vb)(g:TG)(tt:TT)(te:TE):TE:=λσ H Q=>wi σ H λJ H1=>∃W:Nat->Nat->List V->Hp->Prop,(∃m,W 0 m [] H1)/\
 Hx J ks g tt te σ (λys H2=>∀p,H2 p=none->Q (.ref p) (aR H2 p (.lst ys))) W
section
variable{X:Cx}{scope:Scope}{ks:Vb}{tg elt iter:Expr}{ifs:Vh}{g:TG}{tt:TT}{te:TE}{pos:Pos}
def og{σ:St}{RR:Value->Addr->Result->Shared->Prop}{vA}(hc:X.calm=true)(S:CSc X scope ks)(I2:Inv X pins σ H2 s2)(T:Turn X.prog X.w X.K tg J fp it tn)(st:tn 0 s2.heap)(f2:∀b∈fp,j8 X pins H2 b)(hg:∀C s H,PG (!12) tg g)(htt:∀C s H,PTs (!12) ifs tt)(he:∀C s H,PE (!12) elt te)(w0:∃m,W 0 m [] H2)(turn:Hx J ks g tt te σ vA W)(hR:∀D C H3 s3 m ys,Inv X pins σ (aR H3 D (.lst ys)) s3->H3 D=none->aR H3 D (.lst ys) C=none->C≠X.env.locals->s2.heap.objs.size<=C->s3.heap.Ns C m->vA ys H3->RR (.ref D) C (.ok .next) s3):
  wpAny (!4) X.A (newList []) (λacc s₃=>wpAny (!4) X.A (newFunctionEnv scope X.env.globals (rC X.env scope) [] X.env.qual none .none (!X.env)) (λcenv s₄=>
   codeAny (!4) X.A (.compStart (!9) 0 (.ref it) acc {cenv with scope:=relabel scope X.env}) (RR acc cenv.locals) s₄) E s₃) E s2:=by
 have hlt:∀b∈fp,b<s2.heap.objs.size:=λb t=>by
  let⟨o,e,_⟩:=T.obj _ _ st b t
  exact Vn e
 refine wpAny_newObj_type (wpAny_newFunctionEnv S.nocell (by intro y hy;simp at hy) (λh₁ hns₁ U=>?_) S.kind)
 generalize hH2:s2.heap.push {cls:=.type "list",dict:=none,data:=.seq ([]:U9).toArray}=G at hns₁ U⊢
 have hCe:G.objs.size=s2.heap.objs.size+1:=by rw[<-hH2,Heap.size_push]
 have hDC:s2.heap.objs.size≠G.objs.size:=by rw[hCe];exact Vy (Nat.lt_succ_self _)
 have hC:s2.heap.objs.size<=G.objs.size:=by rw[hCe];exact Nat.le_succ _
 have old:∀b o,s2.heap.get? b=!o->h₁.get? b=!o:=λb o e=>
  U.extBut b o (Vy (Vu (Vn e) hC)) (Vl _ (hH2▸Vl _ e))
 have hacc:h₁.get? s2.heap.objs.size=some {cls:=.type "list",data:=.seq ([]:U9).toArray 0}:=U.extBut _ _ hDC (Vl _ (hH2▸Vo _ rfl))
 generalize l:s2.heap.objs.size=D at*
 generalize hCn:G.objs.size=C at*
 have st₁:=T.keep _ _ _ st λb t o e=>old b o e
 let ρ:=n6 X scope C s2 H2 fp
 have fpY:∀{pl:U5}{H':Hp},(∀b∈fp,H' b=none)->(∀p∈pl,D<=p.1)->∀b∈fp,j8 ρ pl H' b:=λ{pl H'} hn hp b t=>by
  refine⟨hn b t,Vy (Vu (hlt b t) hC),λz=>?_,.inl t,((vO I2 S f2 (l▸hlt) (l▸hC)).exf b t).2,λp hq=>?_⟩
  .exact(vO I2 S f2 (l▸hlt) (l▸hC)).exfs b t z
  .have hq':p∈[]++pl:=hq
   have:=hp p (by simpa using hq')
   exact Nat.ne_of_gt (Vu (hlt b t) this)
 have loop:∀tk,codeAny (!4) X.A (.compLoop (!9) 0 (.ref it) (.ref D) (compEnvC scope (rC X.env scope) C X.env)) (RR (.ref D) C) {s2 with heap:=h₁,toks:=tk}:=λtk=>by
  let⟨m0,w0⟩:=w0
  refine vP (λn s'=>∃i ys I j H',Inv ρ [(D,{cls:=.type "list",data:=.seq (List.toArray I) j})] _ H' s'/\Vals ys I/\tn i s'.heap/\(∀b∈fp,H' b=none)/\W i n ys H') ?_ m0
   ⟨0,[],[],0,H2,zh I2 S f2 (l▸hlt) (l▸VI _) (l▸hC) hDC old hns₁ hacc,.nil,st₁,λb t=>(f2 b t).1,w0⟩
  rintro n s3 ⟨i,ys,I,j,H3,I3,rv,Ho,fr3,w3⟩
  have pinD:∀p∈[(D,({cls:=.type "list",data:=.seq _ j}:Obj))],D<=p.1:=λp hp=>by
   have e:p=(D,{cls:=.type "list",data:=.seq (List.toArray I) j}):=by simpa using hp
   rw[e];exact VI _
  rcases turn i n ys H3 w3 with⟨stop,hz,fin⟩|⟨go,hz,step⟩
  .refine bw (T.done ρ rfl rfl rfl hc i _ s3 _ H3 (λ_ _=>False) I3 (fpY fr3 pinD) Ho stop) λr s4 ⟨hr,I4⟩=>?_
   subst hr
   have hD4:=I4.pin (D,{cls:=.type "list",data:=.seq _ j}) (VC _ Vr)
   let⟨m4,hn4,_⟩:=I4.loc
   have JX:=Ez I2 I4 f2 (Nat.le_of_eq l) hD4.2.1 hD4.1 rv hz
   exact hR D C H3 s4 m4 ys JX hD4.2.1 (by rw[ag (Ne.symm hDC)];exact I4.free) (Nat.ne_of_gt (Vu I2.lt (l▸hC))) hC hn4 fin
  .refine bw (T.item ρ rfl rfl rfl hc i _ s3 _ H3 (λ_ _=>False) I3 (fpY fr3 pinD) Ho go) λr s4 ⟨u,hr,h4⟩=>?_
   subst hr
   refine bw h4 λ_ s5 ⟨x,H5,I5,r5,y5,st5,fr5⟩=>?_
   have I5':=I5.pinned (fpY fr5 pinD) (T.obj _ _ st5)
   refine bw (hg C s2 H2 _ s5 _ H5 x u _ I5' r5 (step x H5 y5)) λ_ s6 ⟨σ6,H6,I6,kp,q6⟩=>?_
   refine bw (htt C s2 H2 _ s6 σ6 H6 _ I6 q6) λok s7 ⟨H7,I7,q7⟩=>?_
   -- the iterator's own objects stand
   have stay:∀{H':Hp}{s':Shared},Inv ρ ([(D,({cls:=.type "list",data:=.seq (List.toArray I) j}:Obj))]++nS fp s5.heap) σ6 H' s'->tn (i+1) s'.heap/\∀b∈fp,H' b=none:=λ{H' s'} I'=>by
    refine⟨T.keep _ _ _ st5 λb t o e=>(I'.pin (b,o) (VC _ (VC _ (gN t e)))).1,λb t=>?_⟩
    let⟨o,e,_⟩:=T.obj _ _ st5 b t
    exact(I'.pin (b,o) (VC _ (VC _ (gN t e)))).2.1
   cases ok with
   |false=>
    let⟨m',hm,w7⟩:=q7
    let⟨t7,n7⟩:=stay I7
    exact⟨m',hm,i+1,ys,I,j,H7,I7.unpinned.weak kp.1.symm kp.2,rv,t7,n7,w7⟩
   |true=>
    refine bw (he C s2 H2 _ s7 σ6 H7 _ I7 q7) λy s8 ⟨yv,H8,I8,r8,m',hm,w8⟩=>?_
    let⟨t8,n8⟩:=stay I8
    have hD8:=I8.pin (D,{cls:=.type "list",data:=.seq _ j}) (VC _ (VB _ Vr))
    have hlen:=rv.length
    refine append_at hD8.1 (λh9 sb hD9=>?_) (by rw[size_toArray];omega)
    have I9:Inv ρ [] σ6 H8 {s8 with heap:=h9,toks:=s8.toks}:=Inv.turned (I8.pins_of λp hp=>nomatch hp) (λb o t e=>sb.extBut b o t e) hD8.2.1 hD8.2.2.1 (.inr (Nat.le_of_eq l))
     (λx c e z=>by
      let⟨v,q⟩:=I8.cell x c e
      let⟨o,ho,hd⟩:=q
      rw[z,hD8.1]at ho
      cases ho
      exact hD8.2.2.2.2 v hd) (λp hp=>nomatch(hp))
    have e9:h9.get? D=some {cls:=.type "list",data:=.seq (List.toArray (I++[y])) (j+1)}:=by
     rw[hD9];simp
    have I10:Inv ρ [(D,{cls:=.type "list",data:=.seq _ _})] σ6 H8 {s8 with heap:=h9,toks:=s8.toks}:=I9.pins_of λp hp=>by
     have e:p=(D,{cls:=.type "list",data:=.seq (List.toArray (I++[y])) (j+1)}):=by simpa using hp
     subst e
     exact⟨e9,hD8.2.1,hD8.2.2.1,hD8.2.2.2.1,λv z=>by
      have z':=z
      cases z'⟩
    refine⟨m',hm,i+1,ys++[yv],I++[y],j+1,H8,I10.weak kp.1.symm kp.2,rv.append (.cons r8 .nil),T.keep _ _ _ t8 λb t o e=>sb.extBut b o (Vy (hlt b t)) e,n8,w8⟩
 exact codeAny_compStart_list (loop _) (T.self _ 0 _ _ _ st₁ (loop _))
def EB(hc:X.calm=true)(S:CSc X scope ks)(hi:PI X tg iter wi)(hg:∀C s H fp,PG (!12) tg g)(U:∀C s H fp,PTs (!12) ifs tt)(he:∀C s H fp,PE (!12) elt te)(hs:∀x,foldedSetIterable iter X.env x=pure x:=by intro _;rfl):PE X (!9) (tV wi ks g tt te):=by
 intro pins s σ H Q I h;refine wpAny_comprehension_free rfl hs (nZ (I.cells_of S)) S.kind S.names (bw (hi pins s σ H _ I h) λv s1 h1=>bw h1 λitv s2 h2=>?_);let⟨it,fp,tn,J,H2,e,r,T,t,f2,W,w0,l⟩:=h2;subst e;refine og hc S r T t f2 (λC s H=>hg C s H fp) (λC s H=>U C s H fp) (λC s H=>he C s H fp) w0 l ?_;intro D C H3 s3 m ys I3 hD hC hCL j hns fin;refine⟨m,hns,λh' sb=>?_⟩;refine⟨.ref D,aR H3 D _,?_,rfl,fin D hD⟩;exact I3.turned (λb o hb e=>sb.extBut b o hb e) hC hCL (.inr (Vx r.sz j)) (λx c e z=>by
  let⟨v,o,ho,hd⟩:=r.cell x c e;exact absurd (Vu (Vn ho) j) (by rw[z];exact VD _)) λp hp z=>absurd (Vu (Vn (r.pin p hp).1) j) (by rw[z];exact VD _)
def EC(hN:X.N.Nodup)(hx:X.N[i]?=!x)(hl:X.env.scope.names.lookup x=some .local)(hc:X.calm=true)(S:CSc X scope ks)(hi:PI X tg iter wi)(hg:∀C s H fp,PG (!12) tg g)(htt:∀C s H fp,PTs (!12) ifs tt)(he:∀C s H fp,PE (!12) elt te)(hsw:swapsWith (!9) (!(.Name x px)) r.line X.env=pure true)(hs:∀x,foldedSetIterable iter X.env x=pure x:=by intro _;rfl):PS X (.Assign [.Name x px] (!9) r) (Ax (tV wi ks g tt te) (tL i)):=by
 intro pins s σ H Q I h;rw[exec_Assign_Name_used _ _ _ _ hsw];refine Vk (wpAny_standAt (Vk ?_));refine Vk (VJ (wpAny_comprehension_free rfl hs (nZ (I.cells_of S)) S.kind S.names
  (bw (hi pins s σ H _ I h) λv s1 h1=>bw h1 λitv s2 h2=>?_)) (λ_ s' hq=>Vm (Vm hq)) λ_ _ e=>e)
 let⟨it,fp,tn,J,H2,e,U,T,LA,f2,W,w0,l⟩:=h2;subst e;refine og hc S U T LA f2 (λC s H=>hg C s H fp) (λC s H=>htt C s H fp) (λC s H=>he C s H fp) w0 l ?_;intro D C H3 s3 m ys I3 hD hC t j hns fin;refine wpAny_assign_Name (ql (v:=.ref D) I3 hN hx (.inl hl) rfl (λs4 I4 ⟨a,sb,ha⟩=>?_) (.inr hl));have hCa:C≠a:=by
  rcases ha with z|z
  .rw[z];exact t
  .intro q;let⟨v,o,ho,hd⟩:=U.cell x a z;exact absurd (Vu (Vn ho) j) (by rw[q];exact VD _)
 refine⟨m,hns.sameBut sb hCa,λh' sb'=>?_⟩;refine⟨σ.set i _,aR H3 D _,?_,fin D hD⟩;exact I4.turned (λb o hb e=>sb'.extBut b o hb e) hC t (.inr (Vx U.sz j)) (λx c e z=>by
   let⟨v,o,ho,hd⟩:=U.cell x c e;exact absurd (Vu (Vn ho) j) (by rw[z];exact VD _)) λp hp z=>absurd (Vu (Vn (U.pin p hp).1) j) (by rw[z];exact VD _)
end
section
variable{κ:Type}[DecidableEq κ]
def  rD(kvs:List (κ×V))(k:κ):Option V:=(kvs.find? λkv=>decide (kv.1=k)).map (·.2)
noncomputable def  kP(kvs:List (κ×V))(k:κ)(v:V):List (κ×V):=
 if(kvs.any λkv=>decide (kv.1=k))=true then kvs.map (λkv=>if kv.1=k then(kv.1,v)else kv)else kvs++[(k,v)]
def tW{k:κ}(e:p.1=k):rD (p::r) k=!p.2:=by simp[rD,List.find?_cons,e]
def tX{k:κ}(e:¬p.1=k):rD (p::r) k=rD r k:=by simp[rD,List.find?_cons,e]
def tY(kvs:List (κ×V))(k:κ)(v:V):(kP kvs k v).length<=kvs.length+1:=by grind [kP]
def KV.val(r:KV kvs l)(k:κ):RelO (rD kvs k) (valueAt l k):=by
 induction r with
 |nil=>exact True.intro
 |@cons p q ps g h t o=>
  let⟨h1,h2⟩:=h;by_cases e:p.1=k
  .have j:q.1=k:=h1.symm.trans e;have b:valueAt (q::g) k=!q.2:=by simp[valueAt,List.find?_cons,j]
   rw[tW e,b];exact h2
  .have j:¬q.1=k:=λz=>e (h1.trans z);have b:valueAt (q::g) k=valueAt g k:=by simp[valueAt,List.find?_cons,j]
   rw[tX e,b];exact o
def KV.any(r:KV kvs j)(k:κ):(kvs.any λg=>decide (g.1=k))=j.any λg=>decide (g.1=k):=by
 induction r with
 |nil=>rfl
 |cons h t l=>rw[List.any_cons,List.any_cons,l,h.1]
def KV.repl(r:KV kvs j)(k:κ)(l:RelV y u):
  KV (kvs.map λg=>if g.1=k then(g.1,y)else g) (j.map λg=>if g.1=k then(g.1,u)else g):=by
 induction r with
 |nil=>exact .nil
 |@cons p q ps C h t o=>
  rw[List.map_cons,List.map_cons];refine .cons ?_ o;let⟨h1,h2⟩:=h;by_cases e:p.1=k
  .rw[if_pos e,if_pos (h1.symm.trans e)];exact⟨h1,l⟩
  .rw[if_neg e,if_neg (λz=>e (h1.trans z))];exact⟨h1,h2⟩
def KV.put(r:KV kvs g)(k:κ)(j:RelV y u):KV (kP kvs k y) (stored g k u):=by
 unfold kP stored;rw[r.any];by_cases e:(g.any λl=>decide (l.1=k))=true
 .rw[if_pos e,if_pos e];exact r.repl k j
 .rw[if_neg e,if_neg e];exact Paired.snoc r ⟨rfl,j⟩
def KV.length{g:List (κ×Value)}(r:KV kvs g):kvs.length=g.length:=Paired.length r
end
def Hy(r:RelV (kV k) u):(eQ P w).is k u=true:=by
 cases k with
 |inl i=>let⟨t,e⟩:=(r);subst e;exact tE P w i t
 |inr x=>let⟨t,e⟩:=(r);subst e;exact tF P w x t
section
variable{P:Program}{w:World}{H:Hp}{h:Heap}{a:Addr}
def Ms(ok:HOk P w H h)(e:Rd H a u):ObjOk P w H h a u:=e.ok ok
def Mt(ok:HOk P w H h)(e:Rd H a (.dK kvs)):kvs.length<=sizeLine/\(a==sysModules)=false/\∃g,KV kvs g/\h.DictOf (eQ P w) a g:=
 show ObjOk P w H h a (.dK kvs)from Ms ok e
def Hz(ok:HOk P w H h)(e:H a=!(.dK kvs)):kvs.length<=sizeLine/\(a==sysModules)=false/\∃g,KV kvs g/\h.DictOf (eQ P w) a g:=Mt ok (.inl e)
end
def Inv.big(I:Inv X pins σ H s):sysModules<s.heap.objs.size:=by
 have h:=(I.mod.glob.keeps I.bk).lt;exact Nat.lt_trans (!2) h
def ED(I:Inv X pins σ H s)(mu:LD (H a))(hs:Heap.SameBut a s.heap h')(he:∃q,h'.get? a=!q)(new:ObjOk X.prog X.w (aR H a ob) h' a ob):
  Inv X pins σ (aR H a ob) {s with heap:=h',toks:=t'}:=
 I.write mu (.inl rfl) (λb q hb z=>(hs.2 b hb).trans z) he new
def IR{a:Addr}(z:kvs.length<=sizeLine)(hd:(a==sysModules)=false)(rel:KV kvs g)(j:h'.DictOf (eQ P w) a g):
 ObjOk P w H' h' a (.dK kvs):=⟨z,hd,g,rel,j⟩
def AZ(h:Heap)(g:sysModules<h.objs.size):ObjOk P w H (h.push {cls:=.type "dict",data:=.dict #[]}) h.objs.size (.dK []):=
 ⟨Nat.zero_le _,beq_eq_false_iff_ne.mpr (Ne.symm (Vy g)),[],.nil,Heap.DictOf.new h⟩
def  IS:TE:=λ_ H Q=>∀p,H p=none->Q (.ref p) (aR H p (.dK []))
def pe_dnewK:PE X (.Dict [] [] pos) IS:=λpins s σ H Q I h=>
 wpAny_Dict_empty ⟨.ref s.heap.objs.size,_,I.laid (λ_ _ q=>Vl _ q) (VI _) (AZ s.heap I.big),rfl,h _ (I.hok.fresh (VI _))⟩
end L2
namespace HT
open PySem PySem.Spec PyProof.Rows
def A3(A:Around)(s:Shared)(a:Int)(t:Tok)(c:Int)(u:Tok)(prog:Program)(w:World)(E:U8)(Q:U8)(h:Q (.bool (decide (c<a))) s):
  wpAny (!6) A (richCompare .Gt (.int a t) (.int c u)) Q E s:=
 (PyProof.Rows.gt_int h:wpAny _ A (compareOp .Gt _ _) Q E s)
section
open PySem.SeqAt
open PySem.AutoSeq1 (wpAny_loadPart')
open PySem.MeetsSeq PySem.MeetsSeq2 PySem.MeetsSeq3
def pZ(l b:Addr)(items items2:Vf)(n n2:Nat)(dd dd2:Option Addr)(sl sl2:Array (Va))(ns ms:Vd)(hi:IntsAre items.toList ns)(hj:IntsAre items2.toList ms):
  Meets (Builtin.«tuple.__gt__» ⟨[.ref l,.ref b],[]⟩)
   (λ_ R s=>s.heap.get? l=some {cls:=.type "tuple",dict:=dd,data:=.seq items n,slots:=sl}/\s.heap.get? b=some {cls:=.type "tuple",dict:=dd2,data:=.seq items2 n2,slots:=sl2}/\
    R (.ok (.ret (.bool (lexLt ms ns)))) s):=
 .of_wp λprog w A R s h=>by
  let⟨hp,g,d,tk,os⟩:=s;let⟨hl,hb,h⟩:=h;have f2:=AutoSeq1.sub_tuple_tuple;have z1:items.size=ns.length:=by rw[<-hi.length];simp
  have z2:items2.size=ms.length:=by rw[<-hj.length];simp
  wp_walk using wpAny_loadPart' hl,wpAny_loadPart' hb,wpAny_forIn_list _ (λrest b s'=>b.1=none/\s'=⟨hp,g,d,tk,os⟩/\∃(vs ws:U9)(ns' ms':Vd),rest=vs.zip ws/\
   IntsAre vs ns'/\IntsAre ws ms'/\ns'.length+items2.size=ms'.length+items.size/\R (.ok (.ret (.bool (lexLt ms' ns')))) ⟨hp,g,d,tk,os⟩) _
  case turn=>
   rintro⟨y,x⟩ rest b s' ⟨hb',rfl,vs,ws,ns',ms',hz,hvi,hwi,hlen,hR⟩;cases hvi with
   |nil=>rw[List.zip_nil_left]at hz;cases hz
   |cons a t hvi'=>
    cases hwi with
    |nil=>rw[List.zip_nil_right]at hz;cases hz
    |cons c u hwi'=>
     rw[List.zip_cons_cons]at hz;injection hz with hyx hrest;injection hyx with hy hx;subst hy hx;rw[lexLt_cons]at hR;simp only[length_cons]at hlen;let⟨e,he,hiff⟩:=tO A.in1 ⟨hp,g,d,tk,os⟩ a t c u;refine Vk (he prog w _ _ ?_);cases e with
     |true=>
      rw[if_pos (hiff.mp rfl).symm]at hR;wp_walk;exact⟨rfl,rfl,_,_,_,_,hrest,hvi',hwi',by omega,hR⟩
     |false=>
      rw[if_neg (λq=>absurd (hiff.mpr q.symm) Bool.false_ne_true)]at hR;have hri:=A3 A.in1 ⟨hp,g,d,tk,os⟩ a t c u prog w;wp_walk using hri;exact⟨_,rfl,by simpa using hR⟩
  case fin=>
   rintro⟨b1,b2⟩ s' ⟨hb',rfl,vs,ws,ns',ms',hz,hvi,hwi,hlen,hR⟩;simp only at hb';subst hb';have hv:lexLt ms' ns'=decide (items2.size<items.size):=by
    cases hvi with
    |nil=>
     cases hwi with
     |nil=>
      simp only[List.length_nil]at hlen;rw[lexLt_nil_nil];exact(decide_eq_false (!1)).symm
     |cons c u hw=>
      simp only[List.length_nil,length_cons]at hlen;rw[iR];exact(decide_eq_false (!1)).symm
    |cons a t hv=>
     cases hwi with
     |nil=>
      simp only[List.length_nil,length_cons]at hlen;rw[iQ];exact(decide_eq_true (!1)).symm
     |cons c u hw=>
      rw[List.zip_cons_cons]at hz;cases hz
   rw[hv]at hR;wp_walk;exact⟨_,rfl,by simpa [Builtin.Tuple.tupleCompareSizes] using hR⟩
  case h=>
   exact⟨rfl,rfl,items.toList,items2.toList,ns,ms,rfl,hi,hj,by omega,h⟩
end
def gt_tupInts(hl:IsTup s.heap l items)(hb:IsTup s.heap b items2)(hi:IntsAre items.toList ns)(hj:IntsAre items2.toList ms)(hu:A.units<cLine)(h:Q (.bool (lexLt ms ns)) s):wpAny (!6) A (compareOp .Gt (.ref l) (.ref b)) Q E s:=by
 let⟨⟨cls,dd,data,sl⟩,ho,hc,n,hd⟩:=id hl;let⟨⟨cls2,dd2,data2,sl2⟩,ho2,hc2,n2,hd2⟩:=id hb;subst hc hd hc2 hd2;exact richCompare_meets_room (op:=.Gt) ⟨_,ho,rfl⟩ ⟨_,ho2,rfl⟩ PySem.F.slot_tuple_gt PySem.F.entry_tuple_gt (PySem.F.args_tuple_gt_2 _ _) (pZ l b items items2 n n2 dd dd2 sl sl2 ns ms hi hj)
  ⟨ho,ho2,show Value.bool (lexLt ms ns)≠Value.notImplemented/\Q (.bool (lexLt ms ns)) s from⟨(λx=>nomatch x),h⟩⟩ hu
end HT
namespace L2
open PySem PySem.Spec PyProof.Rows
def  Mu(K:Frag):R2:=λx y H Q=>∃a b ns ms,x=.ref a/\y=.ref b/\SqT K H a (ns.map V.int)/\SqT K H b (ms.map V.int)/\Q (.bl (HT.lexLt ms ns)) H
def A4{X:Cx}(J:X.A.units<cLine):OpR X (compareOp .Gt) (Mu X.K):=by
 intro pins s σ H x y v u Q I rx j h;let⟨a,b,ns,ms,rfl,rfl,U,T,q⟩:=h;cases rx;cases j;let⟨r,o,p,_⟩:=I.tuple U;let⟨g,l,p2,_⟩:=I.tuple T;have C:=gP o;have t:=gP l;exact HT.gt_tupInts p p2 C t J ⟨.bl _,H,I,rfl,q⟩
inductive D where
 |non
 |bl (b:Bool)
 |int (i:Int)
 |str (x:Str)
 |ty (n:String)
 |adr (a:Addr)
 |tup (ds:List D)
 |lst (ds:List D)
 |obj (C:Str) (ns:Vc) (ds:List D)
 |dct (ks:List jz) (ds:List D)
abbrev _root_.Vi:=Option D
abbrev _root_.Vg:=List D
abbrev _root_.U7:=Option (List D)
mutual
noncomputable def  Is(K:Frag)(H:Hp):D->V->Prop
 |.non,v=>v=.non
 |.bl b,v=>v=.bl b
 |.int i,v=>v=.int i
 |.str x,v=>v=.str x
 |.ty n,v=>v=.ty n
 |.adr a,v=>v=.ref a
 |.tup ds,v=>∃a xs,v=.ref a/\SqT K H a xs/\IsL K H ds xs
 |.lst ds,v=>∃a xs,v=.ref a/\SqL K H a xs/\IsL K H ds xs
 |.obj C ns ds,v=>∃a Ca dx fs,v=.ref a/\nsIn K mainGlobals C=!(!(.ref Ca))/\H a=!(.ins Ca dx fs)/\fs.map (·.1)=ns/\IsL K H ds (fs.map (·.2))
 |.dct ks ds,v=>∃a kvs,v=.ref a/\H a=!(.dK kvs)/\kvs.map (·.1)=ks/\IsL K H ds (kvs.map (·.2))
noncomputable def  IsL(K:Frag)(H:Hp):Vg->List V->Prop
 |[],xs=>xs=[]
 |d::ds,xs=>∃x r,xs=x::r/\Is K H d x/\IsL K H ds r
end
def Same.seqT{K}(e:Same H H')(h:SqT K H a xs):SqT K H' a xs:=by
 rcases h with(h|⟨o,h⟩)|h
 .exact .inl (.inl (e _ _ h))
 .exact .inl (.inr ⟨o,e _ _ h⟩)
 .exact .inr h
mutual
theorem Is.mono{K:Frag}{H H':Hp}(s:Same H H'):∀(d:D)(v:V),Is K H d v->Is K H' d v
 |.non,_,h=>h
 |.bl _,_,h=>h
 |.int _,_,h=>h
 |.str _,_,h=>h
 |.ty _,_,h=>h
 |.adr _,_,h=>h
 |.tup ds,_,⟨a,xs,e,q,l⟩=>⟨a,xs,e,s.seqT q,IsL.mono s ds xs l⟩
 |.lst ds,_,⟨a,xs,e,q,l⟩=>⟨a,xs,e,s.seq q,IsL.mono s ds xs l⟩
 |.obj _ _ ds,_,⟨a,Ca,dx,fs,e,c,q,z,l⟩=>⟨a,Ca,dx,fs,e,c,s _ _ q,z,IsL.mono s ds _ l⟩
 |.dct _ ds,_,⟨a,kvs,e,q,z,l⟩=>⟨a,kvs,e,s _ _ q,z,IsL.mono s ds _ l⟩
theorem IsL.mono{K:Frag}{H H':Hp}(s:Same H H'):∀(ds:Vg)(xs:List V),IsL K H ds xs->IsL K H' ds xs
 |[],_,h=>h
 |d::ds,_,⟨x,r,e,h,l⟩=>⟨x,r,e,Is.mono s d x h,IsL.mono s ds r l⟩
end
def IsL.paired{K}:∀{ds:Vg}{xs:List V},IsL K H ds xs->Paired (Is K H) ds xs
 |[],_,h=>by cases(show _=[]from h);exact .nil
 |_::_,_,⟨_,_,e,h,l⟩=>by cases e;exact .cons h (IsL.paired l)
def IsL.of{K}:∀{ds:Vg}{xs:List V},Paired (Is K H) ds xs->IsL K H ds xs
 |_,_,.nil=>rfl
 |_,_,.cons h l=>⟨_,_,rfl,h,IsL.of l⟩
def IsL.len{K}(h:IsL K H ds xs):ds.length=xs.length:=Paired.length h.paired
def oh:∀{a c:List α}{b d:List β},Paired F a b->Paired F c d->Paired F (a++c) (b++d)
 |_,_,_,_,.nil,h=>h
 |_,_,_,_,.cons h l,q=>.cons h (oh l q)
def gQ:∀{a:List α}{b:List β}{i:Nat}{x:α},Paired F a b->a[i]?=!x->∃y,b[i]?=!y/\F x y
 |_,_,_,_,.nil,e=>by simp at e
 |_,_,0,_,.cons h _,e=>by simp at e;subst e;exact⟨_,rfl,h⟩
 |_,_,i+1,_,.cons _ l,e=>by
  let⟨y,h1,h2⟩:=gQ (i:=i) l (by simpa using e);exact⟨y,by simpa using h1,h2⟩
def paired_get':∀{a:List α}{b:List β}{i:Nat}{y:β},Paired F a b->b[i]?=!y->∃x,a[i]?=!x/\F x y
 |_,_,_,_,.nil,e=>by simp at e
 |_,_,0,_,.cons h _,e=>by simp at e;subst e;exact⟨_,rfl,h⟩
 |_,_,i+1,_,.cons _ l,e=>by
  let⟨y,h1,h2⟩:=paired_get' (i:=i) l (by simpa using e);exact⟨y,by simpa using h1,h2⟩
def oi{x:α}{y:β}(h:F x y):∀{a:List α}{b:List β}(i:Nat),Paired F a b->Paired F (a.set i x) (b.set i y)
 |_,_,_,.nil=>.nil
 |_,_,0,.cons _ l=>.cons h l
 |_,_,i+1,.cons q l=>.cons q (oi h i l)
def mF:∀{a:List α}{b:List β}(n:Nat),Paired F a b->Paired F (a.take n) (b.take n)
 |_,_,0,_=>.nil
 |_,_,_+1,.nil=>.nil
 |_,_,n+1,.cons h l=>.cons h (mF n l)
def mG:∀{a:List α}{b:List β}(n:Nat),Paired F a b->Paired F (a.drop n) (b.drop n)
 |_,_,0,h=>h
 |_,_,_+1,.nil=>.nil
 |_,_,n+1,.cons _ l=>mG n l
def IsL.app{K}(h:IsL K H ds xs)(q:IsL K H es ys):IsL K H (ds++es) (xs++ys):=.of (oh h.paired q.paired)
def IsL.get{K}{i:Nat}(h:IsL K H ds xs)(e:ds[i]?=!d):∃x,xs[i]?=!x/\Is K H d x:=gQ h.paired e
def IsL.get'{K}{i:Nat}(h:IsL K H ds xs)(e:xs[i]?=!x):∃d,ds[i]?=!d/\Is K H d x:=paired_get' h.paired e
def  msk(O:Ve)(H:Hp):Hp:=λb=>if O b=true then none else H b
def a9(h:msk O H b=!o):O b=false/\H b=!o:=by simp_all [Hp,msk]
def aN(h:O b=false):msk O H b=H b:=by unfold msk;rw[if_neg (by simp[h])]
def msk_le:Same (msk O H) H:=λ_ _ h=>(a9 h).2
def Same.msk(s:Same H H'):Same (msk O H) (msk O H'):=λb o h=>by
 let⟨h1,h2⟩:=a9 h;rw[aN h1];exact s b o h2
def jf(h:O a=true):msk O (aR H a o)=msk O H:=by
 funext b;unfold L2.msk;by_cases g:b=a
 .subst g;rw[if_pos h,if_pos h]
 .rw[ag g]
def nt(h:O a=false):msk O (aR H a o)=aR (msk O H) a o:=by
 funext b;by_cases g:b=a
 .subst g;rw[aN h,al,al]
 .rw[ag g];unfold L2.msk;rw[ag g]
def Same.new(h:H a=none):Same H (aR H a o):=λb u q=>by rw[ag (am q h)];exact q
def Is.full{K}(h:Is K (msk O H) d v):Is K H d v:=Is.mono msk_le d v h
def IsL.full{K}(h:IsL K (msk O H) d v):IsL K H d v:=IsL.mono msk_le d v h
abbrev Vv:=List (Option D)
abbrev _root_.U2:=Vv->Option Bool
abbrev _root_.U0:=Vv->Option D
abbrev _root_.UZ:=Vv->Option (List D)
def  Hid(o:Option HO):Prop:=(∃xs,o=!(.lst xs))\/(∃C dx fs,o=!(.ins C dx fs))\/∃kvs,o=!(.dK kvs)
def Hid.ne(h:Hid o):o≠none:=by grind [Hid]
def Hid.same(s:Same H H')(h:Hid (H b)):Hid (H' b):=by
 rcases h with⟨xs,e⟩|⟨C,dx,fs,e⟩|⟨kvs,e⟩
 .exact .inl ⟨xs,s _ _ e⟩
 .exact .inr (.inl ⟨C,dx,fs,s _ _ e⟩)
 .exact .inr (.inr ⟨kvs,s _ _ e⟩)
structure VE(K:Frag)(O:Ve)(σ:St)(H:Hp)(Y:Vv):Prop where
 lis:∀b,O b=true->Hid (H b)
 len:σ.length=Y.length
 sh:∀(i:Nat)(d:D),Y[i]?=!(!d)->∃v,σ[i]?=!(!v)/\Is K (msk O H) d v
section
variable{K:Frag}{O:Ve}{σ:St}{H H':Hp}{Y:Vv}
def VE.dom(E:VE K O σ H Y):∀b,O b=true->H b≠none:=λb h=>(E.lis b h).ne
def VE.grow(E:VE K O σ H Y)(s:Same H H'):VE K O σ H' Y where
 lis:=λb h=>(E.lis b h).same s
 len:=E.len
 sh:=λi d h=>let⟨v,e,q⟩:=E.sh i d h;⟨v,e,Is.mono s.msk d v q⟩
def gy(hd:∀b,O b=true->H b≠none)(h:H p=none):O p=false:=by grind
def VE.fresh(E:VE K O σ H Y)(h:H p=none):O p=false:=gy E.dom h
def get_set_some{α:Type}{l:List (Option α)}{x}{y}(h:(l.set i x)[j]?=!(!y)):(j=i/\x=!y)\/(j≠i/\l[j]?=!(!y)):=by grind
def qx{α:Type}{l:List (Option α)}{x}{y}(h:(l.set i x)[i]?=!y):i<l.length:=by grind
def VE.set(E:VE K O σ H Y){i:Nat}{d:D}{v:V}(h:Is K (msk O H) d v):VE K O (σ.set i (!v)) H (Y.set i (!d)) where
 lis:=E.lis
 len:=by simpa using E.len
 sh:=λj r q=>by
  rcases get_set_some q with⟨e,g⟩|⟨e,g⟩
  .cases g;subst e;have hi:j<σ.length:=by rw[E.len];exact qx q
   exact⟨v,by simp[hi],h⟩
  .let⟨l,p,o⟩:=E.sh j r g;exact⟨l,by rw[List.getElem?_set_ne (Ne.symm e)];exact p,o⟩
def wipe_iff{σ}{v:α}:(gx ks σ)[i]?=some (!v)↔σ[i]?=!(!v)/\i ∉ ks:=⟨n9 ks σ i v,λh=>tU ks σ i v h.1 h.2⟩
def VE.wiped(E:VE K O σ H Y)(ks:Vb):VE K O (gx ks σ) H (gx ks Y) where
 lis:=E.lis
 len:=by rw[kO,kO];exact E.len
 sh:=λi d q=>by
  let⟨j,g⟩:=wipe_iff.mp q;let⟨v,e,r⟩:=E.sh i d j;exact⟨v,wipe_iff.mpr ⟨e,g⟩,r⟩
end
def  tP(K:Frag)(O:Ve)(Y:Vv)(o:Vi):TE:=λσ H Q=>VE K O σ H Y/\∃d,o=!d/\∀v H',Same H H'->Is K (msk O H') d v->Q v H'
def  Mv(K:Frag)(O:Ve)(Y:Vv)(o:U7):TE:=λσ H Q=>VE K O σ H Y/\∃ds,o=!ds/\∀p xs H',Same H H'->H' p=none->IsL K (msk O H') ds xs->Q (.ref p) (aR H' p (.lst xs))
def  Po(K:Frag)(O:Ve)(Y:Vv)(o:Option Bool):TT:=λσ H Q=>VE K O σ H Y/\∃b,o=!b/\∀H',Same H H'->Q b H'
def  Uk(K:Frag)(O:Ve)(Y:Vv)(o:U7):TA:=λσ H Q=>VE K O σ H Y/\∃ds,o=!ds/\∀vs H',Same H H'->IsL K (msk O H') ds vs->Q vs H'
def  PP(X:Cx)(e:Expr)(f:U0):Prop:=∀O Y,PE X e (tP X.K O Y (f Y))
def  PF(X:Cx)(e:Expr)(f:UZ):Prop:=∀O Y,PE X e (Mv X.K O Y (f Y))
def  PQ(X:Cx)(e:Expr)(f:U2):Prop:=∀O Y,PT X e (Po X.K O Y (f Y))
def  PX(X:Cx)(es:Vh)(f:UZ):Prop:=∀O Y,PA X es (Uk X.K O Y (f Y))
noncomputable def  bx(Y:Vv)(i:Nat):Vi:=match Y[i]? with
 |some (!d)=>!d
 |_=>none
def qy(h:bx Y i=!d):Y[i]?=!(!d):=by
 unfold bx at h;grind
section
variable{X:Cx}{pos:Pos}
def oj(i:Nat)(l:X.N[i]?=!x:=by rfl)(j:tq X.env.scope x:=by first|exact Or.inl rfl|exact Or.inr (Or.inl rfl)|exact Or.inr (Or.inr rfl))(hd:(!7)=false:=by decide)(g:(!15)=false:=by decide):PP X (.Name x pos) (λY=>bx Y i):=λO Y=>(cM l j hd g).imp λσ H Q ⟨E,d,e,k⟩=>by
 let⟨v,o,e2⟩:=E.sh i d (qy e);exact⟨v,o,k v H (Same.refl _) e2⟩
def pp_int:PP X (.Constant (.int i) j pos) (λ_=>!(.int i)):=λO Y=>pe_int.imp λσ H Q ⟨E,d,e,k⟩=>by
 cases e;exact k _ H (Same.refl _) rfl
def pp_bl:PP X (.Constant (.bool b) j pos) (λ_=>!(.bl b)):=λO Y=>pe_bl.imp λσ H Q ⟨E,d,e,k⟩=>by
 cases e;exact k _ H (Same.refl _) rfl
def pp_non:PP X (.Constant .none j pos) (λ_=>some .non):=λO Y=>pe_non.imp λσ H Q ⟨E,d,e,k⟩=>by
 cases e;exact k _ H (Same.refl _) rfl
def pp_str:PP X (.Constant (.str x) j pos) (λ_=>!(.str x)):=λO Y=>pe_str.imp λσ H Q ⟨E,d,e,k⟩=>by
 cases e;exact k _ H (Same.refl _) rfl
def Mw(o:Gl X x)(l:X.mg x=none)(g:bootBuiltins x=!(.type n))(j:x≠"__name__":=by decide)(hd:(!7)=false:=by decide):PP X (.Name x pos) (λ_=>!(.ty n)):=
 λO Y=>(Ei (v:=.ty n) o l g rfl j hd).imp λσ H Q ⟨E,d,e,k⟩=>by
 cases e;exact k _ H (Same.refl _) rfl
def EF(j:Gl X x)(g:X.mg x=!u)(r:RelV v u)(h:∀H,Is X.K H d v)(hd:(!7)=false:=by decide):PP X (.Name x pos) (λ_=>!d):=
 λO Y=>(Eh j g r hd).imp λσ H Q ⟨E,l,e,k⟩=>by
 cases e;exact k _ H (Same.refl _) (h _)
def  jU(K:Frag)(r:R2)(g:D->D->Vi):Prop:=∀(O:Ve)(H:Hp)(x y:V)(dx dy d:D)(Q:VK),(∀b,O b=true->H b≠none)->Is K (msk O H) dx x->Is K (msk O H) dy y->g dx dy=!d->
 (∀v H',Same H H'->Is K (msk O H') d v->Q v H')->r x y H Q
def  aa(g:D->D->Vi)(fa fb:U0):U0:=λY=>(fa Y).bind λx=>(fb Y).bind λy=>g x y
def bind_some{α g:Type}{o}{f:α->Option g}{b}(h:o.bind f=!b):∃a,o=!a/\f a=!b:=by
 cases o with
 |none=>cases h
 |some a=>exact⟨a,rfl,h⟩
abbrev _root_.VL:=@bind_some
def nu(J:jU X.K r g)(h:tP X.K O Y (aa g fa T Y) σ H Q):
  L8 r (tP X.K O Y (fa Y)) (tP X.K O Y (T Y)) σ H Q:=by
 let⟨E,d,e,k⟩:=h
 let⟨dx,e1,e⟩:=VL e
 let⟨o,e2,U⟩:=VL e
 refine⟨E,dx,e1,λx H1 l I=>⟨E.grow l,o,e2,λy H2 j C=>?_⟩⟩
 exact J O H2 x y dx o d Q (E.grow (l.trans j)).dom (Is.mono j.msk dx x I) C U λv H' p t=>k v H' (l.trans (j.trans p)) t
def om(l:OpR X (binaryOp op) r)(j:jU X.K r g)(p:PP X a fa)(o:PP X b t):PP X (.BinOp a op b pos) (aa g fa t):=
 λO Y=>(Hr l (p O Y) (o O Y)).imp λσ H Q h=>nu j h
def pp_cmp(l:OpR X (compareOp op) r)(j:jU X.K r g)(t:PP X a fa)(p:PP X b C)(o:behindInMarks op b=false):PP X (.Compare a [op] [b] pos) (aa g fa C):=
 λO Y=>(Ek l (t O Y) (p O Y) o).imp λσ H Q h=>nu j h
noncomputable def  D.asB:D->Option Bool
 |.bl b=>!b
 |_=>none
def asB_some{d:D}(h:d.asB=!b):d=.bl b:=by
 cases d<;>first|(cases h;rfl)|cases h
def  ai(f:U0):U2:=λY=>(f Y).bind D.asB
def pq_cmp(l:OpR X (compareOp op) r)(j:jU X.K r g)(t:PP X a fa)(p:PP X b C)(o:behindInMarks op b=false):PQ X (.Compare a [op] [b] pos) (ai (aa g fa C)):=
 λO Y=>(El l (t O Y) (p O Y) o).imp λσ H Q h=>by
 let⟨E,b,e,k⟩:=h
 let⟨d,I,e2⟩:=VL e
 cases asB_some e2
 refine nu j ⟨E,.bl b,I,λv H' s i=>?_⟩
 cases(i)
 exact⟨b,rfl,k H' s⟩
def  ez(g g':D->D->Vi)(fa fb fc:U0):U0:=λY=>(fa Y).bind λx=>(fb Y).bind λy=>(g x y).bind λz=>z.asB.bind λk=>if k=true then(fc Y).bind λw=>g' y w else !(.bl false)
def qz(hr:jU X.K r g)(C:jU X.K r' g')(h:tP X.K O Y (ez g g' fa fb fc Y) σ H Q):
  vD r r' (tP X.K O Y (fa Y)) (tP X.K O Y (fb Y)) (tP X.K O Y (fc Y)) σ H Q:=by
 let⟨E,d,ea,k⟩:=h
 let⟨dx,e1,U⟩:=VL ea
 let⟨p,e2,T⟩:=VL U
 let⟨dz,e3,J⟩:=VL T
 let⟨b,e4,e⟩:=VL J
 clear ea U T J
 cases asB_some e4
 refine⟨E,dx,e1,λx H1 l i1=>⟨E.grow l,p,e2,λy H2 j I=>?_⟩⟩
 refine hr O H2 x y dx p _ _ (E.grow (l.trans j)).dom (Is.mono j.msk dx x i1) I e3 λv H3 o i3=>⟨b,i3,?_⟩
 cases b with
 |true=>
  let⟨dw,e5,e6⟩:=VL e;refine⟨E.grow (l.trans (j.trans o)),dw,e5,λw' H4 t i4=>?_⟩;exact C O H4 y w' p dw d Q (E.grow (l.trans (j.trans (o.trans t)))).dom (Is.mono (o.trans t).msk p y I) i4 e6 λv' H5 s5 i5=>k v' H5 (l.trans (j.trans (o.trans (t.trans s5)))) i5
 |false=>
  cases e;exact k _ H3 (l.trans (j.trans o)) rfl
def A5(ho:OpR X (compareOp op) r)(ho':OpR X (compareOp op') r')(hr:jU X.K r g)(hr':jU X.K r' g')(ha:PP X a fa)(hb:PP X b fb)(hc:PP X c fc)(hm:lastMarks [op,op'] [b,c]=false:=by with_unfolding_all rfl):PP X (.Compare a [op,op'] [b,c] pos) (ez g g' fa fb fc):=λO Y=>(AD ho ho' (ha O Y) (hb O Y) (hc O Y) hm).imp λσ H Q h=>qz hr hr' h
def A6(ho:OpR X (compareOp op) r)(ho':OpR X (compareOp op') r')(hr:jU X.K r g)(hr':jU X.K r' g')(ha:PP X a fa)(hb:PP X b fb)(hc:PP X c fc)(hm:lastMarks [op,op'] [b,c]=false:=by with_unfolding_all rfl):PQ X (.Compare a [op,op'] [b,c] pos) (ai (ez g g' fa fb fc)):=λO Y=>(AE ho ho' (ha O Y) (hb O Y) (hc O Y) hm).imp λσ H Q h=>by
 let⟨E,b,e,k⟩:=h;let⟨d,e1,e2⟩:=VL e;cases asB_some e2;refine qz hr hr' ⟨E,.bl b,e1,λv H' s i=>?_⟩;cases(i);grind
def  Mx:D->D->Vi
 |.int i,.int j=>!(.int (i+j))
 |_,_=>none
def  cb:D->D->Vi
 |.int i,.int j=>!(.int (i-j))
 |_,_=>none
instance (i j:Int):Decidable (CMul i j):=Classical.propDecidable _
def  EG(_ j:Int):Prop:=0<j/\j.natAbs.log2<9000
instance (i j:Int):Decidable (EG i j):=Classical.propDecidable _
def EH:OpR X (binaryOp .FloorDiv) (rI EG λi j=>.int (i/j)):=Pm λi j _ _ _ _ _ g q=>by
 have h1:=g.1;exact floordiv_int (!1) (by rw[Int.fdiv_eq_ediv_of_nonneg i (!1)];exact q) (.inl (PyProof.noPylong_of_log2 g.2))
instance (i j:Int):Decidable (AB i j):=Classical.propDecidable _
noncomputable def  aL:D->D->Vi
 |.int i,.int j=>if CMul i j then !(.int (i*j))else none
 |_,_=>none
noncomputable def  cO:D->D->Vi
 |.int i,.int j=>if EG i j then !(.int (i/j))else none
 |_,_=>none
noncomputable def  aU:D->D->Vi
 |.int i,.int j=>if 0<j then !(.int (i%j))else none
 |_,_=>none
noncomputable def  lP:D->D->Vi
 |.int i,.int j=>if AB i j then !(.int (i^j.toNat))else none
 |_,_=>none
noncomputable def  a8:Vg->Option (Vd)
 |[]=>![]
 |.int i::ds=>(a8 ds).bind λxs=>!(i::xs)
 |_::_=>none
def  QI:D->D->Vi
 |.int i,.int j=>!(.bl (decide (i<j)))
 |_,_=>none
def  QJ:D->D->Vi
 |.tup ds,.tup es=>(a8 ds).bind λxs=>(a8 es).bind λys=>!(.bl (HT.lexLt xs ys))
 |_,_=>none
def  oq(x y:D):Vi:=match QI x y with
 |some d=>!d
 |none=>QJ x y
def  ot:D->D->Vi
 |.int i,.int j=>!(.bl (decide (i<=j)))
 |_,_=>none
def  QK:D->D->Vi
 |.int i,.int j=>!(.bl (decide (j<i)))
 |_,_=>none
def  QL:D->D->Vi
 |.tup ds,.tup es=>(a8 ds).bind λxs=>(a8 es).bind λys=>!(.bl (HT.lexLt ys xs))
 |_,_=>none
def  nw(x y:D):Vi:=match QK x y with
 |some d=>!d
 |none=>QL x y
def  LF:D->D->Vi
 |.int i,.int j=>!(.bl (decide (j<=i)))
 |_,_=>none
def xz{K}{g:Int->Int->Int}(p:∀x y d,f x y=!d->∃i j,x=.int i/\y=.int j/\d=.int (g i j)):jU K (tu λi j=>.int (g i j)) f:=λO H x y dx r d Q _ o l e k=>by
 let⟨i,j,rfl,rfl,rfl⟩:=p dx r d e;exact⟨i,j,o,l,k _ H (Same.refl _) rfl⟩
def kQ{K}{g:Int->Int->Bool}(p:∀x y d,f x y=!d->∃i j,x=.int i/\y=.int j/\d=.bl (g i j)):jU K (tu λi j=>.bl (g i j)) f:=λO H x y dx r d Q _ o l e k=>by
 let⟨i,j,rfl,rfl,rfl⟩:=p dx r d e;exact⟨i,j,o,l,k _ H (Same.refl _) rfl⟩
def ny{K}{g:Int->Int->Int}(p:∀x y d,f x y=!d->∃i j,x=.int i/\y=.int j/\C i j/\d=.int (g i j)):jU K (rI C λi j=>.int (g i j)) f:=λO H x y dx t d Q _ o l e k=>by
 let⟨i,j,rfl,rfl,r,rfl⟩:=p dx t d e;exact⟨i,j,o,l,r,k _ H (Same.refl _) rfl⟩
def f9{f:Int->Int->Vi}{x y d:D}(h:(match x,y with|.int i,.int j=>f i j|_,_=>none)=!d):∃i j,x=.int i/\y=.int j/\f i j=!d:=by grind
def My{K}:jU K (tu λi j=>.int (i+j)) Mx:=xz λx y d e=>by
 let⟨i,j,h1,h2,e⟩:=f9 e;cases e;exact⟨_,_,h1,h2,rfl⟩
def Mz{K}:jU K (tu λi j=>.int (i-j)) cb:=xz λx y d e=>by
 let⟨i,j,h1,h2,e⟩:=f9 e;cases e;exact⟨_,_,h1,h2,rfl⟩
def ay{α:Type}[Decidable c]{a b:α}(h:(if c then !a else none)=!b):c/\a=b:=by grind
def MA{K}:jU K (rI CMul λi j=>.int (i*j)) aL:=ny λx y d e=>by
 let⟨i,j,h1,h2,e⟩:=f9 e;let⟨c,e⟩:=ay e;cases e;exact⟨_,_,h1,h2,c,rfl⟩
def MB{K}:jU K (rI EG λi j=>.int (i/j)) cO:=ny λx y d e=>by
 let⟨i,j,h1,h2,e⟩:=f9 e;let⟨c,e⟩:=ay e;cases e;exact⟨_,_,h1,h2,c,rfl⟩
def MC{K}:jU K (rI (λ_ j=>0<j) λi j=>.int (i%j)) aU:=ny λx y d e=>by
 let⟨i,j,h1,h2,e⟩:=f9 e;let⟨c,e⟩:=ay e;cases e;exact⟨_,_,h1,h2,c,rfl⟩
def MD{K:Frag}:jU K (rI AB λi j=>.int (i^j.toNat)) lP:=ny λx y d e=>by
 let⟨i,j,h1,h2,e⟩:=f9 (f:=λi j=>if AB i j then !(.int (i^j.toNat))else none) e;let⟨c,e⟩:=ay e;cases e;exact⟨_,_,h1,h2,c,rfl⟩
def r_ltI{K}:jU K (tu λi j=>.bl (decide (i<j))) QI:=kQ λx y d e=>by
 let⟨i,j,h1,h2,e⟩:=f9 e;cases e;exact⟨_,_,h1,h2,rfl⟩
def zi{K}:jU K (tu λi j=>.bl (decide (i<=j))) ot:=kQ λx y d e=>by
 let⟨i,j,h1,h2,e⟩:=f9 e;cases e;exact⟨_,_,h1,h2,rfl⟩
def r_gtI{K}:jU K (tu λi j=>.bl (decide (j<i))) QK:=kQ λx y d e=>by
 let⟨i,j,h1,h2,e⟩:=f9 e;cases e;exact⟨_,_,h1,h2,rfl⟩
def ME{K:Frag}:jU K (tu λi j=>.bl (decide (j<=i))) LF:=kQ λx y d e=>by
 let⟨i,j,h1,h2,e⟩:=f9 e;cases e;exact⟨_,_,h1,h2,rfl⟩
def asInts_is{K}:∀{ds:Vg}{ns:Vd}{xs:List V},a8 ds=!ns->IsL K H ds xs->xs=ns.map V.int
 |[],ns,xs,e,h=>by cases e;exact h
 |.int i::ds,ns,xs,e,⟨x,r,e1,h1,l⟩=>by
  let⟨ms,e2,e3⟩:=VL (show(a8 ds).bind (λxs=>!(i::xs))=some ns from e);cases e3;cases(show x=.int i from h1);rw[e1,asInts_is e2 l];rfl
def MF{K}:jU K (λx y H Q=>tu (λi j=>.bl (decide (i<j))) x y H Q\/Mm K x y H Q) oq:=λO H x y dx g d Q hd r p e k=>by
 unfold oq at e;cases h:QI dx g with
 |some z=>rw[h]at e;cases e;exact .inl (r_ltI O H x y dx g _ Q hd r p h k)
 |none=>
  rw[h]at e;have e:QJ dx g=!d:=e;unfold QJ at e;split at e
  .let⟨t,T,e⟩:=VL e;let⟨C,e2,e⟩:=VL e;cases e;let⟨a,xs,rfl,o,J⟩:=r;let⟨b,ys,rfl,l,I⟩:=p;rw[asInts_is T J]at o;rw[asInts_is e2 I]at l;exact .inr ⟨a,b,t,C,rfl,rfl,msk_le.seqT o,msk_le.seqT l,k _ H (Same.refl _) rfl⟩
  .cases e
def MG{K}:jU K (λx y H Q=>tu (λi j=>.bl (decide (j<i))) x y H Q\/Mu K x y H Q) nw:=λO H x y dx g d Q hd r p e k=>by
 unfold nw at e;cases h:QK dx g with
 |some z=>rw[h]at e;cases e;exact .inl (r_gtI O H x y dx g _ Q hd r p h k)
 |none=>
  rw[h]at e;have e:QL dx g=!d:=e;unfold QL at e;split at e
  .let⟨t,T,e⟩:=VL e;let⟨C,e2,e⟩:=VL e;cases e;let⟨a,xs,rfl,o,J⟩:=r;let⟨b,ys,rfl,l,I⟩:=p;rw[asInts_is T J]at o;rw[asInts_is e2 I]at l;exact .inr ⟨a,b,t,C,rfl,rfl,msk_le.seqT o,msk_le.seqT l,k _ H (Same.refl _) rfl⟩
  .cases e
def EI(j:PP X a fa)(g:PP X b l):PP X (.BinOp a .Add b pos) (aa Mx fa l):=om IE My j g
def IT(j:PP X a fa)(g:PP X b l):PP X (.BinOp a .Sub b pos) (aa cb fa l):=om IF Mz j g
def IU(j:PP X a fa)(g:PP X b l):PP X (.BinOp a .Mult b pos) (aa aL fa l):=om IG MA j g
def IV(j:PP X a fa)(g:PP X b l):PP X (.BinOp a .FloorDiv b pos) (aa cO fa l):=om EH MB j g
def IW(j:PP X a fa)(g:PP X b l):PP X (.BinOp a .Mod b pos) (aa aU fa l):=om IH MC j g
def IX{a b:Expr}{fa fb}(ha:PP X a fa)(hb:PP X b fb):PP X (.BinOp a .Pow b pos) (aa lP fa fb):=om II MD ha hb
def MH(g:X.A.units<cLine)(l:PP X a fa)(j:PP X b o):PP X (.Compare a [.Lt] [b] pos) (aa oq fa o):=pp_cmp (op_lt.or (AT g)) MF l j (ek _)
def MI(j:PP X a fa)(g:PP X b l):PP X (.Compare a [.LtE] [b] pos) (aa ot fa l):=pp_cmp qm zi j g (ek _)
def MJ(g:X.A.units<cLine)(l:PP X a fa)(j:PP X b o):PP X (.Compare a [.Gt] [b] pos) (aa nw fa o):=pp_cmp (op_gt.or (A4 g)) MG l j (ek _)
def MK{a b:Expr}{fa fb}(ha:PP X a fa)(hb:PP X b fb):PP X (.Compare a [.GtE] [b] pos) (aa LF fa fb):=pp_cmp Hs ME ha hb (ek _)
def ML(g:X.A.units<cLine)(l:PP X a fa)(j:PP X b o):PQ X (.Compare a [.Lt] [b] pos) (ai (aa oq fa o)):=pq_cmp (op_lt.or (AT g)) MF l j (ek _)
def MM(j:PP X a fa)(g:PP X b l):PQ X (.Compare a [.LtE] [b] pos) (ai (aa ot fa l)):=pq_cmp qm zi j g (ek _)
def MN(g:X.A.units<cLine)(l:PP X a fa)(j:PP X b o):PQ X (.Compare a [.Gt] [b] pos) (ai (aa nw fa o)):=pq_cmp (op_gt.or (A4 g)) MG l j (ek _)
def MO{a b:Expr}{fa fb}(ha:PP X a fa)(hb:PP X b fb):PQ X (.Compare a [.GtE] [b] pos) (ai (aa LF fa fb)):=pq_cmp Hs ME ha hb (ek _)
def pp_lele(ha:PP X a fa)(hb:PP X b fb)(hc:PP X c fc)(hm:lastMarks [.LtE,.LtE] [b,c]=false:=by with_unfolding_all rfl):PP X (.Compare a [.LtE,.LtE] [b,c] pos) (ez ot ot fa fb fc):=A5 qm qm zi zi ha hb hc hm
def pq_lele(ha:PP X a fa)(hb:PP X b fb)(hc:PP X c fc)(hm:lastMarks [.LtE,.LtE] [b,c]=false:=by with_unfolding_all rfl):PQ X (.Compare a [.LtE,.LtE] [b,c] pos) (ai (ez ot ot fa fb fc)):=A6 qm qm zi zi ha hb hc hm
def  jA(fa fb:U0):U0:=λY=>(fa Y).bind λx=>x.asB.bind λc=>if c=true then fb Y else !(.bl false)
def  MP(fa fb:U0):U0:=λY=>(fa Y).bind λx=>x.asB.bind λc=>if c=true then !(.bl true)else fb Y
def  EJ(fa:U0):U0:=λY=>(fa Y).bind λx=>x.asB.bind λc=>!(.bl (not c))
def  tZ(fa fb:U2):U2:=λY=>(fa Y).bind λc=>if c=true then fb Y else !false
def  t4(fa fb:U2):U2:=λY=>(fa Y).bind λc=>if c=true then !true else fb Y
def  cP(fa:U2):U2:=λY=>(fa Y).map (not ·)
def  EK(fc:U2)(fa fb:U0):U0:=λY=>(fc Y).bind λc=>if c=true then fa Y else fb Y
variable{a b c:Expr}{rest:Vh}
def IY(h:PP X a f):PP X (.BoolOp op [a] pos) f:=λO Y=>Iw (h O Y)
def IZ(C:PP X a fa)(t:PP X (.BoolOp .And (b::rest) pos) I):PP X (.BoolOp .And (a::b::rest) pos) (jA fa I):=λO Y=>(Ix (C O Y) (t O Y)).imp λσ H Q ⟨E,d,e,k⟩=>by
 let⟨dx,T,j⟩:=VL e;let⟨c,e2,J⟩:=VL j;clear e j;have e:=J;cases asB_some e2;refine⟨E,_,T,λv H1 g r=>⟨c,r,?_⟩⟩;cases c with
 |true=>rw[if_pos rfl]at e⊢;exact⟨E.grow g,d,e,λl H2 o p=>k l H2 (g.trans o) p⟩
 |false=>rw[if_neg Bool.false_ne_true]at e⊢;cases e;exact k _ H1 g rfl
def MQ{fa fb}(ha:PP X a fa)(hb:PP X (.BoolOp .Or (b::rest) pos) fb):PP X (.BoolOp .Or (a::b::rest) pos) (MP fa fb):=λO Y=>(LY (ha O Y) (hb O Y)).imp λσ H Q ⟨E,d,e,k⟩=>by
 let⟨dx,e1,eb⟩:=VL e;let⟨c,e2,ec⟩:=VL eb;clear e eb;have e:=ec;clear ec;cases asB_some e2;refine⟨E,_,e1,λv H1 s1 i1=>⟨c,i1,?_⟩⟩;cases c with
 |true=>rw[if_pos rfl]at e⊢;cases e;exact k _ H1 s1 rfl
 |false=>rw[if_neg Bool.false_ne_true]at e⊢;exact⟨E.grow s1,d,e,λv' H2 s2 i2=>k v' H2 (s1.trans s2) i2⟩
def I0(l:PP X a fa):PP X (.UnaryOp .Not a pos) (EJ fa):=λO Y=>(Iy (l O Y)).imp λσ H Q ⟨E,d,e,k⟩=>by
 let⟨dx,r,p⟩:=VL e;let⟨c,e2,o⟩:=VL p;have e:=o;cases asB_some e2;cases e;exact⟨E,_,r,λv H1 g j=>⟨c,j,k _ H1 g rfl⟩⟩
def  PWQ(X:Cx)(e:Expr)(f:U2):Prop:=∀O Y,PW X e (Po X.K O Y (f Y))
def PWQ.pq(h:PWQ X a f):PQ X a f:=λO Y=>(h O Y).pt
def PW.imp(h:PW X e t)(k:∀σ H Q,j σ H Q->t σ H Q):PW X e j:=λg pins s σ H Q I q=>h g pins s σ H Q I (k _ _ _ q)
def pw_and1D(h:PQ X a f):PWQ X (.BoolOp .And [a] pos) f:=λO Y=>pw_and1 (h O Y)
def pw_or1D(h:PQ X a f):PWQ X (.BoolOp .Or [a] pos) f:=λO Y=>pw_or1 (h O Y)
def pw_andD(o:PQ X a fa)(l:PWQ X (.BoolOp .And (b::rest) pos) p):PWQ X (.BoolOp .And (a::b::rest) pos) (tZ fa p):=λO Y=>(pw_and (o O Y) (l O Y)).imp λσ H Q ⟨E,d,e,k⟩=>by
 let⟨c,t,r⟩:=VL e;have e:=r;refine⟨E,c,t,λH1 g=>?_⟩;cases c with
 |true=>rw[if_pos rfl]at e⊢;exact⟨E.grow g,d,e,λH2 j=>k H2 (g.trans j)⟩
 |false=>rw[if_neg Bool.false_ne_true]at e⊢;cases e;exact k H1 g
def pw_orD(o:PQ X a fa)(l:PWQ X (.BoolOp .Or (b::rest) pos) p):PWQ X (.BoolOp .Or (a::b::rest) pos) (t4 fa p):=λO Y=>(pw_or (o O Y) (l O Y)).imp λσ H Q ⟨E,d,e,k⟩=>by
 let⟨c,t,r⟩:=VL e;have e:=r;refine⟨E,c,t,λH1 g=>?_⟩;cases c with
 |true=>rw[if_pos rfl]at e⊢;cases e;exact k H1 g
 |false=>rw[if_neg Bool.false_ne_true]at e⊢;exact⟨E.grow g,d,e,λH2 j=>k H2 (g.trans j)⟩
def Ja(j:PQ X a fa):PQ X (.UnaryOp .Not a pos) (cP fa):=λO Y=>(Iv (j O Y)).imp λσ H Q ⟨E,d,e,k⟩=>by
 unfold cP at e;cases q:fa Y with
 |none=>rw[q]at e;cases e
 |some c=>rw[q]at e;cases e;exact⟨E,c,rfl,λH1 g=>k H1 g⟩
def MR(p:PQ X c C)(t:PP X a fa)(r:PP X b I):PP X (.IfExp c a b pos) (EK C fa I):=λO Y=>(tK (p O Y) (t O Y) (r O Y)).imp λσ H Q ⟨E,d,e,k⟩=>by
 let⟨c,T,J⟩:=VL e;have e:=J;refine⟨E,c,T,λH1 g=>?_⟩;cases c with
 |true=>rw[if_pos rfl]at e⊢;exact⟨E.grow g,d,e,λj H2 l o=>k j H2 (g.trans l) o⟩
 |false=>rw[if_neg Bool.false_ne_true]at e⊢;exact⟨E.grow g,d,e,λj H2 l o=>k j H2 (g.trans l) o⟩
noncomputable def  t5:D->Option Bool
 |.bl b=>!b
 |.int i=>!(i !=0)
 |.non=>!false
 |.lst ds=>!(not ds.isEmpty)
 |.tup ds=>!(not ds.isEmpty)
 |_=>none
def mH{α g:Type}{a:List α}{b:List g}(h:a.length=b.length):a.isEmpty=b.isEmpty:=by
 cases a<;>cases b<;>first|rfl|simp at h
def pq_val(h:PP X a f)(o:∀whole,isTrue a X.env whole=(do let v<-whole;standAt a.pos;holding [v] (truthy v)):=by intro _;rfl):PQ X a (λY=>(f Y).bind t5):=λO Y=>(AF (h O Y) o).imp λσ H Q ⟨E,b,e,k⟩=>by
 let⟨d,r,e⟩:=VL e;refine⟨E,d,r,λv H1 j g=>⟨b,?_,k H1 j⟩⟩;cases d with
 |bl c=>cases e;cases(g);rfl
 |int i=>cases e;cases(g);rfl
 |non=>cases e;cases(g);rfl
 |lst ds=>
  cases e;let⟨p,xs,rfl,q,l⟩:=g;exact .inl ⟨xs,msk_le.seq q,by rw[mH l.len]⟩
 |tup ds=>
  cases e;let⟨p,xs,rfl,q,l⟩:=g;exact .inr (.inl ⟨xs,msk_le.seqT q,by rw[mH l.len]⟩)
 |_=>cases e
end
noncomputable def  big:Nat:=16777216
def kb:sizeLine=big:=sizeLine_eq
section
variable{X:Cx}{pos:Pos}{a b c e:Expr}{es:Vh}
def vQ:PX X [] (λ_=>![]):=λO Y=>pa_nil.imp λσ H Q ⟨E,ds,e,k⟩=>by
 cases e;exact k [] H (Same.refl _) rfl
noncomputable def  ac(f:U0)(g:UZ):UZ:=λY=>(f Y).bind λd=>(g Y).bind λr=>!(d::r)
def px_cons(h:PP X e f)(I:PX X es g)(C:starEach (e::es) X.env=(false,eval e X.env)::starEach es X.env:=by rfl):PX X (e::es) (ac f g):=
 λO Y=>(dG (h O Y) (I O Y) C).imp λσ H Q ⟨E,ds,q,k⟩=>by
 let⟨d,J,q⟩:=VL q
 let⟨r,e2,q⟩:=VL q
 cases q
 exact⟨E,d,J,λv H1 l t=>⟨E.grow l,r,e2,λo H2 j p=>k _ H2 (l.trans j) ⟨v,o,rfl,Is.mono j.msk d v t,p⟩⟩⟩
def  bM(o:U7):U7:=o.bind λds=>if ds.length<big then !ds else none
def dt(h:bM o=!ds):o=!ds/\ds.length<sizeLine:=by
 let⟨d,g,e2⟩:=VL h;let⟨h1,h2⟩:=ay e2;subst h2;exact⟨g,by rw[kb];exact h1⟩
def A7{x1}(h:PX X es g):PP X (.Tuple es x1 pos) (λY=>(bM (g Y)).bind λds=>!(.tup ds)):=λO Y=>(AL (h O Y)).imp λσ H Q ⟨E,d,q,k⟩=>by
 let⟨ds,z,C⟩:=VL q;cases C;let⟨I,e2⟩:=dt z;refine⟨E,ds,I,λr H1 t l=>⟨by rw[<-l.len];exact VF e2,λp j=>?_⟩⟩;have o:=(E.grow t).fresh j;have le:Same (msk O H1) (msk O (aR H1 p (.tup r))):=by rw[nt o];exact Same.new (by rw[aN o];exact j)
 exact k _ _ (t.trans (Same.new j)) ⟨p,r,rfl,.of (by rw[aN o,al]),IsL.mono le _ _ l⟩
def Jb(h:PX X es g):PF X (.List es pos) (λY=>bM (g Y)):=λO Y=>(AM (h O Y)).imp λσ H Q ⟨E,ds,q,k⟩=>by
 let⟨t,e2⟩:=dt q;exact⟨E,ds,t,λj H1 o l=>⟨by rw[<-l.len];exact VF e2,λp r=>k p j H1 o r l⟩⟩
def  Jc:D->Option jz
 |.int i=>!(.inl i)
 |.str x=>!(.inr x)
 |_=>none
def xA{K}(e:Jc d=!k)(h:Is K H d v):v=kV k:=by
 cases d with
 |int i=>cases e;exact h
 |str x=>cases e;exact h
 |_=>cases e
noncomputable def  zj:List jz->Vg->jz->Vi
 |k::ks,d::ds,j=>if k=j then !d else zj ks ds j
 |_,_,_=>none
def valD_val{K}:∀{kvs:List (jz×V)}{ds:Vg},IsL K H ds (kvs.map (·.2))->(zj (kvs.map (·.1)) ds j=none/\rD kvs j=none)\/∃d v,zj (kvs.map (·.1)) ds j=!d/\rD kvs j=!v/\Is K H d v
 |[],ds,_=>.inl ⟨by cases ds<;>rfl,rfl⟩
 |p::r,[],h=>by cases(show(p::r).map (·.2)=[]from h)
 |p::r,d::ds,⟨x,t,z,h,l⟩=>by
  have z':p.2::r.map (·.2)=x::t:=z;cases z';show((if p.1=j then !d else zj (r.map (·.1)) ds j)=none/\_)\/∃d' v,(if p.1=j then !d else zj (r.map (·.1)) ds j)=!d'/\_;by_cases e:p.1=j
  .rw[if_pos e,tW e];exact .inr ⟨d,p.2,rfl,rfl,h⟩
  .rw[if_neg e,tX e];exact valD_val l
def  MS:R2:=λx y H Q=>∃p kvs k v,x=.ref p/\y=kV k/\H p=!(.dK kvs)/\rD kvs k=!v/\Q v H
def EL:IxR X MS:=by
 intro value slice pins s σ H x y v u Q I rx o h t;let⟨p,kvs,k,z,rfl,rfl,e,l,q⟩:=h;cases rx;let⟨_,hd,J,rel,j⟩:=Hz I.hok e;let⟨C,r,g⟩:=RelO.some_of (by rw[<-l];exact rel.val k);exact tail_any j.typeIs PySem.F.slot_dict_getitem.lookup (wpAny_getItem_of (Hy o) j.mapOf r ⟨z,H,I.tok _,g,q⟩) t
def  ak:D->D->Vi
 |.lst ds,.int i=>nX ds i
 |.tup ds,.int i=>nX ds i
 |.dct ks ds,e=>(Jc e).bind (zj ks ds)
 |_,_=>none
def rE{xs:List g}{d:α}(l:ds.length=xs.length)(h:nX ds i=!d):∃j:Nat,ds[j]?=!d/\nX xs i=xs[j]?:=by
 let⟨j,o,e2⟩:=VL h;grind [nX]
def QM{K}:jU K (λx y H Q=>SM K x y H Q\/MS x y H Q) ak:=λO H x y dx I d Q hd t r e k=>by
 cases dx with
 |lst ds=>
  cases I with
  |int i=>
   let⟨p,xs,rfl,q,l⟩:=t;cases(show y=.int i from r);let⟨j,o,e2⟩:=rE l.len (e);let⟨v,C,g⟩:=l.get o;exact .inl (.inl ⟨p,xs,i,v,rfl,rfl,msk_le.seq q,e2.trans C,k v H (Same.refl _) g⟩)
  |_=>cases e
 |tup ds=>
  cases I with
  |int i=>
   let⟨p,xs,rfl,q,l⟩:=t;cases(show y=.int i from r);let⟨j,o,e2⟩:=rE l.len (e);let⟨v,C,g⟩:=l.get o;exact .inl (.inr (.inl ⟨p,xs,i,v,rfl,rfl,msk_le.seqT q,e2.trans C,k v H (Same.refl _) g⟩))
  |_=>cases e
 |dct ks ds=>
  let⟨p,kvs,rfl,q,rfl,l⟩:=t;let⟨j,o,e2⟩:=VL (e);rcases valD_val l with⟨z,_⟩|⟨T,v,z,J,g⟩
  .rw[z]at e2;cases e2
  .rw[z]at e2;cases e2;exact .inr ⟨p,kvs,j,v,rfl,xA o r,msk_le _ _ q,J,k v H (Same.refl _) g⟩
 |_=>cases e
def pp_ix(l:PP X a fa)(j:PP X b o)(g:nr b:=by exactλ_ _=>rfl):PP X (.Subscript a b pos) (aa ak fa o):=λO Y=>(Hw (ix_seq.or EL) (l O Y) (j O Y) g).imp λσ H Q h=>nu QM h
def  EM(K:Frag)(r:List V->Hp->VK->Prop)(g:Vg->Vi):Prop:=∀(O:Ve)(H:Hp)(xs:List V)(ds:Vg)(d:D)(Q:VK),(∀b,O b=true->H b≠none)->IsL K (msk O H) ds xs->g ds=!d->
 (∀v H',Same H H'->Is K (msk O H') d v->Q v H')->r xs H Q
variable{x:Str}{p:Pos}{bid T:String}{r:List V->Hp->VK->Prop}{g:Vg->Vi}{fa:UZ}
def pp_callB(hc:fC X (.builtin bid) r)(U:EM X.K r g)(hg:Gl X x)(hm:X.mg x=none)(T:bootBuiltins x=!(.builtin bid))(ha:PX X (e::es) fa)(hn:x≠"__name__":=by decide)(o:(!7)=false:=by decide)
  (he:starEach (e::es) X.env=(false,eval e X.env)::starEach es X.env:=by rfl) (j:(!14).any (·.1)=false:=by rfl):PP X (!18) (λY=>(fa Y).bind g):=
 λO Y=>(nV hc hg hm T (ha O Y) hn o he j).imp λσ H Q ⟨E,d,q,k⟩=>by
 let⟨ds,e1,q⟩:=VL q
 exact⟨E,ds,e1,λC H1 t l=>U O H1 C ds d Q (E.grow t).dom l q λv H2 I J=>k v H2 (t.trans I) J⟩
def pp_callTy(hc:fC X (.type T) r)(hr:EM X.K r g)(hg:Gl X x)(hm:X.mg x=none)(U:bootBuiltins x=!(.type T))(ha:PX X (e::es) fa)(hn:x≠"__name__":=by decide)(o:(!7)=false:=by decide)
  (he:starEach (e::es) X.env=(false,eval e X.env)::starEach es X.env:=by rfl) (j:(!14).any (·.1)=false:=by rfl):PP X (!18) (λY=>(fa Y).bind g):=
 λO Y=>(qu hc hg hm U (ha O Y) hn o he j).imp λσ H Q ⟨E,d,q,k⟩=>by
 let⟨ds,e1,q⟩:=VL q
 exact⟨E,ds,e1,λC H1 t l=>hr O H1 C ds d Q (E.grow t).dom l q λv H2 I J=>k v H2 (t.trans I) J⟩
noncomputable def  tw{α:Type}(g:D->Option α)(ds:Vg):Option α:=match ds with
 |[d]=>g d
 |_=>none
noncomputable def  LG{α:Type}(g:D->D->Option α)(ds:Vg):Option α:=match ds with
 |[c,d]=>g c d
 |_=>none
def bc{g}{r:α}(h:tw g ds=!r):∃d,ds=[d]/\g d=!r:=by
 cases ds with
 |nil=>cases h
 |cons d t=>
  cases t with
  |nil=>exact⟨d,rfl,h⟩
  |cons _ _=>cases h
def t6{g}{r:α}(h:LG g ds=!r):∃c d,ds=[c,d]/\g c d=!r:=by
 cases ds with
 |nil=>cases h
 |cons c t=>
  cases t with
  |nil=>cases h
  |cons d u=>
   cases u with
   |nil=>exact⟨c,d,rfl,h⟩
   |cons _ _=>cases h
def t9{K}(l:IsL K H [d] xs):∃v,xs=[v]/\Is K H d v:=by simp_all [Hp,IsL,Is]
def QN{K}{c d}(l:IsL K H [c,d] xs):∃u v,xs=[u,v]/\Is K H c u/\Is K H d v:=by
 let⟨u,r,z,h,g⟩:=l;let⟨v,j,h2⟩:=t9 g;grind
def  seqD:D->U7
 |.lst ds=>!ds
 |.tup ds=>!ds
 |_=>none
def gR{K}(e:seqD d=!ds)(h:Is K H d v):∃p xs,v=.ref p/\(SqL K H p xs\/SqT K H p xs)/\IsL K H ds xs:=by
 cases d with
 |lst es=>cases e;let⟨p,xs,z,q,l⟩:=h;exact⟨p,xs,z,.inl q,l⟩
 |tup es=>cases e;let⟨p,xs,z,q,l⟩:=h;exact⟨p,xs,z,.inr q,l⟩
 |_=>cases e
def Same.both{K}{a}(s:Same H H')(h:SqL K H a xs\/SqT K H a xs):SqL K H' a xs\/SqT K H' a xs:=by
 rcases h with h|h
 .exact .inl (s.seq h)
 .exact .inr (s.seqT h)
def  eB:Vg->Vi:=tw λd=>(seqD d).bind λds=>!(.int ds.length)
def rn_len:EM X.K (λxs H Q=>∃p ys,xs=[.ref p]/\(SqL X.K H p ys\/SqT X.K H p ys)/\Q (.int ys.length) H) eB:=λO H xs ds d Q hd l e k=>by
 let⟨c,rfl,e⟩:=bc e;let⟨es,j,e2⟩:=VL e;cases e2;let⟨v,rfl,h⟩:=t9 l;let⟨p,ys,rfl,q,g⟩:=gR j h;exact⟨p,ys,rfl,msk_le.both q,k _ H (Same.refl _) (by show V.int ys.length=.int es.length;rw[g.len])⟩
def  mI:Vg->U7:=tw seqD
def EN(I:Gl X "list")(C:X.mg "list"=none)(r:bootBuiltins "list"=!(.type "list"))(U:PX X [e] fa)(J:starEach [e] X.env=[(false,eval e X.env)]:=by rfl):PF X (.Call (.Name "list" p) [e] [] pos) (λY=>(fa Y).bind mI):=
 λO Y=>(qu rz I C r (U O Y) (!2) (!2) J rfl).imp λσ H Q ⟨E,ds,q,k⟩=>by
 let⟨as,e1,q⟩:=VL q
 refine⟨E,as,e1,λvs H1 g l=>?_⟩
 let⟨c,rfl,j⟩:=bc q
 let⟨v,rfl,h⟩:=t9 l
 let⟨p,ys,rfl,t,o⟩:=gR j h
 exact⟨p,ys,rfl,msk_le.both t,λb T=>k b ys H1 g T o⟩
def  cQ:Vg->Vi:=tw λd=>(seqD d).bind λds=>!(.tup ds)
def rn_tuple:EM X.K (λxs H Q=>∃p ys,xs=[.ref p]/\((SqL X.K H p ys/\∀l,H l=none->Q (.ref l) (aR H l (.tup ys)))\/(SqT X.K H p ys/\Q (.ref p) H))) cQ:=λO H xs ds d Q hd l e k=>by
 let⟨c,rfl,e⟩:=bc e;let⟨es,r,e2⟩:=VL e;cases e2;let⟨v,rfl,h⟩:=t9 l;let⟨p,ys,rfl,q,o⟩:=gR r h;refine⟨p,ys,rfl,?_⟩;rcases q with q|q
 .refine .inl ⟨msk_le.seq q,λc g=>?_⟩;have j:=gy hd g;have le:Same (msk O H) (msk O (aR H c (.tup ys))):=by rw[nt j];exact Same.new (by rw[aN j];exact g)
  exact k _ _ (Same.new g) ⟨c,ys,rfl,.of (by rw[aN j,al]),IsL.mono le _ _ o⟩
 .exact .inr ⟨msk_le.seqT q,k _ H (Same.refl _) ⟨p,ys,rfl,q,o⟩⟩
def ua:∀{bs:List Bool}{us:U9},Vals (bs.map V.bl) us->us=bs.map Value.bool
 |[],_,.nil=>rfl
 |b::bs,_,.cons r t=>by
  cases(show _=Value.bool b from r);rw[ua t];rfl
def qA:∀(bs:List Bool),((List.range bs.length).all λi=>bs.getD i true)=bs.all (λz=>z)
 |[]=>rfl
 |b::bs=>by
  rw[length_cons,List.range_succ_eq_map,List.all_cons,List.all_map,List.all_cons,<-qA bs];rfl
def call_all(hc:X.calm=true):fC X (.builtin "all") (λxs H Q=>∃(p:Addr)(g:List Bool),xs=[.ref p]/\SqL X.K H p (g.map V.bl)/\Q (.bl (g.all (λz=>z))) H):=by
 intro pins s σ H xs us Q I r h;let⟨l,g,rfl,hl,q⟩:=h;let⟨u,rfl,U⟩:=fE r;cases U;let⟨its,rv,pl,hz⟩:=I.list hl;have eb:=ua rv;subst eb;have T:=pl.isList;have C:l<s.heap.objs.size:=by let⟨_,e,_⟩:=T;exact Vn e
 refine call_all_walk (wpAny_pyIter_list T ?_);refine⟨s.heap.objs.size,[s.heap.objs.size,l],[s.heap.objs.size],_,_,_,λi=>g.getD i true,rfl,Walks.list (A:=X.A.in1) (I.ok.hd hc) _ l (Vy C) (g.map Value.bool).toArray,
  ⟨⟨_,Vo _ rfl,rfl,rfl⟩,T.push _⟩,λi v s' Q' E' hP J=>?_,λh' tk hk=>?_⟩
 .have j:(g.map Value.bool)[i]?=!v:=by simpa using hP
  rw[getElem?_map]at j;cases e:g[i]? with
  |none=>rw[e]at j;cases j
  |some b=>
   rw[e]at j;cases j;have e':g.getD i true=b:=by rw[List.getD_eq_getElem?_getD,e];rfl
   dsimp only at J;rw[e']at J;exact wpAny_truthy_bool J
 .have e:((List.range (g.map Value.bool).toArray.size).all λi=>g.getD i true)=g.all (λz=>z):=by
   rw[size_toArray,length_map];exact qA g
  rw[e];exact⟨.bl _,H,I.kept λb o t=>hk b o (λhm=>by rw[mem_singleton.mp hm]at t;exact VD _ (Vn t)) (Vl _ t),rfl,q⟩
def  A8:Vg->Option (List Bool)
 |[]=>![]
 |d::ds=>d.asB.bind λb=>(A8 ds).bind λr=>!(b::r)
def  kR:D->U7
 |.lst ds=>!ds
 |_=>none
def cc{K}(e:kR d=!ds)(h:Is K H d v):∃p xs,v=.ref p/\SqL K H p xs/\IsL K H ds xs:=by
 cases d with
 |lst es=>cases e;exact h
 |_=>cases e
def  jB:Vg->Vi:=tw λd=>(kR d).bind λds=>(A8 ds).bind λbs=>!(.bl (bs.all (λz=>z)))
def xB{K}:∀{ds:Vg}{bs:List Bool}{xs:List V},A8 ds=!bs->IsL K H ds xs->xs=bs.map V.bl
 |[],_,_,e,l=>by cases e;exact l
 |d::ds,_,_,e,⟨x,r,z,h,l⟩=>by
  let⟨b,e1,e⟩:=VL e;let⟨bs,e2,e⟩:=VL e;cases e;cases asB_some e1;rw[z,xB e2 l,show x=.bl b from h];rfl
def rn_all:EM X.K (λxs H Q=>∃(p:Addr)(g:List Bool),xs=[.ref p]/\SqL X.K H p (g.map V.bl)/\Q (.bl (g.all (λz=>z))) H) jB:=λO H xs ds d Q hd l e k=>by
 let⟨c,rfl,e⟩:=bc e;let⟨es,t,e2⟩:=VL e;let⟨g,r,o⟩:=VL e2;cases o;let⟨v,rfl,h⟩:=t9 l;let⟨p,ys,rfl,q,j⟩:=cc t h;rw[xB r j]at q;exact⟨p,g,rfl,msk_le.seq q,k _ H (Same.refl _) rfl⟩
def  bN:D->Bool
 |.non=>true
 |.bl _=>true
 |.int _=>true
 |.str _=>true
 |_=>false
noncomputable def  ou:D->V
 |.non=>.non
 |.bl b=>.bl b
 |.int i=>.int i
 |.str x=>.str x
 |_=>.non
def jg{K}(f:bN d=true)(h:Is K H d v):v=ou d/\iS v=true:=by
 cases d<;>first|(cases(h);exact⟨rfl,rfl⟩)|cases f
def iV{K}:∀{ds:Vg}{xs:List V},ds.all bN=true->IsL K H ds xs->xs=ds.map ou/\xs.all iS=true
 |[],_,_,l=>by cases(show _=[]from l);exact⟨rfl,rfl⟩
 |d::ds,_,f,⟨x,r,z,h,l⟩=>by
  rw[List.all_cons,and_eq_true]at f;let⟨e1,e2⟩:=jg f.1 h;let⟨e3,e4⟩:=iV f.2 l;rw[z];exact⟨by rw[e1,e3];rfl,by rw[List.all_cons,e2,e4];rfl⟩
def  Pp(x:D)(ds:Vg):Bool:=QD (ou x) (ds.map ou)
def  Pt:D->D->Vi
 |x,.lst ds=>if bN x&&ds.all bN then !(.bl (Pp x ds))else none
 |x,.tup ds=>if bN x&&ds.all bN then !(.bl (Pp x ds))else none
 |_,_=>none
def r_in{K}:jU K (Pn K false) Pt:=λO H x y dx C d Q hd t r e k=>by
 cases C with
 |lst ds=>
  let⟨h1,h2⟩:=ay (e);rw[and_eq_true]at h1;subst h2;let⟨p,xs,rfl,q,l⟩:=r;let⟨o,e2⟩:=jg h1.1 t;let⟨j,g⟩:=iV h1.2 l;exact⟨p,xs,rfl,.inl (msk_le.seq q),e2,g,k _ H (Same.refl _) (by rw[o,j];rfl)⟩
 |tup ds=>
  let⟨h1,h2⟩:=ay (e);rw[and_eq_true]at h1;subst h2;let⟨p,xs,rfl,q,l⟩:=r;let⟨o,e2⟩:=jg h1.1 t;let⟨j,g⟩:=iV h1.2 l;exact⟨p,xs,rfl,.inr (msk_le.seqT q),e2,g,k _ H (Same.refl _) (by rw[o,j];rfl)⟩
 |_=>cases e
noncomputable def  cu:D->Option String
 |.non=>some "NoneType"
 |.bl _=>some "bool"
 |.int _=>some "int"
 |.str _=>some "str"
 |.tup _=>some "tuple"
 |.lst _=>some "list"
 |_=>none
def  isI(T n:String):Bool:=T==n||(T=="bool"&&n=="int")
noncomputable def  xC(n:String):Bool:=["int","bool","str","list","tuple","dict"].contains n
def A9(K:Frag)(j:cu d=!T)(l:xC n=true):PySem.W.kitOne K (.type T) (.type n)=!(isI T n):=by
 have g:n="int"\/n="bool"\/n="str"\/n="list"\/n="tuple"\/n="dict":=by
  simpa [xC] using l
 cases d<;>first
  |(cases j;rcases g with rfl|rfl|rfl|rfl|rfl|rfl<;>rfl)
  |cases j
def EO{σ:St}{x}{u c}{b}(I:Inv X pins σ H s)(h:Is X.K H d x)(rx:RelV x u)(hT:cu d=!T)(e:PySem.W.kitOne X.K (.type T) c=!b)(hq:∀tk,Q (.bool b) {s with toks:=tk}):wpAny (!4) A (call (.builtin "isinstance") [u,c]) Q E s:=by
 cases d with
 |non=>cases hT;cases(h);cases(rx);exact PySem.W.kia_one PySem.W.kitx_none I.kIn True.intro e (λz=>nomatch z) hq
 |bl y=>cases hT;cases(h);cases(rx);exact PySem.W.kia_one PySem.W.kitx_bool I.kIn True.intro e (λz=>nomatch z) hq
 |int i=>cases hT;cases(h);let⟨t,q⟩:=(rx);cases q;exact PySem.W.kia_one PySem.W.kitx_int I.kIn True.intro e (λz=>nomatch z) hq
 |str i=>cases hT;cases(h);let⟨t,q⟩:=(rx);cases q;exact PySem.W.kia_one PySem.W.kitx_str I.kIn True.intro e (λz=>nomatch z) hq
 |tup ds=>
  cases hT;let⟨a,xs,rfl,q,l⟩:=h;cases(show u=Value.ref a from rx);let⟨its,_,⟨o,h1,h2,_⟩,_⟩:=I.tuple q;exact PySem.W.kia_one PySem.W.kitx_tuple I.kIn ⟨o,h1,h2⟩ e (λz=>nomatch z) hq
 |lst ds=>
  cases hT;let⟨a,xs,rfl,q,l⟩:=h;cases(show u=Value.ref a from rx);let⟨its,_,⟨o,n,h1,h2,_⟩,_⟩:=I.list q;exact PySem.W.kia_one PySem.W.kitx_list I.kIn ⟨o,h1,h2⟩ e (λz=>nomatch z) hq
 |_=>cases hT
def EQ{σ:St}{x}{b}(I:Inv X pins σ H s)(h:Is X.K H d x)(rx:RelV x u)(hT:cu d=!T)(htp:s.heap.get? tp=!⟨.type "tuple",dd,.seq its.toArray n,sl⟩)(e:PySem.W.kitAny X.K (.type T) its=!b)(hq:∀tk,Q (.bool b) {s with toks:=tk}):wpAny (!4) A (call (.builtin "isinstance") [u,.ref tp]) Q E s:=by
 cases d with
 |non=>cases hT;cases(h);cases(rx);exact PySem.W.kia_tup PySem.W.kitx_none I.kIn True.intro htp e (λz=>nomatch z) hq
 |bl y=>cases hT;cases(h);cases(rx);exact PySem.W.kia_tup PySem.W.kitx_bool I.kIn True.intro htp e (λz=>nomatch z) hq
 |int i=>cases hT;cases(h);let⟨t,q⟩:=(rx);cases q;exact PySem.W.kia_tup PySem.W.kitx_int I.kIn True.intro htp e (λz=>nomatch z) hq
 |str i=>cases hT;cases(h);let⟨t,q⟩:=(rx);cases q;exact PySem.W.kia_tup PySem.W.kitx_str I.kIn True.intro htp e (λz=>nomatch z) hq
 |tup ds=>
  cases hT;let⟨a,xs,rfl,q,l⟩:=h;cases(show u=Value.ref a from rx);let⟨its,_,⟨o,h1,h2,_⟩,_⟩:=I.tuple q;exact PySem.W.kia_tup PySem.W.kitx_tuple I.kIn ⟨o,h1,h2⟩ htp e (λz=>nomatch z) hq
 |lst ds=>
  cases hT;let⟨a,xs,rfl,q,l⟩:=h;cases(show u=Value.ref a from rx);let⟨its,_,⟨o,n,h1,h2,_⟩,_⟩:=I.list q;exact PySem.W.kia_tup PySem.W.kitx_list I.kIn ⟨o,h1,h2⟩ htp e (λz=>nomatch z) hq
 |_=>cases hT
def  QO:D->Option String
 |.ty n=>if xC n then !n else none
 |_=>none
def ub(h:QO d=!n):d=.ty n/\xC n=true:=by
 cases d with
 |ty m=>let⟨h1,h2⟩:=ay h;subst h2;exact⟨rfl,h1⟩
 |_=>cases h
def  Ba:Vg->Option (List String)
 |[]=>![]
 |d::ds=>(QO d).bind λn=>(Ba ds).bind λr=>!(n::r)
def  Jd:D->U7
 |.tup ds=>!ds
 |_=>none
def ER{K}(e:Jd d=!ds)(h:Is K H d v):∃p xs,v=.ref p/\SqT K H p xs/\IsL K H ds xs:=by
 cases d with
 |tup es=>cases e;exact h
 |_=>cases e
def  ox(c:D):Option (List String):=match QO c with
 |some n=>![n]
 |none=>(Jd c).bind Ba
def  fO:Vg->Vi:=LG λd c=>(cu d).bind λT=>(ox c).bind λns=>!(.bl (ns.any (isI T)))
def qB{K}(hT:cu d=!T):∀{cs:Vg}{ns:List String}{xs:List V}{us:U9},Ba cs=!ns->IsL K H cs xs->Vals xs us->PySem.W.kitAny K (.type T) us=!(ns.any (isI T))
 |[],_,_,_,e,l,r=>by
  cases e;cases(show _=[]from l);cases r;rfl
 |c::cs,ns,_,_,e,⟨x,xr,z,h,l⟩,r=>by
  let⟨n,e1,e2⟩:=VL e;let⟨ms,e3,e4⟩:=VL e2;cases e4;let⟨rfl,hk⟩:=ub e1;subst z;cases r with
  |cons r1 r2=>
   cases(show x=.ty n from h);cases(show _=Value.type n from r1);show(match PySem.W.kitOne K (.type T) (.type n)with|some true=>!true|some false=>PySem.W.kitAny K (.type T) _|none=>none)=_;rw[A9 K hT hk,qB hT e3 l r2,List.any_cons];cases isI T n<;>rfl
def call_isi:fC X (.builtin "isinstance") (λxs H Q=>∃d c T j,IsL X.K H [d,c] xs/\cu d=!T/\ox c=!j/\Q (.bl (j.any (isI T))) H):=by
 intro pins s σ H xs us Q I r h;let⟨d,c,T,j,l,g,e,q⟩:=h;let⟨x,y,rfl,U,J⟩:=QN l;let⟨u,w',rfl,C,t⟩:=AG r;unfold ox at e;split at e
 .rename_i n hn;cases e;let⟨rfl,hk⟩:=ub hn;cases(J);cases(t);refine EO I U C g (A9 X.K g hk) λtk=>⟨.bl _,H,I.tok tk,rfl,?_⟩;have p:([n].any (isI T))=isI T n:=by simp
  rw[p]at q;exact q
 .let⟨cs,p,e2⟩:=VL e;let⟨tp,ys,rfl,hq,hl⟩:=ER p J;cases(t);let⟨its,rv,⟨o,h1,h2,n,h3⟩,_⟩:=I.tuple hq;let⟨oc,od,oda,osl⟩:=o;cases(h2);cases(h3);exact EQ I U C g h1 (qB g e2 hl rv) λtk=>⟨.bl _,H,I.tok tk,rfl,q⟩
def rn_isi:EM X.K (λxs H Q=>∃d c T g,IsL X.K H [d,c] xs/\cu d=!T/\ox c=!g/\Q (.bl (g.any (isI T))) H) fO:=λO H xs ds d Q hd l e k=>by
 let⟨d0,c,rfl,e⟩:=t6 e;let⟨T,p,e2⟩:=VL e;let⟨g,o,j⟩:=VL e2;cases j;exact⟨d0,c,T,g,l.full,p,o,k _ H (Same.refl _) rfl⟩
end
def PE.ex{g:Type}{t:g->TE}(h:∀z,PE X e (t z)):PE X e (λσ H Q=>∃z,t z σ H Q):=λpins s σ H Q I ⟨z,q⟩=>h z pins s σ H Q I q
def PTs.ex{g:Type}{t:g->TT}(h:∀z,PTs X e (t z)):PTs X e (λσ H Q=>∃z,t z σ H Q):=λpins s σ H Q I ⟨z,q⟩=>h z pins s σ H Q I q
def PG.ex{g:Type}{t:g->TG}(h:∀z,PG X e (t z)):PG X e (λv σ H Q=>∃z,t z v σ H Q):=λpins s σ H v u Q I r ⟨z,q⟩=>h z pins s σ H v u Q I r q
def PSs.ex{g:Type}{t:g->TS}(h:∀z,PSs X e (t z)):PSs X e (λD σ H=>∃z,t z D σ H):=λpins s σ H D I ⟨z,q⟩=>h z pins s σ H D I q
def  oy(K:Frag)(Hm:Hp)(J:It)(ds:Vg):Prop:=∀(i:Nat)(H:Hp)(O:Ve),Same Hm (msk O H)->(∀b,O b=true->H b≠none)->
 (∀d,ds[i]?=!d->J.go i H/\∀x H3,J.yld i H x H3->Same H H3/\Is K (msk O H3) d x)/\(ds.length<=i->J.stop i H)
def  tJ(K:Frag)(O:Ve)(Y:Vv)(o:U7):TI:=λσ H R=>VE K O σ H Y/\∃ds,o=!ds/\∀J H',Same H H'->oy K (msk O H') J ds->R J H'
def  PJ(X:Cx)(tg iter:Expr)(f:UZ):Prop:=∀O Y,PI X tg iter (tJ X.K O Y (f Y))
section
variable{X:Cx}{tg l e:Expr}{pos:Pos}
def  QP(K:Frag)(tl:TE):TI:=λσ H R=>tl σ H λx H1=>∃a,x=.ref a/\(((∃xs,SqL K H1 a xs)/\R (Qt K a) H1)\/((∃xs,SqT K H1 a xs)/\R (Qu K a) H1))
def Je(U:PE X l tl):PI X tg l (QP X.K tl):=by
 intro pins s σ H R I h;refine bw (U pins s σ H _ I h) λv g ⟨x,H1,j,C,J⟩=>?_;let⟨a,e,q⟩:=J;subst e;cases C;have fin:∀b∈[g.heap.objs.size],j8 X pins H1 b:=λb hb=>by
  have e:b=g.heap.objs.size:=by simpa using hb
  subst e;exact j.fpOk (VI _) (j.hok.fresh (VI _))
 rcases q with⟨⟨xs,t⟩,q⟩|⟨⟨xs,t⟩,q⟩
 .let⟨r,rv,p,T⟩:=j.list t;refine wpAny_pyIter_list p.isList ?_;exact⟨g.heap.objs.size,[g.heap.objs.size],_,_,H1,rfl,j.kept λb o e=>Vl _ e,y0 a _,⟨_,Vo _ rfl,rfl,rfl⟩,fin,q⟩
 .let⟨r,rv,p,T⟩:=j.tuple t;refine wpAny_pyIter_tuple (p) ?_;exact⟨g.heap.objs.size,[g.heap.objs.size],_,_,H1,rfl,j.kept λb o e=>Vl _ e,vB a _,⟨_,Vo _ rfl,rfl,rfl⟩,fin,q⟩
def zk{K}(q:SqL K o a xs)(j:IsL K o ds xs):oy K o (Qt K a) ds:=λi H O s hd=>by
 have g:=(s.trans msk_le).seq q;refine⟨λd hi=>?_,λhi=>⟨xs,g,by rw[<-j.len];exact hi⟩⟩;let⟨x,l,p⟩:=j.get hi;refine⟨⟨xs,x,g,l⟩,λy t ⟨e,r⟩=>?_⟩;subst e;have:=r xs g;rw[l]at this;cases this;exact⟨Same.refl _,Is.mono s d x p⟩
def Bb{K}(q:SqT K o a xs)(j:IsL K o ds xs):oy K o (Qu K a) ds:=λi H O s hd=>by
 have g:=(s.trans msk_le).seqT q;refine⟨λd hi=>?_,λhi=>⟨xs,g,by rw[<-j.len];exact hi⟩⟩;let⟨x,l,p⟩:=j.get hi;refine⟨⟨xs,x,g,l⟩,λy t ⟨e,r⟩=>?_⟩;subst e;have:=r xs g;rw[l]at this;cases this;exact⟨Same.refl _,Is.mono s d x p⟩
def Jf(h:PP X l f):PJ X tg l (λY=>(f Y).bind seqD):=λO Y=>(Je (h O Y)).imp λσ H R ⟨E,ds,q,k⟩=>by
 let⟨d,p,q⟩:=VL q;refine⟨E,d,p,λv H1 g o=>?_⟩;let⟨a,xs,rfl,t,j⟩:=gR q o;rcases t with t|t
 .exact⟨a,rfl,.inl ⟨⟨xs,msk_le.seq t⟩,k _ H1 g (zk t j)⟩⟩
 .exact⟨a,rfl,.inr ⟨⟨xs,msk_le.seqT t⟩,k _ H1 g (Bb t j)⟩⟩
def  m6(lo:Int)(n:Nat):Vg:=(!20).map λ(i:Nat)=>D.int (lo+(i:Int))
def vR{K}{lo}:oy K o (Pl lo n) (m6 lo n):=λi H O s hd=>by
 have j:(m6 lo n).length=n:=by simp[m6]
 refine⟨λd hi=>?_,λhi=>by rw[j]at hi;exact hi⟩;have g:i<n:=by
  have:=(Vq.mp hi).1;rw[j]at this;exact this
 refine⟨g,λx p ⟨e,l⟩=>?_⟩;subst e l;have:d=.int (lo+(i:Int)):=by
  simp[m6,g]at hi;exact hi.symm
 subst this;exact⟨Same.refl _,rfl⟩
noncomputable def  oz:D->Vj
 |.int i=>!i
 |_=>none
def intD_some(h:oz d=!i):d=.int i:=by
 cases d<;>first|(cases h;rfl)|cases h
def  HA(j:Int):Prop:=-(2^62)<=j/\j<2^62
instance (j:Int):Decidable (HA j):=Classical.propDecidable _
def  kT:Vg->U7:=tw λd=>(oz d).bind λj=>if HA j then !(m6 0 j.toNat)else none
def zm(U:Gl X "range")(T:X.mg "range"=none)(ha:PX X [e] fa)(J:starEach [e] X.env=[(false,eval e X.env)]:=by rfl):PJ X tg (.Call (.Name "range" p) [e] [] pos) (λY=>(fa Y).bind kT):=
 λO Y=>(y6 U T (ha O Y) J).imp λσ H R ⟨E,ds,q,k⟩=>by
 let⟨as,e1,q⟩:=VL q
 refine⟨E,as,e1,λvs H1 l I=>?_⟩
 let⟨c,rfl,t⟩:=bc q
 let⟨j,r,o⟩:=VL t
 let⟨h1,h2⟩:=ay o
 subst h2
 let⟨v,rfl,C⟩:=t9 I
 cases intD_some r
 have g:=h1
 exact⟨j,by rw[show v=.int j from C],g.1,g.2,k _ H1 l vR⟩
def  tG(K:Frag)(O:Ve)(Y:Vv)(d:D)(ks:Vb)(o:Option Vv):TG:=λv σ H Q=>VE K O σ H Y/\Is K (msk O H) d v/\∃Y',o=!Y'/\
 ∀σ',VE K O σ' H Y'->σ'.length=σ.length->(∀(j:Nat)(w:V),j ∉ ks->σ[j]?=!(!w)->σ'[j]?=!(!w))->Q σ' H
def  Jg(X:Cx)(ks:Vb)(tg:Expr)(g:D->Vv->Option Vv):Prop:=∀O Y d,PG X tg (tG X.K O Y d ks (g d Y))
def  Ul(K:Frag)(O:Ve)(Y:Vv)(ds:Vg)(ks:Vb)(o:Option Vv):Hq:=λvs σ H Q=>VE K O σ H Y/\IsL K (msk O H) ds vs/\∃Y',o=!Y'/\
 ∀σ',VE K O σ' H Y'->σ'.length=σ.length->(∀(j:Nat)(w:V),j ∉ ks->σ[j]?=!(!w)->σ'[j]?=!(!w))->Q σ' H
def  zn(X:Cx)(ks:Vb)(ts:Vh)(g:Vg->Vv->Option Vv):Prop:=∀O Y ds,PGs X ts (Ul X.K O Y ds ks (g ds Y))
def  gNm(i:Nat):D->Vv->Option Vv:=λd Y=>!(Y.set i (!d))
def ES(C:X.N.Nodup)(hi:X.N[i]?=!x)(l:Eg X.env.scope x)(p:i∈ks)(t:X.fn x=true\/X.env.scope.names.lookup x=some .local:=by first|exact .inl rfl|exact .inr rfl|assumption):Jg X ks (.Name x pos) (gNm i):=
 λO Y d=>(xq C hi l t).imp λv σ H Q ⟨E,g,Y',e,k⟩=>by
 cases e
 refine k _ (E.set g) (by simp) λj w r o=>?_
 rw[List.getElem?_set_ne (λ(z:i=j)=>r (by rw[<-z];exact p))];exact o
def PGs.imp(h:PGs X ts t)(k:∀v σ H Q,t' v σ H Q->t v σ H Q):PGs X ts t':=λpins s σ H vs us Q I r q=>h pins s σ H vs us Q I r (k _ _ _ _ q)
def  bd:Vg->Vv->Option Vv:=λds Y=>match ds with|[]=>!Y|_=>none
noncomputable def  ao(g:D->Vv->Option Vv)(gs:Vg->Vv->Option Vv):Vg->Vv->Option Vv:=λds Y=>match ds with|d::r=>(g d Y).bind λY1=>gs r Y1|_=>none
def ET:zn X ks [] bd:=λO Y ds=>pgs_nil.imp λj σ H Q ⟨E,g,Y',e,k⟩=>by
 cases ds with
 |nil=>cases e;exact⟨g,k σ E rfl λ_ _ _ h=>h⟩
 |cons _ _=>cases e
def PGs.ex{e}{g:Type}{t:g->Hq}(h:∀z,PGs X e (t z)):PGs X e (λv σ H Q=>∃z,t z v σ H Q):=λpins s σ H v u Q I r ⟨z,q⟩=>h z pins s σ H v u Q I r q
def gsd_cons(h1:Jg X ks e g)(h2:zn X ks p gs)(hs:(assignEach (e::p) X.env).map (·.2)=assign e X.env::(assignEach p X.env).map (·.2):=by rfl):zn X ks (e::p) (ao g gs):=λO Y ds=>by
 cases ds with
 |nil=>exactλpins s σ H T us Q I r ⟨_,_,Y',e,_⟩=>by cases e
 |cons d r=>
  refine(tM (h1 O Y d) (PGs.ex λz:Vv=>h2 O z r) hs).imp λT σ H Q ⟨E,⟨x,J,z,ix,il⟩,Y',e,k⟩=>?_;let⟨l,e1,e2⟩:=VL (e);refine⟨x,J,z,E,ix,l,e1,λC E1 l1 k1=>⟨l,E1,il,Y',e2,λo E2 U k2=>?_⟩⟩;exact k o E2 (U.trans l1) λj w t hw=>k2 j w t (k1 j w t hw)
noncomputable def  kc(n:Nat)(gs:Vg->Vv->Option Vv):D->Vv->Option Vv:=λd Y=>match d with|.tup ds=>if ds.length=n then gs ds Y else none|_=>none
def Jh{k n}(I:X.calm=true)(h:zn X ks g p)(C:(assignEach g X.env).length=n:=by rfl)(j:(assignEach g X.env).findIdx? (·.1)=none:=by rfl):Jg X ks (.Tuple g k pos) (kc n p):=λO Y d=>by
 refine(Av I (PGs.ex λz:Vg=>h O Y z) C j).imp λv σ H Q ⟨E,r,Y',e,k⟩=>?_;cases d with
 |tup ds=>
  let⟨a,xs,rfl,t,o⟩:=r;have l:(if ds.length=n then p ds Y else none)=!Y':=e;split at l
  .exact⟨a,xs,rfl,msk_le.seqT t,by rw[<-o.len];assumption,ds,E,o,Y',l,k⟩
  .cases l
 |_=>cases e
end
noncomputable def  jV(step:D->Option (Vi)):Vg->U7
 |[]=>![]
 |d::ds=>(step d).bind λo=>(jV step ds).bind λr=>!(match o with|some y=>y::r|none=>r)
noncomputable def  qC(g:D->Vv->Option Vv)(ft:U2)(fe:U0)(Y:Vv)(d:D):Option (Vi):=(g d Y).bind λY1=>(ft Y1).bind λc=>if c=true then(fe Y1).bind λy=>!(!y)else !none
def  ae(ks:Vb)(fi:UZ)(g:D->Vv->Option Vv)(ft:U2)(fe:U0):UZ:=λY=>(fi Y).bind λds=>bM (jV (qC g ft fe (gx ks Y)) ds)
def  Ji(X:Cx)(ifs:Vh)(f:U2):Prop:=∀O Y,PTs X ifs (Po X.K O Y (f Y))
def PTs.imp(h:PTs X ifs t)(k:∀σ H Q,g σ H Q->t σ H Q):PTs X ifs g:=λpins s σ H Q I q=>h pins s σ H Q I (k _ _ _ q)
def EU:Ji X [] (λ_=>!true):=λO Y=>pts_nil.imp λσ H Q ⟨E,b,e,k⟩=>by cases e;exact k H (Same.refl _)
def EV(h:PQ X c f):Ji X [c] f:=λO Y=>EA (h O Y)
abbrev xG(K:Frag)(ks:Vb)(g:D->Vv->Option Vv):TG:=λv σ H Q=>∃z:(Ve)×Vv×D,tG K z.1 z.2.1 z.2.2 ks (g z.2.2 z.2.1) v σ H Q
abbrev xT(K:Frag)(f:U2):TT:=λσ H Q=>∃z:(Ve)×Vv,Po K z.1 z.2 (f z.2) σ H Q
abbrev xE(K:Frag)(f:U0):TE:=λσ H Q=>∃z:(Ve)×Vv,tP K z.1 z.2 (f z.2) σ H Q
def Bc{K}(h:Mv K O Y (ae ks fi g ft fe Y) σ H Q):
  tV (tJ K O Y (fi Y)) ks (xG K ks g) (xT K ft) (xE K fe) σ H Q:=by
 let⟨E,U,e,k⟩:=h
 let⟨ds,e1,e⟩:=VL e
 let⟨e2,hz⟩:=dt e
 refine⟨E,ds,e1,λJ H1 s1 it=>⟨λi m ys H2=>i<=ds.length/\m=ds.length-i/\Same H1 H2/\∃rs rest,IsL K (msk O H2) rs ys/\jV _ (ds.drop i)=!rest/\U=rs++rest,
  ⟨ds.length,Nat.zero_le _,by simp,Same.refl _,[],U,rfl,by simpa using e2,rfl⟩,?_⟩⟩
 rintro i m ys H2 ⟨hi,rfl,s2,rs,rest,il,t,et⟩
 have E2:=E.grow (s1.trans s2)
 have hit:=it i H2 O s2.msk E2.dom
 have C:ys.length<sizeLine:=by
  rw[<-il.len];have:rs.length<=U.length:=by rw[et,length_append];omega
  omega
 by_cases r:i<ds.length
 .refine .inr ?_;have hd:=getElem?_eq_getElem r;let⟨go,yl⟩:=hit.1 _ hd;refine⟨go,C,λx H3 hy=>?_⟩;let⟨s3,ix⟩:=yl x H3 hy;rw[List.drop_eq_getElem_cons r]at t;let⟨o,I,t⟩:=VL (t);let⟨l,er',t⟩:=VL t;let⟨T,g1,I⟩:=VL I;let⟨c,c1,I⟩:=VL I;refine⟨⟨O,gx ks Y,ds[i]⟩,(E2.grow s3).wiped ks,ix,T,g1,λσ4 E4 l4 k4=>⟨⟨l4,λj w hw=>?_⟩,⟨O,T⟩,E4,c,c1,λH5 s5=>?_⟩⟩
  .exact k4 j w (wipe_iff.mp hw).2 hw
  .have hm:ds.length-(i+1)<ds.length-i:=by omega
   cases c with
   |true=>
    refine IQ ?_;let⟨y,y1,I⟩:=VL I;cases I;refine⟨⟨O,T⟩,E4.grow s5,y,y1,λv H6 s6 iv=>⟨_,hm,r,rfl,s2.trans (s3.trans (s5.trans s6)),rs++[y],l,?_,er',?_⟩⟩
    .exact(IsL.mono (s3.trans (s5.trans s6)).msk _ _ il).app ⟨v,[],rfl,iv,rfl⟩
    .rw[et,<-Option.some.inj t,List.append_assoc];rfl
   |false=>
    refine IP ?_;cases I;refine⟨_,hm,r,rfl,s2.trans (s3.trans s5),rs,l,IsL.mono (s3.trans s5).msk _ _ il,er',?_⟩;rw[et,<-Option.some.inj t]
 .have hie:i=ds.length:=by omega
  subst hie;refine .inl ⟨hit.2 (VI _),VF C,λp hp=>?_⟩;rw[List.drop_of_length_le (le_refl _)]at t;cases t;rw[List.append_nil]at et;subst et;exact k p ys H2 (s1.trans s2) hp il
mutual
noncomputable def  m7:D->D->Bool
 |.non,.non=>true
 |.bl a,.bl b=>a==b
 |.bl a,.int b=>(if a then 1 else 0)==b
 |.int a,.bl b=>a==(if b then 1 else 0)
 |.int a,.int b=>a==b
 |.str a,.str b=>a==b
 |.tup a,.tup b=>qD a b
 |.lst a,.lst b=>qD a b
 |_,_=>false
noncomputable def  qD:Vg->Vg->Bool
 |[],[]=>true
 |a::as,b::bs=>m7 a b&&qD as bs
 |_,_=>false
end
mutual
noncomputable def  mK:D->Nat
 |.tup ds=>dU ds+1
 |.lst ds=>dU ds+1
 |_=>0
noncomputable def  dU:Vg->Nat
 |[]=>0
 |d::ds=>max (mK d) (dU ds)
end
mutual
noncomputable def  ke:D->Bool
 |.non=>true
 |.bl _=>true
 |.int _=>true
 |.str _=>true
 |.ty _=>false
 |.adr _=>false
 |.tup ds=>pV ds
 |.lst ds=>pV ds
 |.obj _ _ _=>false
 |.dct _ _=>false
noncomputable def  pV:Vg->Bool
 |[]=>true
 |d::ds=>ke d&&pV ds
end
mutual
theorem uc:∀d:D,ke d=true->m7 d d=true
 |.non,_=>rfl
 |.bl a,_=>by show(a==a)=true;simp
 |.int a,_=>by show(a==a)=true;simp
 |.str a,_=>by show(a==a)=true;simp
 |.ty _,h=>by cases h
 |.adr _,h=>by cases h
 |.tup ds,h=>iW ds h
 |.lst ds,h=>iW ds h
 |.obj _ _ _,h=>by cases h
 |.dct _ _,h=>by cases h
theorem iW:∀ds:Vg,pV ds=true->qD ds ds=true
 |[],_=>rfl
 |d::ds,h=>by
  have h':(ke d&&pV ds)=true:=h;rw[and_eq_true]at h';show(m7 d d&&qD ds ds)=true;rw[uc d h'.1,iW ds h'.2];rfl
end
section
variable{X:Cx}{pins:U5}{σ:St}{H:Hp}{s:Shared}
def Inv.notBoth(I:Inv X pins σ H s)(h:SqT X.K H a xs)(h':SqL X.K H a ys):False:=by
 let⟨_,_,⟨o,e,c,_⟩,_⟩:=I.tuple h;let⟨_,_,⟨o',n,g,j,_⟩,_⟩:=I.list h';grind
mutual
theorem Is.inj(I:Inv X pins σ H s):∀(d e:D)(v:V),ke d=true->ke e=true->Is X.K H d v->Is X.K H e v->d=e
 |d,e,v,hd,he,h,h'=>by
  cases d with
  |non=>cases(show v=_ from h);cases e<;>first|exact(Vp he).elim|rfl|(exact absurd (show V.non=_ from h') (by intro z;cases z))|(let⟨_,_,z,_⟩:=h';cases z)|cases he
  |bl b=>cases(show v=_ from h);cases e<;>first|exact(Vp he).elim|(cases(show V.bl b=_ from h');rfl)|(exact absurd (show V.bl b=_ from h') (by intro z;cases z))|(let⟨_,_,z,_⟩:=h';cases z)|cases he
  |int b=>cases(show v=_ from h);cases e<;>first|exact(Vp he).elim|(cases(show V.int b=_ from h');rfl)|(exact absurd (show V.int b=_ from h') (by intro z;cases z))|(let⟨_,_,z,_⟩:=h';cases z)|cases he
  |str b=>cases(show v=_ from h);cases e<;>first|exact(Vp he).elim|(cases(show V.str b=_ from h');rfl)|(exact absurd (show V.str b=_ from h') (by intro z;cases z))|(let⟨_,_,z,_⟩:=h';cases z)|cases he
  |ty _=>cases hd
  |adr _=>cases hd
  |obj _ _ _=>cases hd
  |dct _ _=>cases hd
  |tup ds=>
   let⟨a,xs,rfl,q,l⟩:=h;cases e with
   |tup es=>
    let⟨a',ys,z,q',l'⟩:=h';cases z;cases I.tuple_inj q q';rw[IsL.inj I ds es xs hd he l l']
   |lst es=>
    let⟨a',ys,z,q',l'⟩:=h';cases z;exact(I.notBoth q q').elim
   |non=>exact absurd (show V.ref a=_ from h') (by intro z;cases z)
   |bl _=>exact absurd (show V.ref a=_ from h') (by intro z;cases z)
   |int _=>exact absurd (show V.ref a=_ from h') (by intro z;cases z)
   |str _=>exact absurd (show V.ref a=_ from h') (by intro z;cases z)
   |ty _=>cases he
   |adr _=>cases he
   |obj _ _ _=>cases he
   |dct _ _=>cases he
  |lst ds=>
   let⟨a,xs,rfl,q,l⟩:=h;cases e with
   |lst es=>
    let⟨a',ys,z,q',l'⟩:=h';cases z;cases I.list_inj q q';rw[IsL.inj I ds es xs hd he l l']
   |tup es=>
    let⟨a',ys,z,q',l'⟩:=h';cases z;exact(I.notBoth q' q).elim
   |non=>exact absurd (show V.ref a=_ from h') (by intro z;cases z)
   |bl _=>exact absurd (show V.ref a=_ from h') (by intro z;cases z)
   |int _=>exact absurd (show V.ref a=_ from h') (by intro z;cases z)
   |str _=>exact absurd (show V.ref a=_ from h') (by intro z;cases z)
   |ty _=>cases he
   |adr _=>cases he
   |obj _ _ _=>cases he
   |dct _ _=>cases he
theorem IsL.inj(I:Inv X pins σ H s):∀(ds es:Vg)(vs:List V),pV ds=true->pV es=true->IsL X.K H ds vs->IsL X.K H es vs->ds=es
 |[],[],_,_,_,_,_=>rfl
 |[],e::es,vs,_,_,h,⟨x,r,z,_⟩=>by cases(show vs=[]from h);cases z
 |d::ds,[],vs,_,_,⟨x,r,z,_⟩,h=>by cases(show vs=[]from h);cases z
 |d::ds,e::es,vs,hd,he,⟨x,r,z,h1,h2⟩,⟨x',r',z',h1',h2'⟩=>by
  cases z;cases z';have hd':(ke d&&pV ds)=true:=hd;have he':(ke e&&pV es)=true:=he;rw[and_eq_true]at hd' he';rw[Is.inj I d e x hd'.1 he'.1 h1 h1',IsL.inj I ds es r hd'.2 he'.2 h2 h2']
end
def bH:∀(ds es:Vg),(((List.range (min ds.length es.length)).all λj=>m7 (ds.getD j .non) (es.getD j .non))&&ds.length==es.length)=qD ds es
 |[],[]=>rfl
 |[],e::es=>by simp[qD]
 |d::ds,[]=>by simp[qD]
 |d::ds,e::es=>by
  have ih:=bH ds es;show(((List.range (min (ds.length+1) (es.length+1))).all _)&&_)=(m7 d e&&qD ds es);rw[<-ih,show min (ds.length+1) (es.length+1)=min ds.length es.length+1 by omega,List.range_succ_eq_map,List.all_cons,List.all_map];have e1:((d::ds).length==(e::es).length)=(ds.length==es.length):=by simp
  rw[e1,Bool.and_assoc];rfl
end
section
variable{X:Cx}{pins:U5}{σ:St}{H:Hp}{s:Shared}
def lQ(A:Around):A.in1.units=A.units+1:=rfl
def nz:∀{ds:Vg}{i:Nat}{d:D},ds[i]?=!d->mK d<=dU ds
 |[],_,_,h=>by simp at h
 |c::ds,0,d,h=>by
  simp at h;subst h;show mK c<=max (mK c) (dU ds);omega
 |c::ds,i+1,d,h=>by
  have:=nz (ds:=ds) (i:=i) (by simpa using h);show mK d<=max (mK c) (dU ds);omega
def kf:∀{ds:Vg}{i:Nat}{d:D},pV ds=true->ds[i]?=!d->ke d=true
 |[],_,_,_,h=>by simp at h
 |c::ds,0,d,ho,h=>by
  simp at h;subst h;have ho':(ke c&&pV ds)=true:=ho;rw[and_eq_true]at ho';exact ho'.1
 |c::ds,i+1,d,ho,h=>by
  have ho':(ke c&&pV ds)=true:=ho;rw[and_eq_true]at ho';exact kf (ds:=ds) (i:=i) ho'.2 (by simpa using h)
def getD_some{ds:Vg}(h:ds[i]?=!d):ds.getD i .non=d:=by rw[List.getD_eq_getElem?_getD,h];rfl
def gz(go:∀(i:Nat)(d e:D)(x y:V)(u w:Value),ds[i]?=!d->es[i]?=!e->Is X.K H d x->Is X.K H e y->RelV x u->RelV y w->SeqAt.EqAt A s u w (m7 d e))(il:IsL X.K H ds xs)(jl:IsL X.K H es ys)(r:Vals xs us)(q:Vals ys ws)(j:Nat)(h1:j<us.toArray.size)(h2:j<ws.toArray.size):SeqAt.EqAt A s us.toArray[j] ws.toArray[j] (m7 (ds.getD j .non) (es.getD j .non)):=by
 have hx:us[j]?=some us.toArray[j]:=by simp at h1⊢
 have hy:ws[j]?=some ws.toArray[j]:=by simp at h2⊢
 let⟨x,e1,r1⟩:=paired_get' r hx;let⟨y,e2,r2⟩:=paired_get' q hy;let⟨d,e3,i3⟩:=il.get' e1;let⟨e,e4,i4⟩:=jl.get' e2;grind
def lR(h:Is X.K H d x)(f:bN d=true):iS x=true/\x=ou d:=let⟨a,b⟩:=jg f h;⟨b,a⟩
def EW(f:bN d=true)(g:bN e=true):Ex (ou d) (ou e)=m7 d e:=by
 cases d<;>cases e<;>first|exact(Vp f).elim|exact(Vp g).elim|rfl
def lS(ds es:Vg)(h:ds.length=es.length):((List.range ds.length).all λj=>m7 (ds.getD j .non) (es.getD j .non))=qD ds es:=by
 have:=bH ds es;rw[<-this,h];simp
def rF(h:ds.length≠es.length):qD ds es=false:=by
 rw[<-bH];grind
def Bd(I:Inv X pins σ H s):∀(n:Nat)(A:Around)(d e:D)(x y:V)(u w:Value),mK d<=n->A.units+n<cLine->ke d=true->ke e=true->Is X.K H d x->Is X.K H e y->RelV x u->RelV y w->SeqAt.EqAt A s u w (m7 d e):=by
 intro n;induction n with
 |zero=>
  intro A d e x y u w hn hu T o hx J rx r;have fd:bN d=true:=by
   cases d with
   |tup ds=>exact absurd (show dU ds+1<=0 from hn) (!1)
   |lst ds=>exact absurd (show dU ds+1<=0 from hn) (!1)
   |ty _=>cases T
   |adr _=>cases T
   |obj _ _ _=>cases T
   |dct _ _=>cases T
   |_=>rfl
  have g:A.units<cLine:=by omega
  cases fe:bN e with
  |true=>
   let⟨f1,e1⟩:=lR hx fd;let⟨f2,e2⟩:=lR J fe;rw[<-EW fd fe,<-e1,<-e2];exact AV rx r f1 f2
  |false=>
   cases e with
   |tup es=>
    let⟨b,ys,rfl,q,l⟩:=J;cases r;let⟨its,rv,p,_⟩:=I.tuple q;cases d with
    |non=>cases(hx);cases rx;exact SeqAt.EqAt.none_tuple p g
    |bl c=>cases(hx);cases rx;exact SeqAt.EqAt.bool_tuple c p g
    |int c=>cases(hx);let⟨t,rfl⟩:=rx;exact SeqAt.EqAt.int_tuple c t p g
    |str c=>cases(hx);let⟨t,rfl⟩:=rx;exact SeqAt.EqAt.str_tuple c t p g
    |_=>cases fd
   |lst es=>
    let⟨b,ys,rfl,q,l⟩:=J;cases r;let⟨its,rv,p,_⟩:=I.list q;cases d with
    |non=>cases(hx);cases rx;exact SeqAt.EqAt.none_list p.isList g
    |bl c=>cases(hx);cases rx;exact SeqAt.EqAt.bool_list c p.isList g
    |int c=>cases(hx);let⟨t,rfl⟩:=rx;exact SeqAt.EqAt.int_list c t p.isList g
    |str c=>cases(hx);let⟨t,rfl⟩:=rx;exact SeqAt.EqAt.str_list c t p.isList g
    |_=>cases fd
   |ty _=>cases o
   |adr _=>cases o
   |obj _ _ _=>cases o
   |dct _ _=>cases o
   |_=>cases fe
 |succ n ih=>
  intro A d e x y u w hn hu T o hx J rx r;have g:A.units<cLine:=by omega
  cases fd:bN d with
  |true=>
   have h0:mK d<=n:=by
    cases d<;>first|exact Nat.zero_le _|cases fd
   exact ih A d e x y u w h0 (!1) T o hx J rx r
  |false=>
   cases d with
   |tup ds=>
    have hdn:=Nat.le_of_succ_le_succ (hn);let⟨a,xs,rfl,q,l⟩:=hx;cases rx;let⟨its,rv,p,_⟩:=I.tuple q;cases e with
    |tup es=>
     let⟨b,ys,rfl,q',l'⟩:=J;cases r;let⟨C,U,p',_⟩:=I.tuple q';by_cases hab:a=b
     .subst hab;cases I.tuple_inj q q';cases IsL.inj I ds es xs T o l l';rw[show m7 (.tup ds) (.tup ds)=true from iW ds T];exact SeqAt.EqAt.same _
     .refine SeqAt.EqAt.of_refs hab ?_;have h:=SeqAt.RcAt.tuples p p' g λj h1 h2=>gz (λi d e x y u w e1 e2 i1 i2 r1 r2=>ih A.in1 d e x y u w (Vx (nz e1) hdn) (by rw[lQ];omega) (kf T e1) (kf o e2) i1 i2 r1 r2) l l' rv U j h1 h2;have e1:its.toArray.size=ds.length:=by rw[size_toArray,<-rv.length,l.len]
      have e2:C.toArray.size=es.length:=by rw[size_toArray,<-U.length,l'.len]
      rw[e1,e2,bH]at h;exact h
    |lst es=>
     let⟨b,ys,rfl,q',l'⟩:=J;cases r;let⟨C,U,p',_⟩:=I.list q';exact SeqAt.EqAt.tuple_list p p'.isList g
    |non=>cases(J);cases r;exact SeqAt.EqAt.tuple_none p g
    |bl c=>cases(J);cases r;exact SeqAt.EqAt.tuple_bool c p g
    |int c=>cases(J);let⟨t,rfl⟩:=r;exact SeqAt.EqAt.tuple_int c t p g
    |str c=>cases(J);let⟨t,rfl⟩:=r;exact SeqAt.EqAt.tuple_str c t p g
    |ty _=>cases o
    |adr _=>cases o
    |obj _ _ _=>cases o
    |dct _ _=>cases o
   |lst ds=>
    have hdn:=Nat.le_of_succ_le_succ (hn);let⟨a,xs,rfl,q,l⟩:=hx;cases rx;let⟨its,rv,p,_⟩:=I.list q;cases e with
    |lst es=>
     let⟨b,ys,rfl,q',l'⟩:=J;cases r;let⟨C,U,p',_⟩:=I.list q';have e1:its.toArray.size=ds.length:=by rw[size_toArray,<-rv.length,l.len]
     have e2:C.toArray.size=es.length:=by rw[size_toArray,<-U.length,l'.len]
     by_cases hab:a=b
     .subst hab;cases I.list_inj q q';cases IsL.inj I ds es xs T o l l';rw[show m7 (.lst ds) (.lst ds)=true from iW ds T];exact SeqAt.EqAt.same _
     .refine SeqAt.EqAt.of_refs hab ?_;by_cases hl:ds.length=es.length
      .have h:=SeqAt.RcAt.lists p.isList p'.isList (by rw[e1,e2,hl]) g λj h1 h2=>gz (λi d e x y u w e1 e2 i1 i2 r1 r2=>ih A.in1 d e x y u w (Vx (nz e1) hdn) (by rw[lQ];omega) (kf T e1) (kf o e2) i1 i2 r1 r2) l l' rv U j h1 h2;rw[e1,lS ds es hl]at h;exact h
      .rw[show m7 (.lst ds) (.lst es)=false from rF hl];exact SeqAt.RcAt.lists_lengths p.isList p'.isList (by rw[e1,e2];simpa using hl) g
    |tup es=>
     let⟨b,ys,rfl,q',l'⟩:=J;cases r;let⟨C,U,p',_⟩:=I.tuple q';exact SeqAt.EqAt.list_tuple p.isList p' g
    |non=>cases(J);cases r;exact SeqAt.EqAt.list_none p.isList g
    |bl c=>cases(J);cases r;exact SeqAt.EqAt.list_bool c p.isList g
    |int c=>cases(J);let⟨t,rfl⟩:=r;exact SeqAt.EqAt.list_int c t p.isList g
    |str c=>cases(J);let⟨t,rfl⟩:=r;exact SeqAt.EqAt.list_str c t p.isList g
    |ty _=>cases o
    |adr _=>cases o
    |obj _ _ _=>cases o
    |dct _ _=>cases o
   |ty _=>cases T
   |adr _=>cases T
   |obj _ _ _=>cases T
   |dct _ _=>cases T
   |_=>cases fd
noncomputable def  Jj:D->D->Bool
 |.tup _,.tup _=>true
 |.lst _,.lst _=>true
 |.tup _,.str _=>true
 |_,_=>false
def  kU(d e:D):Option Bool:=if(bN d&&bN e&&AC (ou d) (ou e))=true then !(decide (ou d=ou e))else if(Jj d e&&ke d&&ke e&&decide (mK d<=50))=true then !(m7 d e)else none
def  Jk(K:Frag)(neg:Bool):R2:=λx y H Q=>∃d e b,Is K H d x/\Is K H e y/\kU d e=!b/\Q (.bl (if neg then not b else b)) H
def cmpEq_cases(h:kU d e=!b):(bN d=true/\bN e=true/\AC (ou d) (ou e)=true/\b=decide (ou d=ou e))\/(Jj d e=true/\ke d=true/\ke e=true/\mK d<=50/\b=m7 d e):=by
 unfold kU at h;grind
def jh(I:Inv X pins σ H s)(C:X.A.units+60<cLine)(p:pV ds=true)(o:pV es=true)(hd:dU ds<=50):∀(i:Nat)(d e:D)(x y:V)(u w:Value),ds[i]?=!d->es[i]?=!e->Is X.K H d x->Is X.K H e y->RelV x u->RelV y w->SeqAt.EqAt X.A.in1 s u w (m7 d e):=
 λi d e x y u w g e2 t r l j=>Bd I 50 X.A.in1 d e x y u w (Vx (nz g) hd) (by rw[lQ];omega) (kf p g) (kf o e2) t r l j
def Be(hu:X.A.units+60<cLine):OpR X (compareOp .Eq) (Jk X.K false):=by
 intro pins s σ H x y v u Q I rx ry h;let⟨d,e,b,hx,hy,hb,q⟩:=h;have t:X.A.units<cLine:=by omega
 rcases cmpEq_cases hb with⟨f1,f2,sc,rfl⟩|⟨sq,od,oe,hd,rfl⟩
 .let⟨_,J⟩:=lR hx f1;let⟨_,e2⟩:=lR hy f2;exact Mb pins s σ H x y v u Q I rx ry ⟨by rw[J,e2];exact sc,by rw[J,e2];exact q⟩
 .cases d with
  |tup ds=>
   cases e with
   |tup es=>
    let⟨a,xs,rfl,U,l⟩:=hx;let⟨c,ys,rfl,q2,l'⟩:=hy;cases rx;cases ry;let⟨r,rv,p,_⟩:=I.tuple U;let⟨o,g,p',_⟩:=I.tuple q2;have T:dU ds<=50:=by have:dU ds+1<=50:=hd;omega
    have J:r.toArray.size=ds.length:=by rw[size_toArray,<-rv.length,l.len]
    have e2:o.toArray.size=es.length:=by rw[size_toArray,<-g.length,l'.len]
    have C:=SeqAt.RcAt.tuples p p' t λj h1 h2=>gz (jh I hu od oe T) l l' rv g j h1 h2;rw[J,e2,bH]at C;exact C X.prog X.w X.xe _ ⟨.bl _,H,I,rfl,q⟩
   |str b=>
    let⟨a,xs,rfl,U,l⟩:=hx;cases(hy);cases rx;let⟨tk,rfl⟩:=ry;let⟨r,rv,p,_⟩:=I.tuple U;have C:=SeqAt.RcAt.tuple_str b tk p t;exact C X.prog X.w X.xe _ ⟨.bl _,H,I,rfl,q⟩
   |_=>cases sq
  |lst ds=>
   cases e with
   |lst es=>
    let⟨a,xs,rfl,U,l⟩:=hx;let⟨c,ys,rfl,q2,l'⟩:=hy;cases rx;cases ry;let⟨r,rv,p,_⟩:=I.list U;let⟨o,g,p',_⟩:=I.list q2;have T:dU ds<=50:=by have:dU ds+1<=50:=hd;omega
    have J:r.toArray.size=ds.length:=by rw[size_toArray,<-rv.length,l.len]
    have e2:o.toArray.size=es.length:=by rw[size_toArray,<-g.length,l'.len]
    by_cases hl:ds.length=es.length
    .have C:=SeqAt.RcAt.lists p.isList p'.isList (by rw[J,e2,hl]) t λj h1 h2=>gz (jh I hu od oe T) l l' rv g j h1 h2;rw[J,lS ds es hl]at C;exact C X.prog X.w X.xe _ ⟨.bl _,H,I,rfl,q⟩
    .have C:SeqAt.RcAt X.A s (.ref a) (.ref c) false:=SeqAt.RcAt.lists_lengths p.isList p'.isList (by rw[J,e2];simpa using hl) t;rw[show m7 (.lst ds) (.lst es)=false from rF hl]at q;exact C X.prog X.w X.xe _ ⟨.bl _,H,I,rfl,q⟩
   |_=>cases sq
  |_=>cases sq
def Bf(hu:X.A.units+60<cLine):OpR X (compareOp .NotEq) (Jk X.K true):=by
 intro pins s σ H x y v u Q I rx ry h;let⟨d,e,b,hx,hy,hb,q⟩:=h;have t:X.A.units<cLine:=by omega
 rcases cmpEq_cases hb with⟨f1,f2,sc,rfl⟩|⟨sq,od,oe,hd,rfl⟩
 .let⟨_,J⟩:=lR hx f1;let⟨_,e2⟩:=lR hy f2;exact Mc pins s σ H x y v u Q I rx ry ⟨by rw[J,e2];exact sc,by rw[J,e2];exact q⟩
 .cases d with
  |tup ds=>
   cases e with
   |tup es=>
    let⟨a,xs,rfl,U,l⟩:=hx;let⟨c,ys,rfl,q2,l'⟩:=hy;cases rx;cases ry;let⟨r,rv,p,_⟩:=I.tuple U;let⟨o,g,p',_⟩:=I.tuple q2;have T:dU ds<=50:=by have:dU ds+1<=50:=hd;omega
    have J:r.toArray.size=ds.length:=by rw[size_toArray,<-rv.length,l.len]
    have e2:o.toArray.size=es.length:=by rw[size_toArray,<-g.length,l'.len]
    have C:=SeqAt.RcNeAt.tuples p p' t λj h1 h2=>gz (jh I hu od oe T) l l' rv g j h1 h2;rw[J,e2,bH]at C;exact C X.prog X.w X.xe _ ⟨.bl _,H,I,rfl,q⟩
   |str b=>
    let⟨a,xs,rfl,U,l⟩:=hx;cases(hy);cases rx;let⟨tk,rfl⟩:=ry;let⟨r,rv,p,_⟩:=I.tuple U;have C:=SeqAt.RcNeAt.tuple_str b tk p t;exact C X.prog X.w X.xe _ ⟨.bl _,H,I,rfl,q⟩
   |_=>cases sq
  |lst ds=>
   cases e with
   |lst es=>
    let⟨a,xs,rfl,U,l⟩:=hx;let⟨c,ys,rfl,q2,l'⟩:=hy;cases rx;cases ry;let⟨r,rv,p,_⟩:=I.list U;let⟨o,g,p',_⟩:=I.list q2;have T:dU ds<=50:=by have:dU ds+1<=50:=hd;omega
    have J:r.toArray.size=ds.length:=by rw[size_toArray,<-rv.length,l.len]
    have e2:o.toArray.size=es.length:=by rw[size_toArray,<-g.length,l'.len]
    by_cases hl:ds.length=es.length
    .have C:=SeqAt.RcNeAt.lists p.isList p'.isList (by rw[J,e2,hl]) t λj h1 h2=>gz (jh I hu od oe T) l l' rv g j h1 h2;rw[J,lS ds es hl]at C;exact C X.prog X.w X.xe _ ⟨.bl _,H,I,rfl,q⟩
    .have C:SeqAt.RcNeAt X.A s (.ref a) (.ref c) true:=SeqAt.RcNeAt.lists_lengths p.isList p'.isList (by rw[J,e2];simpa using hl) t;rw[show m7 (.lst ds) (.lst es)=false from rF hl]at q;exact C X.prog X.w X.xe _ ⟨.bl _,H,I,rfl,q⟩
   |_=>cases sq
  |_=>cases sq
end
def  aB(neg:Bool)(d e:D):Vi:=(kU d e).bind λb=>!(.bl (if neg then not b else b))
def xD{K}:jU K (Jk K neg) (aB neg):=λO H x y dx o d Q hd j g e k=>by
 let⟨b,l,e2⟩:=VL e;cases e2;exact⟨dx,o,b,j.full,g.full,l,k _ H (Same.refl _) rfl⟩
section
variable{X:Cx}{pos:Pos}{a b e:Expr}
def iX(r:Room k A):A.units+60<cLine:=by have:=r.un;omega
def MU(r:Room k X.A)(j:PP X a fa)(g:PP X b l):PP X (.Compare a [.Eq] [b] pos) (aa (!19) fa l):=pp_cmp (Be (iX r)) xD j g (ek _)
def MV(r:Room k X.A)(j:PP X a fa)(g:PP X b l):PP X (.Compare a [.NotEq] [b] pos) (aa (aB true) fa l):=pp_cmp (Bf (iX r)) xD j g (ek _)
def MW(r:Room k X.A)(j:PP X a fa)(g:PP X b l):PQ X (.Compare a [.Eq] [b] pos) (ai (aa (!19) fa l)):=pq_cmp (Be (iX r)) xD j g (ek _)
def MX(r:Room k X.A)(j:PP X a fa)(g:PP X b l):PQ X (.Compare a [.NotEq] [b] pos) (ai (aa (aB true) fa l)):=pq_cmp (Bf (iX r)) xD j g (ek _)
structure Cn(K:Frag)(mg:Str->Va)(x:Str)(d:D):Prop where
 ex:∃v u,mg x=!u/\RelV v u/\∀H,Is K H d v
def Bg(c:Cn X.K X.mg x d)(g:Gl X x)(hd:(!7)=false:=by decide):PP X (.Name x pos) (λ_=>!d):=by
 let⟨v,u,h1,h2,j⟩:=c.ex;exact EF g h1 h2 j hd
end
noncomputable def  ud(ns:Vd):Int:=ns.foldl (·+·) 0
def qE(ns:Vd):∀k,k<=ns.length->preSum (λi=>ns.getD i 0) k=ud (ns.take k)
 |0,_=>rfl
 |k+1,h=>by
  show preSum (λi=>ns.getD i 0) k+ns.getD k 0=_;rw[qE ns k (!1),List.take_add_one,getElem?_eq_getElem (!1),Option.toList_some];unfold ud;rw[List.foldl_append];simp[List.getD_eq_getElem?_getD,getElem?_eq_getElem (show k<ns.length by omega)]
def xF:∀{ns:Vd}{us:U9},Vals (ns.map V.int) us->∀(i:Nat)(u:Value),us[i]?=!u->∃t,u=Value.int (ns.getD i 0) t
 |[],_,.nil,i,u,e=>by simp at e
 |n::ns,_,.cons r q,0,u,e=>by
  simp at e;subst e;let⟨t,e⟩:=r;exact⟨t,by rw[e];rfl⟩
 |n::ns,_,.cons r q,i+1,u,e=>by
  let⟨t,e'⟩:=xF q i u (by simpa using e);exact⟨t,by rw[e'];rfl⟩
def call_sumL{X:Cx}(hc:X.calm=true):fC X (.builtin "sum") (λxs H Q=>∃(l:Addr)(ns:Vd),xs=[.ref l]/\SqL X.K H l (ns.map V.int)/\Q (.int (ud ns)) H):=by
 intro pins s σ H xs us Q I r h;let⟨l,ns,rfl,hl,q⟩:=h;let⟨u,rfl,ru⟩:=fE r;cases ru;let⟨its,rv,pl,hz⟩:=I.list hl;have hL:=pl.isList;have hlt:l<s.heap.objs.size:=by let⟨_,e,_⟩:=hL;exact Vn e
 have hlen:its.length=ns.length:=by rw[<-rv.length,length_map]
 refine call_sum_walkAnyS (wpAny_pyIter_list hL ?_);refine⟨s.heap.objs.size,[s.heap.objs.size,l],[s.heap.objs.size],_,_,_,_,λi=>ns.getD i 0,rfl,(Walks.list (A:=X.A.in1) (I.ok.hd hc) _ l (Vy hlt) its.toArray).toS,
  ⟨⟨_,Vo _ rfl,rfl,rfl⟩,hL.push _⟩,λb hb=>?_,λi v hP=>?_,λs' t' hk=>?_⟩
 .rcases mem_cons.mp hb with rfl|hb
  .show s.heap.objs.size<(s.heap.push _).objs.size;rw[size_push'];exact Nat.lt_succ_self _
  .rw[mem_singleton.mp hb];show l<(s.heap.push _).objs.size;rw[size_push'];exact Nat.lt_succ_of_lt hlt
 .exact xF rv i v (by simpa using hP)
 .have e:preSum (λi=>ns.getD i 0) its.toArray.size=ud ns:=by
   rw[size_toArray,hlen,qE ns _ (le_refl _),List.take_length]
  rw[e];have es:s'={s with heap:=s'.heap,toks:=s'.toks}:=by
   have h1:=hk.gens;have h2:=hk.drawn;have h3:=hk.os;cases s';simp only at h1 h2 h3⊢;subst h1 h2 h3;rfl
  rw[es];exact⟨.int _,H,I.kept (t':=s'.toks) λb o ho=>hk.heap b o (λhm=>by rw[mem_singleton.mp hm]at ho;exact VD _ (Vn ho)) (Vl _ ho),⟨_,rfl⟩,q⟩
def  zo:Vg->Option (Vd)
 |[]=>![]
 |d::ds=>(oz d).bind λi=>(zo ds).bind λr=>!(i::r)
def xH{K:Frag}{H:Hp}:∀{ds:Vg}{ns:Vd}{xs:List V},zo ds=!ns->IsL K H ds xs->xs=ns.map V.int
 |[],_,_,e,l=>by cases e;exact l
 |d::ds,_,_,e,⟨x,r,z,h,l⟩=>by
  let⟨i,e1,e⟩:=VL e;let⟨ns,e2,e⟩:=VL e;cases e;subst z;cases intD_some e1;rw[xH e2 l,show x=.int i from h];rfl
def  vT:Vg->Vi:=tw λd=>(kR d).bind λds=>(zo ds).bind λns=>!(.int (ud ns))
def rn_sum{K:Frag}:EM K (λxs H Q=>∃(l:Addr)(ns:Vd),xs=[.ref l]/\SqL K H l (ns.map V.int)/\Q (.int (ud ns)) H) vT:=λO H xs ds d Q hd l e k=>by
 let⟨c,rfl,e⟩:=bc e;let⟨es,e1,e⟩:=VL e;let⟨ns,e2,e⟩:=VL e;cases e;let⟨v,rfl,h⟩:=t9 l;let⟨p,ys,rfl,q,il⟩:=cc e1 h;have:=xH e2 il;subst this;exact⟨p,ns,rfl,msk_le.seq q,k _ H (Same.refl _) rfl⟩
def b_sum:bootBuiltins "sum"=!(.builtin "sum"):=by decide+kernel
def  ItK:Bool->Heap->Addr->Addr->Nat->Prop
 |true,h,it,l,k=>h.IsListIter it l k
 |false,h,it,l,k=>h.IsTupleIter it l k
def  CoK:Bool->Heap->Addr->Vf->Prop
 |true,h,l,its=>h.IsList l its
 |false,h,l,its=>h.IsTuple l its
def ItK.at(x:ItK b h g l k)(e:∀o,h.get? g=!o->h'.get? g=!o):ItK b h' g l k:=by
 cases b
 .exact Heap.IsTupleIter.at x e
 .exact Heap.IsListIter.at x e
def CoK.at(x:CoK b h l g)(e:∀o,h.get? l=!o->h'.get? l=!o):CoK b h' l g:=by
 cases b
 .let⟨o,a,r⟩:=x;exact⟨o,e o a,r⟩
 .exact Heap.IsList.at x e
def ItK.live(x:ItK b h j l k):∃o n g,h.get? j=!o/\o.cls=.type n/\o.data=.fields g/\(n="list_iterator"\/n="tuple_iterator"):=by
 cases b
 .let⟨o,e,c,d⟩:=x;exact⟨o,_,_,e,c,d,.inr rfl⟩
 .let⟨o,e,c,d⟩:=x;exact⟨o,_,_,e,c,d,.inl rfl⟩
def Bh(hit:s.heap.IsTupleIter it t i)(ht:s.heap.IsTuple t its)(hx:its[i]?=!x)(hQ:∀h',h'.IsTupleIter it t (i+1)->Heap.SameBut it s.heap h'->Q x {s with heap:=h'}):wpAny (!6) A (Builtin.SmallTypes.nextOf (.ref it)) Q E s:=by
 let⟨o,ho,hc,hd⟩:=id hit;let⟨ol,hol,_,nl,hdl⟩:=ht;have go:wpAny (!6) A.in1 (Builtin.«tuple_iterator.__next__» ⟨[.ref it],[]⟩) (λfin s'=>∃v,fin=.done (.ret v)/\wpAny (!6) A (pure v) Q E s') E s:=by
  show wpAny _ _ (field (.ref it) 0>>=_) _ _ s;refine Vk (wpAny_field ho hd rfl ?_);refine Vk (wpAny_field ho hd rfl ?_);refine Vk (wpAny_seqItems hol hdl ?_);simp only[Int.toNat_natCast,hx];refine Vk (wpAny_setField ho hd (by simp) (Vm ⟨x,rfl,Vm (hQ _ ⟨_,Heap.get?_update_self _ ho (Obj.isFreed_of_fields (Obj.data_mapFields hd _)),(Obj.cls_mapFields ..).trans hc,?_⟩ (Heap.SameBut.update ..))⟩));rw[Obj.data_mapFields hd];simp[rawInt]
 exact Vk (wpAny_callSpecial?_slot hit.typeIs F.slot_tuple_iterator_next (wpAny_call_entry F.slot_tuple_iterator_next hit.typeIs F.entry_tuple_iterator_next go (F.args_tuple_iterator_next_1 _)))
def rG(hh:A.handled=none)(hit:s.heap.IsTupleIter it t i)(ht:s.heap.IsTuple t its)(hx:its[i]?=none)(hE:∀h' e,Heap.ExtBut it s.heap h'->(∃o,h'.get? e=!o/\o.cls=.type "StopIteration")->E (.ref e) {s with heap:=h'}):wpAny (!6) A (Builtin.SmallTypes.nextOf (.ref it)) Q E s:=by
 let⟨o,ho,hc,hd⟩:=id hit;let⟨ol,hol,_,nl,hdl⟩:=ht;refine Vk (wpAny_callSpecial?_slot hit.typeIs F.slot_tuple_iterator_next (wpAny_call_entry F.slot_tuple_iterator_next hit.typeIs F.entry_tuple_iterator_next ?_ (F.args_tuple_iterator_next_1 _)));show wpAny _ _ (field (.ref it) 0>>=_) _ _ s;refine Vk (wpAny_field ho hd rfl ?_);refine Vk (wpAny_field ho hd rfl ?_);refine Vk (wpAny_seqItems hol hdl ?_);simp only[Int.toNat_natCast,hx];refine Vk (wpAny_rule (Vk (wpAny_setField ho hd (by simp) ?_)));refine Vk ?_;refine Vk (wpAny_newObj_type ?_ (by size_fits));refine Vk (VA (by first|rfl|(simp only[firstArgMember];rfl)) ?_);refine wpAny_newObj_type ?_ (by size_fits);refine Vk (wpAny_handled ?_);first|rw[show A.in1.handled=none from hh]|rw[hh]
 refine Vk (Vm (wpAny_throw ?_));exact hE _ _ (((Heap.SameBut.update ..).extBut.push _).push _) ⟨_,Vo _ rfl,rfl⟩
def xI(hit:ItK b s.heap it l i)(ht:CoK b s.heap l its)(hx:its[i]?=!x)(hQ:∀h',ItK b h' it l (i+1)->Heap.SameBut it s.heap h'->Q x {s with heap:=h'}):wpAny (!6) A (Builtin.SmallTypes.nextOf (.ref it)) Q E s:=by
 cases b
 .exact Bh hit ht hx hQ
 .exact wpAny_nextOf_list_item hit ht hx hQ
def lT(hh:A.handled=none)(hit:ItK b s.heap it l i)(ht:CoK b s.heap l its)(hx:its[i]?=none)(hE:∀h' e,Heap.ExtBut it s.heap h'->(∃o,h'.get? e=!o/\o.cls=.type "StopIteration")->E (.ref e) {s with heap:=h'}):wpAny (!6) A (Builtin.SmallTypes.nextOf (.ref it)) Q E s:=by
 cases b
 .exact rG hh hit ht hx hE
 .exact wpAny_nextOf_list_end hh hit ht hx hE
structure ZA(z TI TO i1 i2:Addr):Prop where
 TIz:TI≠z
 TOz:TO≠z
 i1z:i1≠z
 i2z:i2≠z
 TITO:TI≠TO
 TIi1:TI≠i1
 TIi2:TI≠i2
 TOi1:TO≠i1
 TOi2:TO≠i2
 i12:i1≠i2
structure ZL(z TO i1 i2 l:Addr):Prop where
 z:l≠z
 TO:l≠TO
 i1:l≠i1
 i2:l≠i2
structure ZSt(b c:Bool)(z TI TO i1 i2 l1 l2:Addr)(f0:Value)(k:Nat)(h:Heap):Prop where
 ap:ZA z TI TO i1 i2
 hz:IsZip h z TI TO f0
 hI:IsPair h TI (.ref i1) (.ref i2)
 hO:∃a d,IsPair h TO a d
 h1:ItK b h i1 l1 k
 h2:ItK c h i2 l2 k
def ItK.ext(x:ItK b h g l k)(e:Heap.SameBut c h h')(j:g≠c):ItK b h' g l k:=x.at λo q=>e.extBut _ _ j q
def CoK.ext(x:CoK b h l g)(e:Heap.SameBut c h h')(j:l≠c):CoK b h' l g:=x.at λo q=>e.extBut _ _ j q
def Bi{prog:Program}{w:World}{A:Around}{E:U8}{s:Shared}{z TI TO t r l1 l2}(Z:ZSt b c z TI TO t r l1 l2 .none k s.heap)(L1:ZL z TO t r l1)(L2:ZL z TO t r l2)(c1:CoK b s.heap l1 xs)(c2:CoK c s.heap l2 ys)(hx:xs[k]?=!x)(hy:ys[k]?=!y)(hQ:∀h',ZSt b c z TI TO t r l1 l2 (rawInt s.heap.objs.size) (k+1) h'->IsPair h' s.heap.objs.size x y->h'.objs.size=s.heap.objs.size+1->
   (∀d o,d≠z->d≠TO->d≠t->d≠r->s.heap.get? d=!o->h'.get? d=!o)->Q (!(.ref s.heap.objs.size)) {s with heap:=h'}):wpAny (!6) A (pyNext (.ref z)) Q E s:=by
 let⟨D,C,hI,⟨a0,d0,hO⟩,h1,h2⟩:=Z
 have hT:s.TypeIs (.ref z) "zip":=⟨_,C,rfl⟩
 have go:wpAny (!6) A.in1 (Builtin.«zip.__next__» ⟨[.ref z],[]⟩) (λfin s'=>∃v,fin=.done (.ret v)/\Q (!v) s') (λe s'=>False) s:=by
  show wpAny _ _ (field (.ref z) 2>>=_) _ _ _;refine Vk (wpAny_field C rfl (x:=.bool false) rfl ?_);refine Vk (wpAny_field C rfl rfl (Vk (wpAny_seqItems hI rfl ?_)));refine Vk ?_;refine Vk (wpAny_field C rfl rfl (Vm ?_));refine Vk (wpAny_rule (Vk (wpAny_field C rfl rfl (Vk (wpAny_setField_rec C (by simp) λg1 z1 g=>?_)))));replace z1:IsZip g1 z TI TO .ellipsis:=z1;refine Vk ?_;simp only[List.zipIdx_cons,List.zipIdx_nil,List.forIn_cons,List.forIn_nil];refine Vk (Vk (wpAny_onRaise ?_));refine Vk (xI (h1.ext g D.i1z) (c1.ext g L1.z) hx λg2 k2 p=>Vm ?_);have O2:=p.extBut _ _ D.TOi1 (g.extBut _ _ D.TOz hO);refine Vk (wpAny_seqItems O2 rfl (Vk (wpAny_updateSeq_pair O2 λg3 O3 l=>Vk (wpAny_letGo (Vm ?_)))));replace O3:IsPair g3 TO x d0:=O3;refine Vk (Vk (wpAny_onRaise ?_));refine Vk (xI (((h2.ext g D.i2z).ext p D.i12.symm).ext l D.TOi2.symm) (((c2.ext g L2.z).ext p L2.i1).ext l L2.TO) hy λg4 k4 U=>Vm ?_);have O4:=U.extBut _ _ D.TOi2 O3;refine Vk (wpAny_seqItems O4 rfl (Vk (wpAny_updateSeq_pair O4 λg5 O5 s5=>Vk (wpAny_letGo (Vm (Vm ?_))))));replace O5:IsPair g5 TO x y:=O5;refine Vk (wpAny_seqItems O5 rfl (Vk (wpAny_newTuple ?_)));have sz:g5.objs.size=s.heap.objs.size:=by rw[s5.1,U.1,l.1,p.1,g.1]
  have z5:=s5.extBut _ _ D.TOz.symm (U.extBut _ _ D.i2z.symm (l.extBut _ _ D.TOz.symm (p.extBut _ _ D.i1z.symm z1)));have J:∀d o,d≠z->d≠TO->d≠t->d≠r->s.heap.get? d=!o->g5.get? d=!o:=λd o j n2 n3 n4 e=>
   s5.extBut _ _ n2 (U.extBut _ _ n4 (l.extBut _ _ n2 (p.extBut _ _ n3 (g.extBut _ _ j e))))
  have a5:=((k2.ext l D.TOi1.symm).ext U D.i12).ext s5 D.TOi1.symm;have b5:=k4.ext s5 D.TOi2.symm;have I:=Vn z5;refine Vk ?_;have z6:IsZip (g5.push {cls:=.type "tuple",data:=.seq #[x,y]}) z TI TO .ellipsis:=Vl _ z5;refine Vk (wpAny_setField_rec z6 (by simp) λg7 z7 s7=>?_);replace z7:IsZip g7 z TI TO (rawInt g5.objs.size):=z7;refine wpAny_setField_rec z7 (by simp) λg8 z8 s8=>?_;replace z8:IsZip g8 z TI TO _:=z8;have up:∀d o,d≠z->g5.get? d=!o->g8.get? d=!o:=λd o j e=>s8.extBut _ _ j (s7.extBut _ _ j (Vl _ e));have T8:=s8.extBut _ _ (Nat.ne_of_gt I) (s7.extBut _ _ (Nat.ne_of_gt I) (Vo _ rfl));have T:g8.objs.size=g5.objs.size+1:=by rw[s8.1,s7.1,Heap.size_push]
  rw[sz]at z8 T8 T;refine Vm ⟨_,rfl,?_⟩;rw[sz];exact hQ g8 ⟨D,z8,up _ _ D.TIz (J _ _ D.TIz D.TITO D.TIi1 D.TIi2 hI),⟨_,_,up _ _ D.TOz O5⟩,a5.at λo e=>up _ o D.i1z e,b5.at λo e=>up _ o D.i2z e⟩ T8 T λd o j n2 n3 n4 e=>up d o j (J d o j n2 n3 n4 e)
 refine Vk (wpAny_attempt (wpAny_callSpecial?_slot hT F.slot_zip_next (wpAny_call_entry F.slot_zip_next hT F.entry_zip_next (VJ go (λfin s' ⟨v,e,q⟩=>⟨v,e,Vm q⟩) λ_ _ q=>q.elim) (F.args_zip_next_1 _))))
section
variable{prog:Program}{w:World}{A:Around}{E:U8}{s:Shared}
def Bj{z TI TO T J l1 l2}(hh:A.handled=none)(Z:ZSt b c z TI TO T J l1 l2 .none k s.heap)(L1:ZL z TO T J l1)(L2:ZL z TO T J l2)(c1:CoK b s.heap l1 xs)(c2:CoK c s.heap l2 ys)(U:xs[k]?=none\/ys[k]?=none)(hQ:∀h',(∀d o,d≠z->d≠TO->d≠T->d≠J->s.heap.get? d=!o->h'.get? d=!o)->Q none {s with heap:=h'}):wpAny (!6) A (pyNext (.ref z)) Q E s:=by
 let⟨D,C,hI,⟨a0,d0,hO⟩,h1,h2⟩:=Z;have hT:s.TypeIs (.ref z) "zip":=⟨_,C,rfl⟩;let EE:U8:=λe s'=>∃h' a,e=.ref a/\s'={s with heap:=h'}/\(∀d o,d≠z->d≠TO->d≠T->d≠J->s.heap.get? d=!o->h'.get? d=!o)/\∃o,h'.get? a=!o/\o.cls=.type "StopIteration";have go:wpAny (!6) A.in1 (Builtin.«zip.__next__» ⟨[.ref z],[]⟩) (λfin s'=>False) EE s:=by
  show wpAny _ _ (field (.ref z) 2>>=_) _ _ _;refine Vk (wpAny_field C rfl (x:=.bool false) rfl ?_);refine Vk (wpAny_field C rfl rfl (Vk (wpAny_seqItems hI rfl ?_)));refine Vk ?_;refine Vk (wpAny_field C rfl rfl (Vm ?_));refine Vk (wpAny_rule (Vk (wpAny_field C rfl rfl (Vk (wpAny_setField_rec C (by simp) λg1 z1 l=>?_)))));replace z1:IsZip g1 z TI TO .ellipsis:=z1;refine Vk ?_;simp only[List.zipIdx_cons,List.zipIdx_nil,List.forIn_cons,List.forIn_nil];refine Vk (Vk (wpAny_onRaise ?_));cases hx:xs[k]? with
  |none=>
   refine Vk (lT hh (h1.ext l D.i1z) (c1.ext l L1.z) hx λg2 e p he=>?_);let⟨oe,g,j⟩:=he;have z2:=p _ _ D.i1z.symm z1;have t:e≠z:=λq=>by subst q;rw[z2]at g;cases g;simp at j
   refine wpAny_setField_rec z2 (by simp) λg3 _ r=>?_;exact⟨g3,e,rfl,rfl,λd o I _ n3 _ q=>r.extBut _ _ I (p _ _ n3 (l.extBut _ _ I q)),oe,r.extBut _ _ t g,j⟩
  |some x=>
   have hy:ys[k]?=none:=by
    rcases U with h|h
    .rw[hx]at h;cases h
    .exact h
   refine Vk (xI (h1.ext l D.i1z) (c1.ext l L1.z) hx λg2 k2 p=>Vm ?_);have O2:=p.extBut _ _ D.TOi1 (l.extBut _ _ D.TOz hO);refine Vk (wpAny_seqItems O2 rfl (Vk (wpAny_updateSeq_pair O2 λg3 O3 r=>Vk (wpAny_letGo (Vm ?_)))));refine Vk (Vk (wpAny_onRaise ?_));refine Vk (lT hh (((h2.ext l D.i2z).ext p D.i12.symm).ext r D.TOi2.symm) (((c2.ext l L2.z).ext p L2.i1).ext r L2.TO) hy λg4 e s4 he=>?_);let⟨oe,g,j⟩:=he;have z4:=s4 _ _ D.i2z.symm (r.extBut _ _ D.TOz.symm (p.extBut _ _ D.i1z.symm z1));have t:e≠z:=λq=>by subst q;rw[z4]at g;cases g;simp at j
   refine wpAny_setField_rec z4 (by simp) λg5 _ s5=>?_;exact⟨g5,e,rfl,rfl,λd o I n2 n3 n4 q=>s5.extBut _ _ I (s4 _ _ n4 (r.extBut _ _ n2 (p.extBut _ _ n3 (l.extBut _ _ I q)))),oe,s5.extBut _ _ t g,j⟩
 refine Vk (wpAny_attempt (wpAny_callSpecial?_slot hT F.slot_zip_next (wpAny_call_entry F.slot_zip_next hT F.entry_zip_next (VJ go (λ_ _ q=>q.elim) λe s' q=>?_) (F.args_zip_next_1 _))));let⟨h',a,rfl,rfl,hk,o,ho,hc⟩:=q;exact Vk (wpAny_isInstance ⟨o,ho,hc⟩ isSubtype_stop (Vm (hQ _ hk)))
noncomputable def  aP:Bool->Addr->Obj
 |true,l=>{cls:=.type "list_iterator",data:=.fields #[.ref l,.int 0 0]}
 |false,l=>{cls:=.type "tuple_iterator",data:=.fields #[.ref l,.int 0 0]}
def ue(h:CoK b s.heap l its)(hQ:Q (.ref s.heap.objs.size) {s with heap:=s.heap.push (aP b l)}):wpAny (!6) A (pyIter (.ref l)) Q E s:=by
 cases b
 .exact wpAny_pyIter_tuple h hQ
 .exact wpAny_pyIter_list h hQ
abbrev zG(h:Heap)(b c:Bool)(l1 l2:Addr):Heap:=((((h.push (aP b l1)).push (aP c l2)).push {cls:=.type "tuple",data:=.seq #[.ref h.objs.size,.ref (h.push (aP b l1)).objs.size]}).push {cls:=.type "tuple",data:=.seq #[.none,.none]}).push
 {cls:=.type "zip",data:=.fields #[.none,.bool false,.bool false,.ref ((h.push (aP b l1)).push (aP c l2)).objs.size,.ref (((h.push (aP b l1)).push (aP c l2)).push {cls:=.type "tuple",data:=.seq #[.ref h.objs.size,.ref (h.push (aP b l1)).objs.size]}).objs.size]}
def Bk(b c:Bool)(l1 l2:Addr)(xs ys:Vf):
  Meets (Builtin.«zip.__new__» ⟨[.type "zip",.ref l1,.ref l2],[]⟩) (λ_ R s=>CoK b s.heap l1 xs/\CoK c s.heap l2 ys/\
   R (.ok (.ret (.ref (s.heap.objs.size+4)))) {s with heap:=zG s.heap b c l1 l2}):=
 .of_wp λprog w A R s h=>by
  let⟨hp,g,d,tk,os⟩:=s;let⟨hl1,hl2,h⟩:=h;have hsub:=sub_zip;have hL1:CoK b (Shared.heap ⟨hp,g,d,tk,os⟩) l1 xs:=hl1;have hL2:CoK c (Shared.heap ⟨hp.push (aP b l1),g,d,tk,os⟩) l2 ys:=CoK.at hl2 λo e=>Vl _ e;wp_walk using ue hL1,ue hL2;refine⟨_,rfl,?_⟩;have z4:((((hp.push (aP b l1)).push (aP c l2)).push {cls:=.type "tuple",data:=.seq #[.ref hp.objs.size,.ref (hp.push (aP b l1)).objs.size]}).push {cls:=.type "tuple",data:=.seq #[.none,.none]}).objs.size=hp.objs.size+4:=by
   rw[Heap.size_push,Heap.size_push,Heap.size_push,Heap.size_push]
  rw[<-z4]at h;exact h
def zp(J:CoK b s.heap g xs)(I:CoK c s.heap j ys)(h:∀h',ZSt b c (s.heap.objs.size+4) (s.heap.objs.size+2) (s.heap.objs.size+3) s.heap.objs.size (!13) g j .none 0 h'->h'.objs.size=s.heap.objs.size+5->
   (∀d o,s.heap.get? d=!o->h'.get? d=!o)->Q (.ref (s.heap.objs.size+4)) {s with heap:=h'}):
  wpAny (!6) A (call (.type "zip") [.ref g,.ref j]) Q E s:=by
 refine callType_new F.called_zip (!2) (F.typeCall_zip_2 _ _) (F.newCall_zip_2 _ _) (λobj=>F.args_object_init_3 obj _ _) F.entry_zip_new (Bk b c g j xs ys) ⟨J,I,?_⟩
 have C:(s.heap.push (aP b g)).objs.size=s.heap.objs.size+1:=Heap.size_push ..
 have t:((s.heap.push (aP b g)).push (aP c j)).objs.size=s.heap.objs.size+2:=by rw[Heap.size_push,C]
 have r:(((s.heap.push (aP b g)).push (aP c j)).push {cls:=.type "tuple",data:=.seq #[.ref s.heap.objs.size,.ref (s.heap.push (aP b g)).objs.size]}).objs.size=s.heap.objs.size+3:=by rw[Heap.size_push,t]
 have U:((((s.heap.push (aP b g)).push (aP c j)).push {cls:=.type "tuple",data:=.seq #[.ref s.heap.objs.size,.ref (s.heap.push (aP b g)).objs.size]}).push {cls:=.type "tuple",data:=.seq #[.none,.none]}).objs.size=s.heap.objs.size+4:=by rw[Heap.size_push,r]
 have z5:(zG s.heap b c g j).objs.size=s.heap.objs.size+5:=by rw[Heap.size_push,U]
 have g5:IsZip (zG s.heap b c g j) (s.heap.objs.size+4) (s.heap.objs.size+2) (s.heap.objs.size+3) .none:=by
  have:=Vo ((((s.heap.push (aP b g)).push (aP c j)).push {cls:=.type "tuple",data:=.seq #[.ref s.heap.objs.size,.ref (s.heap.push (aP b g)).objs.size]}).push {cls:=.type "tuple",data:=.seq #[.none,.none]})
   (o:={cls:=.type "zip",data:=.fields #[.none,.bool false,.bool false,.ref ((s.heap.push (aP b g)).push (aP c j)).objs.size,.ref (((s.heap.push (aP b g)).push (aP c j)).push {cls:=.type "tuple",data:=.seq #[.ref s.heap.objs.size,.ref (s.heap.push (aP b g)).objs.size]}).objs.size]}) rfl
  rw[U]at this;rw[<-t,<-r];exact this
 have g4:IsPair (zG s.heap b c g j) (s.heap.objs.size+3) .none .none:=by
  have:=Vo (((s.heap.push (aP b g)).push (aP c j)).push {cls:=.type "tuple",data:=.seq #[.ref s.heap.objs.size,.ref (s.heap.push (aP b g)).objs.size]}) (o:={cls:=.type "tuple",data:=.seq #[.none,.none]}) rfl;rw[r]at this;exact Vl _ this
 have g3:IsPair (zG s.heap b c g j) (s.heap.objs.size+2) (.ref s.heap.objs.size) (.ref (!13)):=by
  have:=Vo ((s.heap.push (aP b g)).push (aP c j)) (o:={cls:=.type "tuple",data:=.seq #[.ref s.heap.objs.size,.ref (s.heap.push (aP b g)).objs.size]}) rfl;rw[t]at this;rw[<-C];exact Vl _ (Vl _ this)
 have fr:∀o,o.isFreed=false->∀(T:Heap),(T.push o).get? T.objs.size=!o:=λo ho T=>Vo _ ho
 have fb:∀(b:Bool)(l:Addr),(aP b l).isFreed=false:=λb l=>by cases b<;>rfl
 have g2:(zG s.heap b c g j).get? (!13)=!(aP c j):=by rw[<-C];exact Vl _ (Vl _ (Vl _ (fr _ (fb c j) _)))
 have g1:(zG s.heap b c g j).get? s.heap.objs.size=!_:=Vl _ (Vl _ (Vl _ (Vl _ (fr _ (fb b g) _))))
 have p:∀(d:Bool)(a l:Addr)(G:Heap),G.get? a=!(aP d l)->ItK d G a l 0:=λd a l G e=>by cases d<;>exact⟨_,e,rfl,rfl⟩
 refine⟨⟨_,g5,rfl⟩,h _ ⟨⟨?_,?_,?_,?_,?_,?_,?_,?_,?_,?_⟩,g5,g3,⟨_,_,g4⟩,p b _ _ _ g1,p c _ _ _ g2⟩ z5 λd o x=>Vl _ (Vl _ (Vl _ (Vl _ (Vl _ x))))⟩
 all_goals (show(_:Nat)≠_;omega)
end
section
variable{X:Cx}{pins:U5}{σ:List (Option V)}{H:Hp}{s:Shared}{h':Heap}
def oA{g:List Addr}(I:Inv X pins σ H s)(l:∀b∈g,H b=none)(k:∀b o,b ∉ g->s.heap.get? b=!o->h'.get? b=!o):HOk X.prog X.w H h':=λb u e=>by
 have j:∀b u,H b=!u->b ∉ g:=λb u e z=>by rw[l b z]at e;cases e
 refine(I.hok b u e).stay (λc v p q=>k c v ?_ q) (λ_ q=>q) λ_ _ q=>q;grind
def HB{g:List Addr}(j:∀b∈g,j8 X pins H b):∀b∈g,(b∈X.ex\/X.s₀.heap.objs.size<=b)/\b≠X.env.locals/\(∀x c,X.env.cells.lookup x=!c->c≠b)/\∀p∈X.pn++pins,p.1≠b:=λb l=>by
 let⟨C,f1,f2,t,r,o⟩:=j b l;grind
def Inv.turnedL{ch:List Addr}(I:Inv X pins σ H s)(hf:∀b∈ch,j8 X pins H b)(k:∀b o,b ∉ ch->s.heap.get? b=!o->h'.get? b=!o):Inv X pins σ H {s with heap:=h',toks:=t'}:=by
 refine I.step (HB hf) (λb o _ _ hc e _=>k b o hc e) (λb o _ _ hc e _=>⟨o.slots,k b o hc e⟩) (λ_ _ _ _ n=>n)
  (λb o hc e=>⟨o,k b o hc e⟩) (λ_ _ e=>e) (λ_ _ _ e=>e) (λb ps e=>⟨#[],by rw[e];simp⟩) (λm hm=>?_) (oA I (λb hb=>(hf b hb).1) k) I.bare
 let⟨o,es,ep,ho,r⟩:=hm;exact⟨o,es,ep,k _ o (λz=>(hf _ z).2.1 rfl) ho,r⟩
def Inv.turnedNew{ch:List Addr}{p:Addr}(I:Inv X pins σ H s)(hf:∀b∈ch,j8 X pins H b)(k:∀b o,b ∉ ch->s.heap.get? b=!o->h'.get? b=!o)(hp:s.heap.objs.size<=p)(new:ObjOk X.prog X.w (aR H p o) h' p o):Inv X pins σ (aR H p o) {s with heap:=h',toks:=t'}:=by
 have hn:=I.hok.fresh hp;have lt:∀b o,s.heap.get? b=!o->b≠p:=λb o e=>Vy (Vu (Vn e) hp);have keep:∀b u,H b=!u->aR H p o b=!u:=λb u e=>by rw[ag (am e hn)];exact e
 refine I.step (HB hf) (λb o _ _ hc e _=>k b o hc e) (λb o _ _ hc e _=>⟨o.slots,k b o hc e⟩) (λb o _ e n=>by rw[ag (lt b o e)];exact n)
  (λb o hc e=>⟨o,k b o hc e⟩) (λb xs e=>keep b _ e) (λb o u e=>keep b _ e) (λb ps e=>⟨#[],by rw[keep b _ e];simp⟩) (λm hm=>?_) ((oA I (λb hb=>(hf b hb).1) k).adopt hn new) I.bare
 let⟨o,es,ep,ho,r⟩:=hm;exact⟨o,es,ep,k _ o (λz=>(hf _ z).2.1 rfl) ho,r⟩
def  SqK(b:Bool)(K:Frag)(H:Hp)(a:Addr)(xs:List V):Prop:=if b=true then SqL K H a xs else SqT K H a xs
def Inv.coK(I:Inv X pins σ H s)(h:SqK b X.K H a xs):∃g:U9,Vals xs g/\CoK b s.heap a g.toArray/\xs.length<=sizeLine:=by
 cases b
 .let⟨g,r,t,z⟩:=I.tuple (h);exact⟨g,r,t,z⟩
 .let⟨g,r,t,z⟩:=I.list (h);exact⟨g,r,t.isList,z⟩
def Inv.coK_inj(I:Inv X pins σ H s)(h:SqK b X.K H a xs)(h':SqK b X.K H a ys):xs=ys:=by
 cases b
 .exact I.tuple_inj h h'
 .exact I.list_inj h h'
end
def  QQ(K:Frag)(b c:Bool)(l1 l2:Addr):It:=
 ⟨λi H=>∃xs ys x y,SqK b K H l1 xs/\SqK c K H l2 ys/\xs[i]?=!x/\ys[i]?=!y,
  λi H v H'=>∃p x y,v=.ref p/\H p=none/\H'=aR H p (.tup [x,y])/\(∀xs,SqK b K H l1 xs->xs[i]?=!x)/\∀ys,SqK c K H l2 ys->ys[i]?=!y,
  λi H=>∃xs ys,SqK b K H l1 xs/\SqK c K H l2 ys/\(xs.length<=i\/ys.length<=i)⟩
def CoK.get(x:CoK b h l g):∃o,h.get? l=!o/\∃n,o.data=.seq g n:=by
 cases b
 .let⟨o,e,_,n,d⟩:=x;exact⟨o,e,n,d⟩
 .let⟨o,e,_,n,d⟩:=x;exact⟨o,e,n,d⟩
def xJ{z TI TO r p J I l}(Z:ZSt b c z TI TO r p J I f0 k h)(C:CoK d h l T)(U:l≠TO):ZL z TO r p l:=by
 let⟨o,e,n,q⟩:=C.get;refine⟨λy=>?_,U,λy=>?_,λy=>?_⟩
 .subst y;rw[Z.hz]at e;cases e;cases q
 .subst y;let⟨o',_,t,g,_,j,_⟩:=Z.h1.live;rw[g]at e;cases e;rw[j]at q;cases q
 .subst y;let⟨o',_,t,g,_,j,_⟩:=Z.h2.live;rw[g]at e;cases e;rw[j]at q;cases q
def Bl{P:Program}{w:World}{K:Frag}{J:Vh}{x1:Nat}{tpos:Pos}(b c:Bool)(l1 U z TI TO t r:Addr)(n1:l1≠TO)(n2:U≠TO):
  Turn P w K (.Tuple J x1 tpos) (QQ K b c l1 U) [z,TI,TO,t,r] z (λi h=>ZSt b c z TI TO t r l1 U .none i h) where
 mem:=by simp
 obj:=λi h Z d hd=>by
  simp at hd;rcases hd with rfl|rfl|rfl|rfl|rfl
  .exact⟨_,Z.hz,λv q=>by cases q⟩
  .exact⟨_,Z.hI,λv q=>by cases q⟩
  .let⟨a,d,e⟩:=Z.hO;exact⟨_,e,λv q=>by cases q⟩
  .let⟨o,n,vs,e,_,dd,_⟩:=Z.h1.live;exact⟨o,e,λv q=>by rw[dd]at q;cases q⟩
  .let⟨o,n,vs,e,_,dd,_⟩:=Z.h2.live;exact⟨o,e,λv q=>by rw[dd]at q;cases q⟩
 keep:=λi h h' Z k=>by
  let⟨a,d,e⟩:=Z.hO;exact⟨Z.ap,k z (by simp) _ Z.hz,k TI (by simp) _ Z.hI,⟨a,d,k TO (by simp) _ e⟩,Z.h1.at λo q=>k t (by simp) o q,Z.h2.at λo q=>k r (by simp) o q⟩
 item:=by
  intro X hP hw hK hc i pins s σ H E I hf Z hg;subst hP hw hK;let⟨xs,ys,x,y,hx,hy,ex,ey⟩:=hg;let⟨its,rv,p,hz1⟩:=I.coK hx;let⟨jts,g,p2,hz2⟩:=I.coK hy;let⟨u,hu,ru⟩:=rv.get ex;let⟨v,hv,rv'⟩:=g.get ey;have L1:=xJ Z p n1;have L2:=xJ Z p2 n2;refine Bi Z L1 L2 p p2 (by simpa using hu) (by simpa using hv) λh' T T' sz k'=>⟨_,rfl,?_⟩;refine wpAny_letOwnedTupleGo_zip T.hz λh2 C l=>?_;have zlt:=Vn Z.hz;have hne:=Nat.ne_of_gt zlt;have Z2:ZSt b c z TI TO t r l1 U .none (i+1) h2:=by
   let⟨a,d,e⟩:=T.hO;exact⟨Z.ap,C,l.extBut _ _ Z.ap.TIz T.hI,⟨a,d,l.extBut _ _ Z.ap.TOz e⟩,T.h1.at λo q=>l.extBut _ _ Z.ap.i1z q,T.h2.at λo q=>l.extBut _ _ Z.ap.i2z q⟩
  have T2:=l.extBut _ _ hne T';have kk:∀d o,d ∉ [z,TI,TO,t,r]->s.heap.get? d=!o->h2.get? d=!o:=λd o hd e=>by
   simp at hd;exact l.extBut _ _ hd.1 (k' d o hd.1 hd.2.2.1 hd.2.2.2.1 hd.2.2.2.2 e)
  have fr:=I.hok.fresh (VI _);refine⟨.ref s.heap.objs.size,_,I.turnedNew hf kk (VI _) ?_,rfl,⟨s.heap.objs.size,x,y,rfl,fr,rfl,λzs j=>by rw[I.coK_inj j hx];exact ex,λzs j=>by rw[I.coK_inj j hy];exact ey⟩,Z2,λd hd=>?_⟩
  .exact⟨by show 2<=sizeLine;decide,[u,v],.cons ru (.cons rv' .nil),⟨_,T2,rfl,_,rfl⟩⟩
  .obtain⟨o,eo,_⟩:∃o,s.heap.get? d=!o/\True:=by
    simp at hd;rcases hd with rfl|rfl|rfl|rfl|rfl
    .exact⟨_,Z.hz,trivial⟩
    .exact⟨_,Z.hI,trivial⟩
    .let⟨a,d,e⟩:=Z.hO;exact⟨_,e,trivial⟩
    .let⟨o,n,vs,e,_⟩:=Z.h1.live;exact⟨_,e,trivial⟩
    .let⟨o,n,vs,e,_⟩:=Z.h2.live;exact⟨_,e,trivial⟩
   rw[ag (Nat.ne_of_lt (Heap.lt_size eo))];exact(hf d hd).1
 done:=by
  intro X hP hw hK hc i pins s σ H E I hf Z hg;subst hP hw hK;let⟨xs,ys,hx,hy,hl⟩:=hg;let⟨its,rv,p,hz1⟩:=I.coK hx;let⟨jts,g,p2,hz2⟩:=I.coK hy;have e1:=rv.length;have e2:=g.length;refine Bj (I.ok.hd hc) Z (xJ Z p n1) (xJ Z p2 n2) p p2 ?_ λh' k'=>⟨rfl,I.turnedL hf λd o hd e=>?_⟩
  .rcases hl with hl|hl
   .exact .inl (by simp;omega)
   .exact .inr (by simp;omega)
  .simp at hd;exact k' d o hd.1 hd.2.2.1 hd.2.2.2.1 hd.2.2.2.2 e
 self:=λ_ _ _ _ _ Z h=>wpAny_pyIter_zip Z.hz h
section
variable{X:Cx}{tg a b e:Expr}{es:Vh}{p pos:Pos}
def MY:bootBuiltins "zip"=!(.type "zip"):=by decide+kernel
def  QR(K:Frag)(ta:TA):TI:=λσ H R=>ta σ H λvs H1=>∃b c l1 l2 xs ys,vs=[.ref l1,.ref l2]/\SqK b K H1 l1 xs/\SqK c K H1 l2 ys/\R (QQ K b c l1 l2) H1
def Jl{x1}(hg:Gl X "zip")(hm:X.mg "zip"=none)(ha:PA X [a,b] ta)(hs:starEach [a,b] X.env=[(false,eval a X.env),(false,eval b X.env)])(hs2:starEach [b] X.env=[(false,eval b X.env)]):
  PI X (.Tuple elts x1 tpos) (.Call (.Name "zip" p) [a,b] [] pos) (QR X.K ta):=by
 intro pins s σ H R I h
 refine Call_ (dq I hg hm MY (PyProof.Rows.callWith_type1 (bw (ha pos pins s σ H _ I h) λus s1 ⟨vs,H1,I1,r1,q1⟩=>?_) (by rw[hs,hs2]) (by rw[hs2];rfl)))
 let⟨b,c,l1,l2,xs,ys,e,hx,hy,q⟩:=q1
 subst e
 let⟨u,v,rfl,ru,rv⟩:=AG r1
 cases ru
 cases rv
 let⟨its,rx,p1,_⟩:=I1.coK hx
 let⟨jts,ry,p2,_⟩:=I1.coK hy
 have lt:∀{d:Bool}{l:Addr}{its:Vf},CoK d s1.heap l its->l<s1.heap.objs.size:=λC=>by let⟨o,e,_⟩:=C.get;exact Vn e
 refine zp p1 p2 λh' Z sz k=>wpAny_pyIter_zip Z.hz ?_
 have I2:Inv X pins σ H1 {s1 with heap:=h'}:=I1.kept k
 refine⟨s1.heap.objs.size+4,[s1.heap.objs.size+4,s1.heap.objs.size+2,s1.heap.objs.size+3,s1.heap.objs.size,s1.heap.objs.size+1],_,_,H1,rfl,I2,Bl b c l1 l2 _ _ _ _ _ ?_ ?_,Z,λd hd=>?_,q⟩
 .exact Vy (Vu (lt p1) (Nat.le_add_right _ _))
 .exact Vy (Vu (lt p2) (Nat.le_add_right _ _))
 .have hge:s1.heap.objs.size<=d:=by
   simp at hd;rcases hd with rfl|rfl|rfl|rfl|rfl<;>first|exact Nat.le_add_right _ _|exact VI _
  exact I1.fpOk hge (I1.hok.fresh hge)
def  kg(xs ys:Vg):Vg:=(xs.zip ys).map λp=>.tup [p.1,p.2]
def SqK.mono{b}{K}(s:Same H H')(h:SqK b K H l xs):SqK b K H' l xs:=by
 cases b
 .exact s.seqT h
 .exact s.seq h
def Bm{K}{b c}{ds es}(hx:SqK b K l T xs)(hy:SqK c K l J ys)(C:IsL K l ds xs)(t:IsL K l es ys):oy K l (QQ K b c T J) (kg ds es):=λi H O s hd=>by
 have j:=hx.mono (s.trans msk_le);have g:=hy.mono (s.trans msk_le);refine⟨λd hi=>?_,λhi=>⟨xs,ys,j,g,?_⟩⟩
 .unfold kg at hi;rw[getElem?_map]at hi;cases e:(ds.zip es)[i]? with
  |none=>rw[e]at hi;cases hi
  |some pr=>
   rw[e]at hi;cases hi;let⟨e1,e2⟩:=List.getElem?_zip_eq_some.mp e;let⟨x,ex,ix⟩:=C.get e1;let⟨y,I,iy⟩:=t.get e2;refine⟨⟨xs,ys,x,y,j,g,ex,I⟩,?_⟩;rintro v H3 ⟨q,x',y',rfl,o,rfl,U,ky⟩;have r:=U xs j;have p:=ky ys g;rw[ex]at r;cases r;rw[I]at p;cases p;have hO:=gy hd o;refine⟨Same.new o,q,[x,y],rfl,.of (by rw[aN hO,al]),?_⟩;have le:Same (msk O H) (msk O (aR H q (.tup [x,y]))):=(Same.new o).msk;exact⟨x,[y],rfl,Is.mono (s.trans le) _ _ ix,y,[],rfl,Is.mono (s.trans le) _ _ iy,rfl⟩
 .have h1:=C.len;have h2:=t.len;unfold kg at hi;rw[length_map,List.length_zip]at hi;omega
def  zq:Vg->U7:=LG λc d=>(seqD c).bind λxs=>(seqD d).bind λys=>!(kg xs ys)
def vU{K}(h:SqL K H l xs\/SqT K H l xs):∃b,SqK b K H l xs:=by
 rcases h with h|h
 .exact⟨true,h⟩
 .exact⟨false,h⟩
def Jm{x1}(hg:Gl X "zip")(hm:X.mg "zip"=none)(ha:PX X [a,b] fa)(hs:starEach [a,b] X.env=[(false,eval a X.env),(false,eval b X.env)])(l:starEach [b] X.env=[(false,eval b X.env)]):
  PJ X (.Tuple o x1 tpos) (.Call (.Name "zip" p) [a,b] [] pos) (λY=>(fa Y).bind zq):=λO Y=>(Jl hg hm (ha O Y) hs l).imp λσ H R ⟨E,ds,q,k⟩=>by
 let⟨as,e1,q⟩:=VL q
 refine⟨E,as,e1,λvs H1 C il=>?_⟩
 let⟨c,d,rfl,q1⟩:=t6 q
 let⟨xs,U,T⟩:=VL q1
 let⟨ys,J,I⟩:=VL T
 cases I
 let⟨u,v,rfl,iu,iv⟩:=QN il
 let⟨l1,t,rfl,j,m1⟩:=gR U iu
 let⟨l2,r,rfl,g,m2⟩:=gR J iv
 let⟨b1,j⟩:=vU j
 let⟨b2,g⟩:=vU g
 exact⟨b1,b2,l1,l2,t,r,rfl,j.mono msk_le,g.mono msk_le,k _ H1 C (Bm j g m1 m2)⟩
noncomputable def  uf:D->Vi
 |.int i=>!(.int (-i))
 |_=>none
def Jn(l:PP X a fa):PP X (.UnaryOp .USub a pos) (λY=>(fa Y).bind uf):=λO Y=>(L9 IJ (l O Y)).imp λσ H Q ⟨E,d,q,k⟩=>by
 let⟨c,o,e2⟩:=VL q;refine⟨E,c,o,λv H1 g j=>?_⟩;cases c with
 |int i=>cases e2;exact⟨i,j,k _ H1 g rfl⟩
 |_=>cases e2
def b_min:bootBuiltins "min"=!(.builtin "min"):=by decide+kernel
def  QS:Vg->Vi:=LG λc d=>(oz c).bind λi=>(oz d).bind λj=>!(.int (if j>i then j else i))
def  QT:Vg->Vi:=LG λc d=>(oz c).bind λi=>(oz d).bind λj=>!(.int (if j<i then j else i))
noncomputable def  Jo:D->Bool
 |.non=>true
 |_=>false
def xK{K}(h:Is K H d v):decide (v=.non)=Jo d:=by
 cases d with
 |non=>cases(h);rfl
 |bl _=>cases(h);rfl
 |int _=>cases(h);rfl
 |str _=>cases(h);rfl
 |ty _=>cases(h);rfl
 |adr _=>cases(h);rfl
 |tup _=>let⟨a,xs,rfl,_⟩:=h;rfl
 |lst _=>let⟨a,xs,rfl,_⟩:=h;rfl
 |obj _ _ _=>let⟨a,Ca,dx,fs,rfl,_⟩:=h;rfl
 |dct _ _=>let⟨a,kvs,rfl,_⟩:=h;rfl
def  oB(neg:Bool):D->D->Vi
 |d,.non=>!(.bl (if neg then not (Jo d) else Jo d))
 |_,_=>none
def r_isN{K}:jU K (λx y H Q=>y=.non/\Q (.bl (decide (x=.non))) H) (oB false):=λO H x y dx l d Q _ j g e k=>by
 cases l with
 |non=>cases e;exact⟨g,k _ H (Same.refl _) (by rw[xK j];rfl)⟩
 |_=>cases e
def r_notN{K:Frag}:jU K (λx y H Q=>y=.non/\Q (.bl (not (decide (x=.non)))) H) (oB true):=λO H x y dx dy d Q _ ix iy e k=>by
 cases dy with
 |non=>cases e;exact⟨iy,k _ H (Same.refl _) (by rw[xK ix];rfl)⟩
 |_=>cases e
def  vV:D->D->Vi
 |x,.lst ds=>if bN x&&ds.all bN then !(.bl (not (Pp x ds)))else none
 |x,.tup ds=>if bN x&&ds.all bN then !(.bl (not (Pp x ds)))else none
 |_,_=>none
def r_notIn{K}:jU K (Pn K true) vV:=λO H x y dx C d Q hd t r e k=>by
 cases C with
 |lst ds=>
  let⟨h1,h2⟩:=ay (e);rw[and_eq_true]at h1;subst h2;let⟨p,xs,rfl,q,l⟩:=r;let⟨o,e2⟩:=jg h1.1 t;let⟨j,g⟩:=iV h1.2 l;exact⟨p,xs,rfl,.inl (msk_le.seq q),e2,g,k _ H (Same.refl _) (by rw[o,j];rfl)⟩
 |tup ds=>
  let⟨h1,h2⟩:=ay (e);rw[and_eq_true]at h1;subst h2;let⟨p,xs,rfl,q,l⟩:=r;let⟨o,e2⟩:=jg h1.1 t;let⟨j,g⟩:=iV h1.2 l;exact⟨p,xs,rfl,.inr (msk_le.seqT q),e2,g,k _ H (Same.refl _) (by rw[o,j];rfl)⟩
 |_=>cases e
def  cutD(ds:Vg)(lo hi:Vj):Vg:=(ds.drop (HT.sIx ds.length 0 lo)).take (HT.sIx ds.length ds.length hi-HT.sIx ds.length 0 lo)
def Bo{K}(l:IsL K H ds xs)(lo hi:Vj):IsL K H (cutD ds lo hi) (zc xs lo hi):=by
 unfold cutD zc;rw[<-l.len];exact .of (mF _ (mG _ l.paired))
def EX:SlR X (λx lo hi H Q=>∃a xs,x=.ref a/\SqT X.K H a xs/\(HT.sIx xs.length 0 lo=0/\HT.sIx xs.length xs.length hi=xs.length)/\Q (.ref a) H):=by
 intro pins s σ H x v vl vu lo hi sl Q I rx hs pl pu h;let⟨a,xs,rfl,hx,hw,q⟩:=h;cases rx;let⟨its,r,ht,hz⟩:=I.tuple hx;have hlen:its.toArray.size=xs.length:=by rw[size_toArray];exact r.length.symm
 refine⟨"tuple",_,PyProof.Rows.slot_tuple_getitem.lookup,ht.typeIs,?_⟩;let⟨os,hos,hcs,hds⟩:=id hs;have hTs:s.TypeIs (.ref sl) "slice":=⟨os,hos,hcs⟩;unfold getItem;try with_reducible refine wpAny_holding ?_
 first|refine Vk (Vm ?_)|skip
 refine Vk (wpAny_sequenceKey ht.typeIs (!2) ?_);refine Vk (wpAny_callSpecial?_slot ht.typeIs PyProof.Rows.slot_tuple_getitem (wpAny_call_entry PyProof.Rows.slot_tuple_getitem ht.typeIs entry_tuple_getitem ?_ (args_tuple_getitem _ _)));show wpAny _ _ (Builtin.Tuple.tupleItemsOf (.ref a)>>=_) _ _ s;refine Vk (tupleItemsOf_ ht (Vk (wpAny_typeOf hTs ?_)));refine Vk (HT.sliceApplied_gen hs pl pu ?_);have hyes:(((HT.sIx its.toArray.size 0 lo:Nat):Int)==0&&(1:Int)==1&&(HT.sIx its.toArray.size its.toArray.size hi-HT.sIx its.toArray.size 0 lo)==its.toArray.size)=true:=by
  rw[hlen,hw.1,hw.2];simp
 show wpAny _ _ (if(((HT.sIx its.toArray.size 0 lo:Nat):Int)==0&&(1:Int)==1&&(HT.sIx its.toArray.size its.toArray.size hi-HT.sIx its.toArray.size 0 lo)==its.toArray.size)=true then _ else _) _ _ s;rw[if_pos hyes];refine Vk (Vk (wpAny_typeOf ht.typeIs (Vm ?_)));exact Vk (wpAny_rule (Vm ⟨_,rfl,Vm ⟨.ref a,H,I,rfl,q⟩⟩))
def  EY(X:Cx)(e:Option Expr)(f:Vv->Option (Vj)):Prop:=∀O Y,PO X e (λσ H Q=>VE X.K O σ H Y/\∃i,f Y=!i/\∀H',Same H H'->Q i H')
def PO.imp{e}(h:PO X e t)(k:∀σ H Q,g σ H Q->t σ H Q):PO X e g:=λpins s σ H Q I q=>h pins s σ H Q I (k _ _ _ q)
def Bp:EY X none (λ_=>!none):=λO Y=>po_none.imp λσ H Q ⟨E,i,q,k⟩=>by
 cases q;exact k H (Same.refl _)
def  au(f:U0):Vv->Option (Vj):=λY=>(f Y).bind λd=>(oz d).bind λi=>!(!i)
def Bq(h:PP X e f):EY X (!e) (au f):=λO Y=>(Et (h O Y)).imp λσ H Q ⟨E,i,q,k⟩=>by
 let⟨d,r,p⟩:=VL q;let⟨j,o,l⟩:=VL p;cases l;refine⟨E,d,r,λv H1 g t=>?_⟩;cases intD_some o;exact⟨j,t,k H1 g⟩
def  rH(f:U0)(fl fh:Vv->Option (Vj)):U0:=λY=>(f Y).bind λd=>(fl Y).bind λlo=>(fh Y).bind λhi=>match d with
 |.tup ds=>!(.tup (cutD ds lo hi))
 |_=>none
def  kW(f:U0)(fl fh:Vv->Option (Vj)):UZ:=λY=>(f Y).bind λd=>(fl Y).bind λlo=>(fh Y).bind λhi=>match d with
 |.lst ds=>!(cutD ds lo hi)
 |_=>none
def zr{lo hi}(h:HT.sIx ds.length 0 lo=0/\HT.sIx ds.length ds.length hi=ds.length):cutD ds lo hi=ds:=by
 unfold cutD;rw[h.1,h.2];simp
def Jp{lo hi}(h:PP X e f)(hl:EY X lo fl)(hh:EY X hi fh):PP X (.Subscript e (.Slice lo hi none p2) pos) (rH f fl fh):=λO Y=>
 (tR (sl_tup.or EX) (h O Y) (hl O Y) (hh O Y)).imp λσ H Q ⟨E,d,q,k⟩=>by
 let⟨c,q1,q⟩:=VL q;let⟨l,q2,q⟩:=VL q;let⟨u,U,q⟩:=VL q;refine⟨E,c,q1,λv H1 o iv=>⟨E.grow o,l,q2,λH2 j=>⟨E.grow (o.trans j),u,U,λH3 T=>?_⟩⟩⟩;cases c with
 |tup ds=>
  cases q;have r:=Is.mono (j.trans T).msk _ _ iv;let⟨a,xs,rfl,t,C⟩:=r;have g:=o.trans (j.trans T);by_cases I:HT.sIx xs.length 0 l=0/\HT.sIx xs.length xs.length u=xs.length
  .refine .inr ⟨a,xs,rfl,msk_le.seqT t,I,k _ H3 g ?_⟩;rw[zr (by rw[C.len];exact I)];exact⟨a,xs,rfl,t,C⟩
  .refine .inl ⟨a,xs,rfl,msk_le.seqT t,I,λp J=>?_⟩;have hO:=(E.grow g).fresh J;exact k _ _ (g.trans (Same.new J)) ⟨p,_,rfl,.of (by rw[aN hO,al]),IsL.mono (Same.new J).msk _ _ (Bo C l u)⟩
 |_=>cases q
def Br{lo hi}(h:PP X e f)(hl:EY X lo fl)(hh:EY X hi fh):PF X (.Subscript e (.Slice lo hi none p2) pos) (kW f fl fh):=λO Y=>
 (tR Ew (h O Y) (hl O Y) (hh O Y)).imp λσ H Q ⟨E,d,q,k⟩=>by
 let⟨c,J,q⟩:=VL q;let⟨l,I,q⟩:=VL q;let⟨u,C,q⟩:=VL q;refine⟨E,c,J,λv H1 j T=>⟨E.grow j,l,I,λH2 g=>⟨E.grow (j.trans g),u,C,λH3 r=>?_⟩⟩⟩;cases c with
 |lst ds=>
  cases q;have o:=Is.mono (g.trans r).msk _ _ T;let⟨a,xs,rfl,t,U⟩:=o;exact⟨a,xs,rfl,msk_le.seq t,λp hp=>k p _ H3 (j.trans (g.trans r)) hp (Bo U l u)⟩
 |_=>cases q
end
inductive Cat where
 |sh
 |top
 |deep
 deriving DecidableEq
mutual
noncomputable def  lfD:D->Bool
 |.tup ds=>fw ds
 |.lst _=>false
 |.obj _ _ _=>false
 |.dct _ _=>false
 |_=>true
noncomputable def  fw:Vg->Bool
 |[]=>true
 |d::ds=>lfD d&&fw ds
end
mutual
noncomputable def  Deep(K:Frag)(M H:Hp):D->V->List Addr->Prop
 |.non,v,A=>v=.non/\A=[]
 |.bl b,v,A=>v=.bl b/\A=[]
 |.int i,v,A=>v=.int i/\A=[]
 |.str x,v,A=>v=.str x/\A=[]
 |.ty n,v,A=>v=.ty n/\A=[]
 |.adr a,v,A=>v=.ref a/\A=[]
 |.tup ds,v,A=>∃a xs,v=.ref a/\(M a=!(.tup xs)\/(fw ds=true/\SqT K M a xs))/\DeepL K M H ds xs A
 |.lst ds,v,A=>∃a xs A',v=.ref a/\H a=!(.lst xs)/\A=a::A'/\DeepL K M H ds xs A'
 |.obj _ _ _,_,_=>False
 |.dct ks ds,v,A=>∃a kvs A',v=.ref a/\H a=!(.dK kvs)/\kvs.map (·.1)=ks/\A=a::A'/\DeepL K M H ds (kvs.map (·.2)) A'
noncomputable def  DeepL(K:Frag)(M H:Hp):Vg->List V->List Addr->Prop
 |[],xs,A=>xs=[]/\A=[]
 |d::ds,xs,A=>∃x r A1 A2,xs=x::r/\A=A1++A2/\Deep K M H d x A1/\DeepL K M H ds r A2
end
def  NL(M M':Hp):Prop:=∀b o,M b=!o->¬Hid (!o)->M' b=!o
def NL.of(s:Same M g):NL M g:=λb o h _=>s b o h
def NL.trans(s:NL M j)(t:NL j g):NL M g:=λb o h q=>t b o (s b o h q) q
def xL:¬Hid (!(.tup xs)):=by rintro(⟨_,z⟩|⟨_,_,_,z⟩|⟨_,z⟩)<;>cases z
def EZ:¬Hid (!(.frz o u)):=by rintro(⟨_,z⟩|⟨_,_,_,z⟩|⟨_,z⟩)<;>cases z
def NL.seqT{K}(e:NL H H')(h:SqT K H a xs):SqT K H' a xs:=by
 rcases h with(h|⟨o,h⟩)|h
 .exact .inl (.inl (e _ _ h xL))
 .exact .inl (.inr ⟨o,e _ _ h EZ⟩)
 .exact .inr h
def tupAt{K}(s:NL M g)(h:M a=!(.tup xs)\/(fw ds=true/\SqT K M a xs)):g a=!(.tup xs)\/(fw ds=true/\SqT K g a xs):=by
 rcases h with h|⟨f,h⟩
 .exact .inl (s _ _ h xL)
 .exact .inr ⟨f,s.seqT h⟩
def MZ{K}(s:NL M g)(h:M a=!(.tup xs)\/(fw ds=true/\SqT K M a xs)):SqT K g a xs:=by
 rcases tupAt s h with h|⟨_,h⟩
 .exact .of h
 .exact h
mutual
theorem Deep.frame{K:Frag}{M M' H H':Hp}(s:NL M M'):∀(d:D)(v:V)(A:List Addr),(∀a∈A,∀o,H a=!o->H' a=!o)->Deep K M H d v A->Deep K M' H' d v A
 |.non,_,_,_,h=>h
 |.bl _,_,_,_,h=>h
 |.int _,_,_,_,h=>h
 |.str _,_,_,_,h=>h
 |.ty _,_,_,_,h=>h
 |.adr _,_,_,_,h=>h
 |.tup ds,_,A,k,⟨a,xs,e,q,l⟩=>⟨a,xs,e,tupAt s q,DeepL.frame s ds xs A k l⟩
 |.lst ds,_,A,k,⟨a,xs,A',e,q,z,l⟩=>⟨a,xs,A',e,k a (by rw[z];exact Vr) _ q,z,DeepL.frame s ds xs A' (λb hb=>k b (by rw[z];exact Vs _ hb)) l⟩
 |.obj _ _ _,_,_,_,h=>h.elim
 |.dct ks ds,_,A,k,⟨a,kvs,A',e,q,y,z,l⟩=>⟨a,kvs,A',e,k a (by rw[z];exact Vr) _ q,y,z,DeepL.frame s ds _ A' (λb hb=>k b (by rw[z];exact Vs _ hb)) l⟩
theorem DeepL.frame{K:Frag}{M M' H H':Hp}(s:NL M M'):∀(ds:Vg)(xs:List V)(A:List Addr),(∀a∈A,∀o,H a=!o->H' a=!o)->DeepL K M H ds xs A->DeepL K M' H' ds xs A
 |[],_,_,_,h=>h
 |d::ds,_,A,k,⟨x,r,A1,A2,e,z,h,l⟩=>⟨x,r,A1,A2,e,z,Deep.frame s d x A1 (λb hb=>k b (by rw[z];exact VB _ hb)) h,DeepL.frame s ds r A2 (λb hb=>k b (by rw[z];exact VC _ hb)) l⟩
end
mutual
theorem Deep.is{K:Frag}{M M' H:Hp}(s:NL M M'):∀(d:D)(v:V)(A:List Addr),(∀a∈A,∀o,H a=!o->M' a=!o)->Deep K M H d v A->Is K M' d v
 |.non,_,_,_,h=>h.1
 |.bl _,_,_,_,h=>h.1
 |.int _,_,_,_,h=>h.1
 |.str _,_,_,_,h=>h.1
 |.ty _,_,_,_,h=>h.1
 |.adr _,_,_,_,h=>h.1
 |.tup ds,_,A,k,⟨a,xs,e,q,l⟩=>⟨a,xs,e,MZ s q,DeepL.is s ds xs A k l⟩
 |.lst ds,_,A,k,⟨a,xs,A',e,q,z,l⟩=>⟨a,xs,e,.of (k a (by rw[z];exact Vr) _ q),DeepL.is s ds xs A' (λb hb=>k b (by rw[z];exact Vs _ hb)) l⟩
 |.obj _ _ _,_,_,_,h=>h.elim
 |.dct ks ds,_,A,k,⟨a,kvs,A',e,q,y,z,l⟩=>⟨a,kvs,e,k a (by rw[z];exact Vr) _ q,y,DeepL.is s ds _ A' (λb hb=>k b (by rw[z];exact Vs _ hb)) l⟩
theorem DeepL.is{K:Frag}{M M' H:Hp}(s:NL M M'):∀(ds:Vg)(xs:List V)(A:List Addr),(∀a∈A,∀o,H a=!o->M' a=!o)->DeepL K M H ds xs A->IsL K M' ds xs
 |[],_,_,_,h=>h.1
 |d::ds,_,A,k,⟨x,r,A1,A2,e,z,h,l⟩=>⟨x,r,e,Deep.is s d x A1 (λb hb=>k b (by rw[z];exact VB _ hb)) h,DeepL.is s ds r A2 (λb hb=>k b (by rw[z];exact VC _ hb)) l⟩
end
mutual
theorem Is.deep{K:Frag}{M H:Hp}:∀(d:D)(v:V),lfD d=true->Is K M d v->Deep K M H d v []
 |.non,_,_,h=>⟨h,rfl⟩
 |.bl _,_,_,h=>⟨h,rfl⟩
 |.int _,_,_,h=>⟨h,rfl⟩
 |.str _,_,_,h=>⟨h,rfl⟩
 |.ty _,_,_,h=>⟨h,rfl⟩
 |.adr _,_,_,h=>⟨h,rfl⟩
 |.tup ds,_,f,⟨a,xs,e,q,l⟩=>⟨a,xs,e,.inr ⟨f,q⟩,IsL.deep ds xs f l⟩
 |.lst _,_,f,_=>by cases f
 |.obj _ _ _,_,f,_=>by cases f
 |.dct _ _,_,f,_=>by cases f
theorem IsL.deep{K:Frag}{M H:Hp}:∀(ds:Vg)(xs:List V),fw ds=true->IsL K M ds xs->DeepL K M H ds xs []
 |[],_,_,h=>⟨h,rfl⟩
 |d::ds,_,f,⟨x,r,e,h,l⟩=>by
  have f':(lfD d&&fw ds)=true:=f;rw[and_eq_true]at f';exact⟨x,r,[],[],e,rfl,Is.deep d x f'.1 h,IsL.deep ds r f'.2 l⟩
end
mutual
theorem Deep.lf{K:Frag}{M H:Hp}:∀(d:D)(v:V)(A:List Addr),lfD d=true->Deep K M H d v A->A=[]
 |.non,_,_,_,h=>h.2
 |.bl _,_,_,_,h=>h.2
 |.int _,_,_,_,h=>h.2
 |.str _,_,_,_,h=>h.2
 |.ty _,_,_,_,h=>h.2
 |.adr _,_,_,_,h=>h.2
 |.tup ds,_,A,f,⟨a,xs,e,q,l⟩=>DeepL.lf ds xs A f l
 |.lst _,_,_,f,_=>by cases f
 |.obj _ _ _,_,_,f,_=>by cases f
 |.dct _ _,_,_,f,_=>by cases f
theorem DeepL.lf{K:Frag}{M H:Hp}:∀(ds:Vg)(xs:List V)(A:List Addr),fw ds=true->DeepL K M H ds xs A->A=[]
 |[],_,_,_,h=>h.2
 |d::ds,_,A,f,⟨x,r,A1,A2,e,z,h,l⟩=>by
  have f':(lfD d&&fw ds)=true:=f;rw[and_eq_true]at f';rw[z,Deep.lf d x A1 f'.1 h,DeepL.lf ds r A2 f'.2 l];rfl
end
mutual
theorem Is.nl{K:Frag}{M M':Hp}(s:NL M M'):∀(d:D)(v:V),lfD d=true->Is K M d v->Is K M' d v
 |.non,_,_,h=>h
 |.bl _,_,_,h=>h
 |.int _,_,_,h=>h
 |.str _,_,_,h=>h
 |.ty _,_,_,h=>h
 |.adr _,_,_,h=>h
 |.tup ds,_,f,⟨a,xs,e,q,l⟩=>⟨a,xs,e,s.seqT q,IsL.nl s ds xs f l⟩
 |.lst _,_,f,_=>by cases f
 |.obj _ _ _,_,f,_=>by cases f
 |.dct _ _,_,f,_=>by cases f
theorem IsL.nl{K:Frag}{M M':Hp}(s:NL M M'):∀(ds:Vg)(xs:List V),fw ds=true->IsL K M ds xs->IsL K M' ds xs
 |[],_,_,h=>h
 |d::ds,_,f,⟨x,r,e,h,l⟩=>by
  have f':(lfD d&&fw ds)=true:=f;rw[and_eq_true]at f';exact⟨x,r,e,Is.nl s d x f'.1 h,IsL.nl s ds r f'.2 l⟩
end
def  OwnC(K:Frag)(O:Ve)(H:Hp):Cat->D->V->List Addr->Prop
 |.sh,d,v,A=>A=[]/\Is K (msk O H) d v
 |.top,d,v,A=>∃a ds xs,d=.lst ds/\v=.ref a/\A=[a]/\H a=!(.lst xs)/\IsL K (msk O H) ds xs
 |.deep,d,v,A=>Deep K (msk O H) H d v A
def OwnC.frame{K}(s:Same (msk O H) (msk r H'))(k:∀a∈A,∀o,H a=!o->H' a=!o)(h:OwnC K O H c d v A):OwnC K r H' c d v A:=by
 cases c with
 |sh=>exact⟨h.1,Is.mono s d v h.2⟩
 |top=>
  let⟨a,ds,xs,p,e2,g,j,l⟩:=h;exact⟨a,ds,xs,p,e2,g,k a (by rw[g];exact Vr) _ j,IsL.mono s ds xs l⟩
 |deep=>exact Deep.frame (NL.of s) d v A k h
def OwnC.is{K}(s:Same (msk O H) (msk g H))(k:∀a∈A,g a=false)(h:OwnC K O H c d v A):Is K (msk g H) d v:=by
 cases c with
 |sh=>exact Is.mono s d v h.2
 |top=>
  let⟨a,ds,xs,t,e2,r,p,l⟩:=h;subst t;exact⟨a,xs,e2,.of (by rw[aN (k a (by rw[r];exact Vr))];exact p),IsL.mono s ds xs l⟩
 |deep=>exact Deep.is (NL.of s) d v A (λa j o e=>by rw[aN (k a j)];exact e) h
abbrev Sl:=Cat×D
abbrev Ev:=List (Option Sl)
abbrev _root_.U6:=Option Sl
abbrev _root_.U3:=Ev->Option (Sl×Ev)
abbrev _root_.UY:=List D->Option Sl
structure Bs where
 H:Hp
 O:Ve
structure EnvOk(K:Frag)(B:Bs)(O:Ve)(σ:St)(H:Hp)(Y:Ev):Prop where
 same:Same B.H H
 bdom:∀b,B.O b=true->B.H b≠none
 sub:∀b,B.O b=true->O b=true
 lis:∀b,O b=true->Hid (H b)
 len:σ.length=Y.length
 fp:∃F:Nat->List Addr,(∀(i:Nat)(s:Sl),Y[i]?=!(!s)->∃v,σ[i]?=!(!v)/\OwnC K O H s.1 s.2 v (F i))/\
  (∀i,(F i).Nodup)/\(∀i j a,a∈F i->a∈F j->i=j)/\∀i a,a∈F i->O a=true/\B.H a=none
def  mL:Ve:=λ_=>false
def nB:msk mL H=H:=by constructor<;>grind
noncomputable def  vw(Y:Ev):Vv:=Y.map λs=>s.map (·.2)
noncomputable def  Jq:U6->Vi
 |some (.sh,d)=>!d
 |some (_,d)=>if lfD d then !d else none
 |none=>none
def  di(Y:Ev):Vv:=Y.map Jq
def  cR(Y:Ev):Ev:=Y.map λs=>s.map λx=>(Cat.sh,x.2)
section
variable{K:Frag}{B:Bs}{O:Ve}{σ:St}{H H':Hp}{Y:Ev}
def EnvOk.dom(E:EnvOk K B O σ H Y):∀b,O b=true->H b≠none:=λb h=>(E.lis b h).ne
def EnvOk.nl(E:EnvOk K B O σ H Y):NL H (msk O H):=λb o h q=>by
 cases e:O b with
 |false=>rw[aN e];exact h
 |true=>
  have h':=E.lis b e;rw[h]at h';exact(q h').elim
def EnvOk.grow(E:EnvOk K B O σ H Y)(s:Same H H'):EnvOk K B O σ H' Y where
 same:=E.same.trans s
 bdom:=E.bdom
 sub:=E.sub
 lis:=λb h=>(E.lis b h).same s
 len:=E.len
 fp:=by
  let⟨F,h1,h2,l,j⟩:=E.fp;refine⟨F,λi x q=>?_,h2,l,j⟩;let⟨v,e,o⟩:=h1 i x q;exact⟨v,e,o.frame s.msk λa _ u g=>s _ _ g⟩
def EnvOk.fresh(E:EnvOk K B O σ H Y)(h:H p=none):O p=false:=gy E.dom h
def rJ{α g:Type}{f}{l:List (Option α)}{i:Nat}{y:g}(h:(l.map f)[i]?=!(!y)):∃x,l[i]?=!x/\f x=!y:=by grind
def EnvOk.view(E:EnvOk K B O σ H Y):VE K mL σ H (vw Y) where
 lis:=λb h=>by cases h
 len:=by unfold vw;rw[length_map];exact E.len
 sh:=λi d q=>by
  let⟨F,h1,h2,l,j⟩:=E.fp;let⟨x,e,z⟩:=rJ q;cases x with
  |none=>cases z
  |some s=>
   cases z;let⟨v,g,o⟩:=h1 i s e;exact⟨v,g,o.is (by rw[nB];exact msk_le) λ_ _=>rfl⟩
def EnvOk.viewS(E:EnvOk K B O σ H Y):VE K O σ H (di Y) where
 lis:=E.lis
 len:=by unfold di;rw[length_map];exact E.len
 sh:=λi d q=>by
  let⟨F,h1,h2,I,C⟩:=E.fp;let⟨x,e,z⟩:=rJ q;cases x with
  |none=>cases z
  |some s=>
   let⟨c,j⟩:=s;let⟨v,t,o⟩:=h1 i _ e;refine⟨v,t,?_⟩;cases c with
   |sh=>cases z;exact o.2
   |top=>
    let⟨a,ds,xs,p,_⟩:=o;have g:=z;rw[show j=.lst ds from p]at g;cases g
   |deep=>
    let⟨f,g⟩:=ay (z);subst g;have r:=Deep.lf j v (F i) f o;exact Deep.is (NL.of (Same.refl _)) j v (F i) (λa l=>by rw[r]at l;cases l) o
def EnvOk.frozen(E:EnvOk K B O σ H Y):EnvOk K B B.O σ H (cR Y)/\Same (msk O H) (msk B.O H):=by
 have le:Same (msk O H) (msk B.O H):=λb o h=>by
  let⟨h1,h2⟩:=a9 h;rw[aN];exact h2;cases e:B.O b with
  |false=>rfl
  |true=>rw[E.sub b e]at h1;cases h1
 refine⟨⟨E.same,E.bdom,λ_ h=>h,λb h=>E.lis b (E.sub b h),by unfold cR;rw[length_map];exact E.len,λ_=>[],λi s q=>?_,λ_=>List.nodup_nil,λ_ _ _ h=>(nomatch h),λ_ _ h=>(nomatch h)⟩,le⟩;let⟨F,h1,h2,p,j⟩:=E.fp;let⟨x,e,z⟩:=rJ q;cases x with
 |none=>cases z
 |some s'=>
  cases z;let⟨v,l,o⟩:=h1 i _ e;refine⟨v,l,rfl,o.is le λa g=>?_⟩;cases e:B.O a with
  |false=>rfl
  |true=>exact absurd (j i a g).2 (E.bdom a e)
def EnvOk.viewF(E:EnvOk K B O σ H Y):VE K B.O σ H (vw Y):=by
 have h:=E.frozen.1.viewS;have e:di (cR Y)=vw Y:=by
  unfold di cR vw;rw[List.map_map];apply List.map_congr_left;intro x _;cases x<;>rfl
 rw[e]at h;exact h
def EnvOk.more(E:EnvOk K B O σ H Y){c:Cat}{d:D}{v:V}{A:List Addr}{g:Ve}(s:Same H H')(le:Same (msk O H) (msk g H'))(hO:∀b,g b=true->O b=true\/b∈A)(r:∀b,O b=true->g b=true)(t:∀b∈A,g b=true)
  (U:∀a∈A,Hid (H' a)) (J:A.Nodup) (fr:∀a∈A,H a=none) (h:OwnC K g H' c d v A):EnvOk K B g (σ++[!v]) H' (Y++[!(c,d)]) where
 same:=E.same.trans s
 bdom:=E.bdom
 sub:=λb q=>r b (E.sub b q)
 lis:=λb q=>by
  rcases hO b q with q|q
  .exact(E.lis b q).same s
  .exact U b q
 len:=by rw[length_append,length_append,E.len];rfl
 fp:=by
  let⟨F,h1,h2,h3,C⟩:=E.fp;have no:∀i a,a∈F i->a ∉ A:=λi a I hA=>E.dom a (C i a I).1 (fr a hA);refine⟨λi=>if i=Y.length then A else F i,λi x q=>?_,λi=>?_,λi j a hi l=>?_,λi a hi=>?_⟩
  .by_cases hi:i=Y.length
   .subst hi;rw[getElem?_append_right (le_refl _)]at q;simp at q;subst q;refine⟨v,?_,by simp only[if_true];exact h⟩;rw[getElem?_append_right (Nat.le_of_eq E.len),E.len];simp
   .have p:i<Y.length:=by
     by_cases h:i<Y.length
     .exact h
     .rw[getElem?_append_right (!1)]at q;cases hk:i-Y.length with
      |zero=>omega
      |succ m=>rw[hk]at q;simp at q
    rw[getElem?_append_left p]at q;let⟨w,e,o⟩:=h1 i x q;refine⟨w,?_,?_⟩
    .rw[getElem?_append_left (by rw[E.len];exact p)];exact e
    .simp only[if_neg hi];exact o.frame le λa I u T=>s _ _ T
  .dsimp only;split
   .exact J
   .exact h2 i
  .dsimp only at hi l;split at hi<;>split at l
   .omega
   .exact absurd hi (no j a l)
   .exact absurd l (no i a hi)
   .exact h3 i j a hi l
  .dsimp only at hi;split at hi
   .exact⟨t a hi,E.same.free (fr a hi)⟩
   .exact⟨r a (C i a hi).1,(C i a hi).2⟩
def getElem?_last{α:Type}(l:List α)(x:α):(l++[x])[l.length]?=!x:=by simp
def fH{α:Type}{l}{x}(h:i≠l.length){y:α}(e:(l++[x])[i]?=!y):l[i]?=!y:=by grind
def EnvOk.put{v:V}{s:Sl}(E:EnvOk K B O (σ++[!v]) H (Y++[!s]))(i:Nat):EnvOk K B O (σ.set i (!v)) H (Y.set i (!s)) where
 same:=E.same
 bdom:=E.bdom
 sub:=E.sub
 lis:=E.lis
 len:=by have:=E.len;simp at this⊢;exact this
 fp:=by
  let⟨F,h1,h2,p,r⟩:=E.fp;have len:σ.length=Y.length:=by have:=E.len;simp at this;exact this
  let⟨J,t,I⟩:=h1 Y.length s (getElem?_last _ _);rw[<-len,getElem?_last]at t;cases t;refine⟨λj=>if j=i then F Y.length else if j=Y.length then[]else F j,λj x q=>?_,λj=>?_,λj k a g l=>?_,λj a g=>?_⟩
  .rcases get_set_some q with⟨e,o⟩|⟨e,o⟩
   .cases o;subst e;have hi:j<σ.length:=by rw[len];exact qx q
    exact⟨v,by simp[hi],by simp only[if_true];exact I⟩
   .have g:j≠Y.length:=by
     have:=(Vq.mp o).1;omega
    let⟨w,e2,C⟩:=h1 j x (by rw[getElem?_append_left (List.getElem?_eq_some_iff.mp o).1];exact o);refine⟨w,?_,by simp only[if_neg e,if_neg g];exact C⟩;rw[List.getElem?_set_ne (Ne.symm e)];exact fH (by rw[len];exact g) e2
  .dsimp only;split
   .exact h2 _
   .split
    .exact List.nodup_nil
    .exact h2 _
  .dsimp only at g l;split at g
   .split at l
    .omega
    .split at l
     .cases l
     .have:=p _ _ a g l;omega
   .split at g
    .cases g
    .split at l
     .have:=p _ _ a g l;omega
     .split at l
      .cases l
      .exact p _ _ a g l
  .dsimp only at g;split at g
   .exact r _ a g
   .split at g
    .cases g
    .exact r _ a g
def EnvOk.drop{v:V}{s:Sl}(E:EnvOk K B O (σ++[!v]) H (Y++[!s])):EnvOk K B O σ H Y where
 same:=E.same
 bdom:=E.bdom
 sub:=E.sub
 lis:=E.lis
 len:=by have:=E.len;simp at this;exact this
 fp:=by
  let⟨F,h1,h2,p,o⟩:=E.fp;have len:σ.length=Y.length:=by have:=E.len;simp at this;exact this
  refine⟨F,λj x q=>?_,h2,p,o⟩;have l:=(Vq.mp q).1;let⟨w,e2,g⟩:=h1 j x (by rw[getElem?_append_left l];exact q);exact⟨w,fH (!1) e2,g⟩
def EnvOk.setSh(E:EnvOk K B O σ H Y)(h:Is K (msk O H) d v):EnvOk K B O (σ.set i (!v)) H (Y.set i (!(.sh,d))):=
 (E.more (c:=.sh) (A:=[]) (Same.refl _) (Same.refl _) (λ_ h=>.inl h) (λ_ h=>h) (λ_ h=>(nomatch h)) (λ_ h=>(nomatch h)) List.nodup_nil (λ_ h=>(nomatch h)) ⟨rfl,h⟩).put i
end
mutual
theorem Deep.lists{K:Frag}{M H:Hp}:∀(d:D)(v:V)(A:List Addr),Deep K M H d v A->∀a∈A,Hid (H a)
 |.non,_,_,h,_,q=>by rw[h.2]at q;cases q
 |.bl _,_,_,h,_,q=>by rw[h.2]at q;cases q
 |.int _,_,_,h,_,q=>by rw[h.2]at q;cases q
 |.str _,_,_,h,_,q=>by rw[h.2]at q;cases q
 |.ty _,_,_,h,_,q=>by rw[h.2]at q;cases q
 |.adr _,_,_,h,_,q=>by rw[h.2]at q;cases q
 |.tup ds,_,A,⟨a,xs,e,_,l⟩,b,q=>DeepL.lists ds xs A l b q
 |.lst ds,_,A,⟨a,xs,A',e,h,z,l⟩,b,q=>by
  rw[z]at q;rcases mem_cons.mp q with rfl|q
  .exact .inl ⟨xs,h⟩
  .exact DeepL.lists ds xs A' l b q
 |.obj _ _ _,_,_,h,_,_=>h.elim
 |.dct ks ds,_,A,⟨a,kvs,A',e,h,y,z,l⟩,b,q=>by
  rw[z]at q;rcases mem_cons.mp q with rfl|q
  .exact .inr (.inr ⟨kvs,h⟩)
  .exact DeepL.lists ds _ A' l b q
theorem DeepL.lists{K:Frag}{M H:Hp}:∀(ds:Vg)(xs:List V)(A:List Addr),DeepL K M H ds xs A->∀a∈A,Hid (H a)
 |[],_,_,h,_,q=>by rw[h.2]at q;cases q
 |d::ds,_,A,⟨x,r,A1,A2,e,z,h,l⟩,b,q=>by
  rw[z]at q;rcases mem_append.mp q with q|q
  .exact Deep.lists d x A1 h b q
  .exact DeepL.lists ds r A2 l b q
end
def DeepL.len{K}:∀{ds:Vg}{xs:List V}{A:List Addr},DeepL K M H ds xs A->ds.length=xs.length
 |[],_,_,h=>by rw[h.1];rfl
 |_::_,_,_,⟨x,r,A1,A2,e,z,h,l⟩=>by rw[e,length_cons,length_cons,DeepL.len l]
def DeepL.snoc{K}(h:Deep K M H y v A'):∀{ds:Vg}{xs:List V}{A:List Addr},DeepL K M H ds xs A->DeepL K M H (ds++[y]) (xs++[v]) (A++A')
 |[],_,_,l=>by
  rw[l.1,l.2];exact⟨v,[],A',[],rfl,by simp,h,rfl,rfl⟩
 |d::ds,_,_,⟨x,r,A1,A2,e,z,q,l⟩=>by
  rw[e,z];exact⟨x,r++[v],A1,A2++A',rfl,by rw[List.append_assoc],q,DeepL.snoc h l⟩
def  PU(X:Cx)(e:Expr)(t:TE):Prop:=PE X e t/\∀(i:Nat)(x:Str)(px spos:Pos),X.N.Nodup->X.N[i]?=!x->X.env.scope.names.lookup x=some .local->
 swapsWith e (!(.Name x px)) spos.line X.env=pure true->PS X (.Assign [.Name x px] e spos) (Ax t (tL i))
def PU.imp(h:PU X e t)(k:∀σ H Q,j σ H Q->t σ H Q):PU X e j:=
 ⟨h.1.imp k,λi x l g a b c d=>(h.2 i x l g a b c d).imp λo σ H q=>k σ H _ q⟩
def PE.by2(h1:PE X e j)(h2:PE X e g)(k:∀σ H Q,t σ H Q->j σ H Q\/g σ H Q):PE X e t:=λpins s σ H Q I q=>(k σ H Q q).elim (h1 pins s σ H Q I) (h2 pins s σ H Q I)
def PS.by2(h1:PS X e l)(h2:PS X e j)(k:∀g σ H,t g σ H->l g σ H\/j g σ H):PS X e t:=λpins s σ H Q I q=>(k Q σ H q).elim (h1 pins s σ H Q I) (h2 pins s σ H Q I)
def PU.by2(h1:PU X e o)(h2:PU X e l)(k:∀σ H Q,t σ H Q->o σ H Q\/l σ H Q):PU X e t:=
 ⟨h1.1.by2 h2.1 k,λi x j g a b c d=>(h1.2 i x j g a b c d).by2 (h2.2 i x j g a b c d) λp σ H q=>k σ H _ q⟩
def PU.ex{j:Type}{t:j->TE}(h:∀z,PU X e (t z)):PU X e (λσ H Q=>∃z,t z σ H Q):=
 ⟨PE.ex λz=>(h z).1,λi x l g a b c d pins s σ H D I ⟨z,q⟩=>(h z).2 i x l g a b c d pins s σ H D I q⟩
noncomputable def  gS:Expr->Bool
 |.ListComp _ _ _ _=>true
 |.SetComp _ _ _ _=>true
 |.DictComp _ _ _ _ _=>true
 |_=>false
def oC(h:gS e=false)(t:Option Expr)(l:Nat)(env:Env):swapsWith e t l env=pure false:=by
 cases e<;>first|rfl|cases h
def PE.pu(h:PE X e t)(l:gS e=false):PU X e t:=⟨h,λi x o g _ _ _ q=>by
 rw[oC l]at q;have j:=q;cases j⟩
def xM(I:X.calm=true)(S:CSc X scope ks)(hi:PI X tg iter J)(r:∀C s H fp,PG (!12) tg g)(j:∀C s H fp,PTs (!12) ifs tt)(t:∀C s H fp,PE (!12) elt te)(p:∀x,foldedSetIterable iter X.env x=pure x):PU X (!9) (tV J ks g tt te):=
 ⟨EB I S hi r j t p,λi x px o hN T U l=>EC hN T U I S hi r j t l p⟩
def  M0(K:Frag)(Y:Vv)(o:Vi):TE:=λσ H Q=>VE K mL σ H Y/\∃d,o=!d/\∀v H' A,Same H H'->Deep K H' H' d v A->A.Nodup->(∀a∈A,H a=none)->Q v H'
def  QU(K:Frag)(Y:Vv)(o:U7):TA:=λσ H Q=>VE K mL σ H Y/\∃ds,o=!ds/\∀vs H' A,Same H H'->DeepL K H' H' ds vs A->A.Nodup->(∀a∈A,H a=none)->Q vs H'
def  ug(X:Cx)(e:Expr)(f:U0):Prop:=∀Y,PU X e (M0 X.K Y (f Y))
def  vW(X:Cx)(es:Vh)(f:UZ):Prop:=∀Y,PA X es (QU X.K Y (f Y))
def  PPu(X:Cx)(e:Expr)(f:U0):Prop:=∀O Y,PU X e (tP X.K O Y (f Y))
def  PFu(X:Cx)(e:Expr)(f:UZ):Prop:=∀O Y,PU X e (Mv X.K O Y (f Y))
section
variable{X:Cx}{e:Expr}{es:Vh}{pos:Pos}
def  vq(o:Vi):Vi:=o.bind λd=>if lfD d then !d else none
def  iA(o:U7):Vi:=o.bind λds=>if fw ds then !(.lst ds)else none
def Jr{K}(h:M0 K Y (vq o) σ H Q):tP K mL Y o σ H Q:=by
 let⟨E,d,e,k⟩:=h;let⟨g,l,e2⟩:=VL e;let⟨f,j⟩:=ay e2;subst j;refine⟨E,g,l,λv H' s i=>k v H' [] s ?_ List.nodup_nil λ_ q=>(nomatch q)⟩;exact Is.deep g v f i
def E5{K}(h:M0 K Y (iA o) σ H Q):Mv K mL Y o σ H Q:=by
 let⟨E,d,e,k⟩:=h;let⟨ds,t,e2⟩:=VL e;let⟨f,r⟩:=ay e2;subst r;refine⟨E,ds,t,λp xs H' s g l=>?_⟩;refine k _ _ [p] (s.trans (Same.new g)) ⟨p,xs,[],rfl,al,rfl,?_⟩ (by simp) λa j=>?_
 .exact DeepL.frame (NL.of (Same.new g)) ds xs [] (λ_ q=>(nomatch q)) (IsL.deep (H:=H') ds xs f l)
 .rw[mem_singleton.mp j];exact s.free g
def M1(h:PPu X e f):ug X e (λY=>vq (f Y)):=λY=>(h mL Y).imp λσ H Q q=>Jr q
def Bt(h:PFu X e f):ug X e (λY=>iA (f Y)):=λY=>(h mL Y).imp λσ H Q q=>E5 q
noncomputable def  aW{α β:Type}(f g:α->Option β):α->Option β:=λx=>match f x with|some y=>!y|none=>g x
def or_some{x:α}{y:j}(h:aW f g x=!y):f x=!y\/g x=!y:=by grind [aW]
def HC(h1:ug X e f)(h2:ug X e g):ug X e (aW f g):=λY=>(h1 Y).by2 (h2 Y) λσ H Q ⟨E,d,q,k⟩=>by
 rcases or_some q with q|q;all_goals grind
def uh:ug X e (λ_=>none):=λY=>⟨λ_ _ _ _ _ _ ⟨_,_,q,_⟩=>(by cases q),λ_ _ _ _ _ _ _ _ _ _ _ _ _ _ ⟨_,_,q,_⟩=>(by cases q)⟩
def rK:PPu X e (λ_=>none):=λO Y=>⟨λ_ _ _ _ _ _ ⟨_,_,q,_⟩=>(by cases q),λ_ _ _ _ _ _ _ _ _ _ _ _ _ _ ⟨_,_,q,_⟩=>(by cases q)⟩
def du:PFu X e (λ_=>none):=λO Y=>⟨λ_ _ _ _ _ _ ⟨_,_,q,_⟩=>(by cases q),λ_ _ _ _ _ _ _ _ _ _ _ _ _ _ ⟨_,_,q,_⟩=>(by cases q)⟩
def vX(h1:PPu X e f)(h2:PPu X e g):PPu X e (aW f g):=λO Y=>(h1 O Y).by2 (h2 O Y) λσ H Q ⟨E,d,q,k⟩=>by
 rcases or_some q with q|q;all_goals grind
def E6:vW X [] (λ_=>![]):=λY=>pa_nil.imp λσ H Q ⟨E,ds,e,k⟩=>by
 cases e;exact k [] H [] (Same.refl _) ⟨rfl,rfl⟩ List.nodup_nil λ_ q=>(nomatch q)
def Deep.have{K}(h:Deep K M H d v A)(q:a∈A):H a≠none:=by
 exact(Deep.lists d v A h a q).ne
def frs_cons(h:ug X e f)(hr:vW X es g)(hs:starEach (e::es) X.env=(false,eval e X.env)::starEach es X.env):vW X (e::es) (ac f g):=
 λY=>(dG (h Y).1 (hr Y) hs).imp λσ H Q ⟨E,ds,q,k⟩=>by
 let⟨d,e1,q⟩:=VL q
 let⟨r,e2,q⟩:=VL q
 cases q
 refine⟨E,d,e1,λv H1 C p t T f1=>⟨E.grow p,r,e2,λI H2 A2 l U J f2=>k _ H2 _ (p.trans l) ⟨v,I,C,A2,rfl,rfl,Deep.frame (NL.of l) d v C (λa _ o h=>l _ _ h) t,U⟩ ?_ ?_⟩⟩
 .refine List.nodup_append.mpr ⟨T,J,λa j b hb z=>?_⟩;subst z;exact t.have j (f2 a hb)
 .intro a j;rcases mem_append.mp j with j|j
  .exact f1 a j
  .exact p.free (f2 a j)
def Js(h:vW X es g):ug X (.List es pos) (λY=>(bM (g Y)).bind λds=>!(.lst ds)):=λY=>PE.pu ((AM (h Y)).imp λσ H Q ⟨E,d,q,k⟩=>by
 let⟨ds,z,J⟩:=VL q;cases J;let⟨T,e2⟩:=dt z;refine⟨E,ds,T,λr H1 A I l n f=>⟨by rw[<-l.len];exact VF e2,λp j=>?_⟩⟩;have t:p ∉ A:=λz=>by
  exact(DeepL.lists ds r A l p z).ne (j)
 refine k _ _ _ (I.trans (Same.new j)) ⟨p,r,A,rfl,al,rfl,DeepL.frame (NL.of (Same.new j)) ds r A (λa _ o h=>Same.new j _ _ h) l⟩ (List.nodup_cons.mpr ⟨t,n⟩) λa C=>?_;rcases mem_cons.mp C with rfl|C
 .exact I.free j
 .exact f a C) rfl
def Jt{x1}(h:vW X es g):ug X (.Tuple es x1 pos) (λY=>(bM (g Y)).bind λds=>!(.tup ds)):=λY=>PE.pu ((AL (h Y)).imp λσ H Q ⟨E,d,q,k⟩=>by
 let⟨ds,z,C⟩:=VL q;cases C;let⟨I,e2⟩:=dt z;refine⟨E,ds,I,λr H1 A t l n f=>⟨by rw[<-l.len];exact VF e2,λp j=>?_⟩⟩;exact k _ _ A (t.trans (Same.new j)) ⟨p,r,rfl,.inl al,DeepL.frame (NL.of (Same.new j)) ds r A (λa _ o h=>Same.new j _ _ h) l⟩ n f) rfl
abbrev Um(K:Frag)(f:U0):TE:=λσ H Q=>∃z:Vv,M0 K z (f z) σ H Q
def vY{K}(h:M0 K Y ((ae ks fi g ft fe Y).bind λds=>!(.lst ds)) σ H Q):
  tV (tJ K mL Y (fi Y)) ks (xG K ks g) (xT K ft) (Um K fe) σ H Q:=by
 let⟨E,d,ee,k⟩:=h
 let⟨l,ef,ed⟩:=VL ee
 cases ed
 let⟨ds,e1,e⟩:=VL ef
 let⟨e2,hz⟩:=dt e
 refine⟨E,ds,e1,λJ H1 s1 it=>⟨λi m ys H2=>i<=ds.length/\m=ds.length-i/\Same H1 H2/\∃C rest A,DeepL K H2 H2 C ys A/\A.Nodup/\(∀a∈A,H a=none)/\jV _ (ds.drop i)=!rest/\l=C++rest,
  ⟨ds.length,Nat.zero_le _,by simp,Same.refl _,[],l,[],⟨rfl,rfl⟩,List.nodup_nil,λ_ q=>(nomatch q),by simpa using e2,rfl⟩,?_⟩⟩
 rintro i m ys H2 ⟨hi,rfl,s2,C,rest,A,il,nd,fr,T,et⟩
 have E2:=E.grow (s1.trans s2)
 have hit:=it i H2 mL s2.msk E2.dom
 have U:ys.length<sizeLine:=by
  rw[<-il.len];have:C.length<=l.length:=by rw[et,length_append];omega
  omega
 by_cases I:i<ds.length
 .refine .inr ?_;have hd:=getElem?_eq_getElem I;let⟨go,yl⟩:=hit.1 _ hd;refine⟨go,U,λx H3 hy=>?_⟩;let⟨s3,ix⟩:=yl x H3 hy;rw[List.drop_eq_getElem_cons I]at T;let⟨o,eo,T⟩:=VL (T);let⟨r,er',T⟩:=VL T;let⟨Y1,g1,eo⟩:=VL eo;let⟨c,c1,eo⟩:=VL eo;refine⟨⟨mL,gx ks Y,ds[i]⟩,(E2.grow s3).wiped ks,ix,Y1,g1,λσ4 E4 l4 k4=>⟨⟨l4,λj w hw=>?_⟩,⟨mL,Y1⟩,E4,c,c1,λH5 s5=>?_⟩⟩
  .exact k4 j w (wipe_iff.mp hw).2 hw
  .have hm:ds.length-(i+1)<ds.length-i:=by omega
   cases c with
   |true=>
    refine IQ ?_;let⟨y,y1,eo⟩:=VL eo;cases eo;refine⟨Y1,E4.grow s5,y,y1,λv H6 A' s6 iv nv fv=>⟨_,hm,I,rfl,s2.trans (s3.trans (s5.trans s6)),C++[y],r,A++A',?_,?_,?_,er',?_⟩⟩
    .have s36:=s3.trans (s5.trans s6);have il':=DeepL.frame (NL.of s36) C ys A (λa _ o h=>s36 _ _ h) il;exact DeepL.snoc iv il'
    .refine List.nodup_append.mpr ⟨nd,nv,λa t b hb z=>?_⟩;subst z;exact((DeepL.lists C ys A il a t).same (s3.trans s5)).ne (fv a hb)
    .intro a t;rcases mem_append.mp t with t|t
     .exact fr a t
     .exact(s1.trans (s2.trans (s3.trans s5))).free (fv a t)
    .rw[et,<-Option.some.inj T,List.append_assoc];rfl
   |false=>
    refine IP ?_;cases eo;have s35:=s3.trans s5;refine⟨_,hm,I,rfl,s2.trans s35,C,r,A,DeepL.frame (NL.of s35) C ys A (λa _ o h=>s35 _ _ h) il,nd,fr,er',?_⟩;rw[et,<-Option.some.inj T]
 .have hie:i=ds.length:=by omega
  subst hie;refine .inl ⟨hit.2 (VI _),VF U,λp hp=>?_⟩;rw[List.drop_of_length_le (le_refl _)]at T;cases T;rw[List.append_nil]at et;subst et;have hpA:p ∉ A:=λz=>by
   exact(DeepL.lists l ys A il p z).ne (hp)
  refine k _ _ _ (s1.trans (s2.trans (Same.new hp))) ⟨p,ys,A,rfl,al,rfl,DeepL.frame (NL.of (Same.new hp)) l ys A (λa _ o h=>Same.new hp _ _ h) il⟩ (List.nodup_cons.mpr ⟨hpA,nd⟩) λa t=>?_;rcases mem_cons.mp t with rfl|t
  .exact(s1.trans s2).free hp
  .exact fr a t
end
def  SO(K:Frag)(B:Bs)(O:Ve)(Y:Ev)(o:Option (Sl×Ev)):TE:=λσ H Q=>EnvOk K B O σ H Y/\∃s Y',o=!(s,Y')/\∀v H' O',Same (msk O H) (msk O' H')->EnvOk K B O' (σ++[!v]) H' (Y'++[!s])->Q v H'
def  pW(X:Cx)(e:Expr)(g:U3):Prop:=∀B O Y,PU X e (SO X.K B O Y (g Y))
section
variable{X:Cx}{e:Expr}
def  kX(f:U0):U3:=λY=>(f (vw Y)).bind λd=>!((.deep,d),Y)
def  oE(f:UZ):U3:=λY=>(f (di Y)).bind λds=>!((.top,.lst ds),Y)
def  ui(f:U0):U3:=λY=>(f (di Y)).bind λd=>!((.sh,d),Y)
def  Bu(f:U0):U3:=λY=>(f (vw Y)).bind λd=>!((.sh,d),cR Y)
def HE(h:ug X e f):pW X e (kX f):=λB O Y=>(h (vw Y)).imp λσ H Q ⟨E,s,Y',q,k⟩=>by
 let⟨d,l,j⟩:=VL q;cases j;refine⟨E.view,d,l,λv H' A s i n f=>?_⟩;have p:=Deep.lists d v A i;have t:∀b,(O b||decide (b∈A))=true->Hid (H' b):=λb g=>by
  rcases(Bool.or_eq_true _ _).mp g with g|g
  .exact(E.lis b g).same s
  .exact p b (Vt g)
 have le:Same (msk O H) (msk (λb=>O b||decide (b∈A)) H'):=λb o q=>by
  let⟨l,j⟩:=a9 q;have g:b ∉ A:=λz=>by rw[f b z]at j;cases j
  rw[aN (by simp[l,g])];exact s _ _ j
 refine k v H' _ le (E.more s le (λb g=>?_) (λb g=>by simp[g]) (λb g=>by simp[g]) p n f ?_)
 .rcases(Bool.or_eq_true _ _).mp g with g|g
  .exact .inl g
  .exact .inr (Vt g)
 .refine Deep.frame (λb o g r=>?_) d v A (λa _ o h=>h) i;cases z:(O b||decide (b∈A))with
  |false=>rw[aN z];exact g
  |true=>
   have e:=t b z;rw[g]at e;exact(r e).elim
def Bv(h:PFu X e f):pW X e (oE f):=λB O Y=>(h O _).imp λσ H Q ⟨E,s,Y',q,k⟩=>by
 let⟨ds,r,j⟩:=VL q;cases j;refine⟨E.viewS,ds,r,λp xs H' s t l=>?_⟩;have le:Same (msk O H') (msk (λb=>O b||decide (b=p)) (aR H' p (.lst xs))):=λb o q=>by
  let⟨r,j⟩:=a9 q;have g:=am j t;rw[aN (by simp[r,g]),ag g];exact j
 refine k _ _ _ (s.msk.trans le) ((E.grow s).more (Same.new t) le (λb g=>?_) (λb g=>by simp[g]) (λb g=>by simp[mem_singleton.mp g]) (λa C=>?_) (by simp) (λa C=>by rw[mem_singleton.mp C];exact t) ⟨p,ds,xs,rfl,rfl,rfl,al,IsL.mono le ds xs l⟩)
 .rcases(Bool.or_eq_true _ _).mp g with g|g
  .exact .inl g
  .exact .inr (by simp[of_decide_eq_true g])
 .rw[mem_singleton.mp C];exact .inl ⟨xs,al⟩
def EnvOk.moreSh{K}(E:EnvOk K B O σ H Y)(h:Is K (msk O H) d v):EnvOk K B O (σ++[!v]) H (Y++[!(.sh,d)]):=
 E.more (A:=[]) (Same.refl _) (Same.refl _) (λ_ h=>.inl h) (λ_ h=>h) (λ_ h=>(nomatch h)) (λ_ h=>(nomatch h)) List.nodup_nil (λ_ h=>(nomatch h)) ⟨rfl,h⟩
def HF(h:PPu X e f):pW X e (ui f):=λB O Y=>(h O _).imp λσ H Q ⟨E,s,Y',q,k⟩=>by
 let⟨d,j,g⟩:=VL q;cases g;exact⟨E.viewS,d,j,λv H' s i=>k v H' O s.msk ((E.grow s).moreSh i)⟩
def M2(h:PPu X e f):pW X e (Bu f):=λB O Y=>(h B.O (vw Y)).imp λσ H Q ⟨E,s,Y',q,k⟩=>by
 let⟨d,j,g⟩:=VL q;cases g;let⟨l,le⟩:=E.frozen;exact⟨E.viewF,d,j,λv H' s i=>k v H' B.O (le.trans s.msk) ((l.grow s).moreSh i)⟩
def xN(h1:pW X e f)(h2:pW X e g):pW X e (aW f g):=λB O Y=>(h1 B O Y).by2 (h2 B O Y) λσ H Q ⟨E,s,Y',q,k⟩=>by
 rcases or_some q with q|q;all_goals grind
end
inductive Out where
 |nx (Y:Ev)
 |rt (s:Sl)
 |bk (Y:Ev)
 |ct (Y:Ev)
abbrev _root_.U1:=Ev->Option Out
def  RetOk(K:Frag)(B:Bs)(H':Hp)(s:Sl)(v:V):Prop:=∃(O':Ve)(A:List Addr),Same B.H H'/\(∀b,B.O b=true->O' b=true)/\(∀b,O' b=true->Hid (H' b))/\A.Nodup/\(∀a∈A,O' a=true/\B.H a=none)/\OwnC K O' H' s.1 s.2 v A
def  post(K:Frag)(B:Bs)(O:Ve)(H:Hp)(En:Ends):Out->Prop
 |.nx Y=>∀σ' H' O',Same (msk O H) (msk O' H')->EnvOk K B O' σ' H' Y->En.nx σ' H'
 |.bk Y=>∀σ' H' O',Same (msk O H) (msk O' H')->EnvOk K B O' σ' H' Y->En.bk σ' H'
 |.ct Y=>∀σ' H' O',Same (msk O H) (msk O' H')->EnvOk K B O' σ' H' Y->En.ct σ' H'
 |.rt s=>∀v H',RetOk K B H' s v->En.rt v H'
def post.mono{K}(s:Same (msk O H) (msk l H1)):∀{o:Out},post K B O H p o->post K B l H1 p o
 |.nx _,h=>λg H' j s' E=>h g H' j (s.trans s') E
 |.bk _,h=>λg H' j s' E=>h g H' j (s.trans s') E
 |.ct _,h=>λg H' j s' E=>h g H' j (s.trans s') E
 |.rt _,h=>h
def  tS(K:Frag)(B:Bs)(O:Ve)(Y:Ev)(o:Option Out):TS:=λEn σ H=>EnvOk K B O σ H Y/\∃out,o=!out/\post K B O H En out
def  PR(X:Cx)(st:Stmt)(F:U1):Prop:=∀B O Y,PS X st (tS X.K B O Y (F Y))
def  An(X:Cx)(st:List Stmt)(F:U1):Prop:=∀B O Y,PSs X st (tS X.K B O Y (F Y))
section
variable{X:Cx}{st:Stmt}{rest:List Stmt}{e:Expr}{pos:Pos}
def Bw:An X [] (λY=>!(.nx Y)):=λB O Y=>pss_nil.imp λg σ H ⟨E,o,q,k⟩=>by
 cases q;exact k σ H O (Same.refl _) E
noncomputable def  ab(F G:U1):U1:=λY=>(F Y).bind λo=>match o with|.nx Y'=>G Y'|o=>!o
def xO(h1:PR X st F)(h2:An X rest G):An X (st::rest) (ab F G):=λB O Y=>
 (kM (h1 B O Y) (PSs.ex λz:(Ve)×Ev=>h2 B z.1 z.2)).imp λC σ H ⟨E,o,q,k⟩=>by
 let⟨j,p,g⟩:=VL q;refine⟨E,j,p,?_⟩;cases j with
 |nx Y'=>exactλl H' r s' t=>⟨⟨r,Y'⟩,t,o,g,k.mono s'⟩
 |rt d=>cases g;exact k
 |bk Y'=>cases g;exact k
 |ct Y'=>cases g;exact k
def Bx:An X rest (λ_=>none):=λB O Y=>pss_never.imp λg σ H ⟨E,o,q,k⟩=>by cases q
def By:PR X st (λ_=>none):=λB O Y=>ps_never.imp λg σ H ⟨E,o,q,k⟩=>by cases q
def E7:PR X (.Pass pos) (λY=>!(.nx Y)):=λB O Y=>ps_pass.imp λg σ H ⟨E,o,q,k⟩=>by
 cases q;exact k σ H O (Same.refl _) E
def Ju:PR X (.Expr (.Constant (.str x) j pos) pos') (λY=>!(.nx Y)):=λB O Y=>ps_doc.imp λg σ H ⟨E,o,q,k⟩=>by
 cases q;exact k σ H O (Same.refl _) E
def  eC(g:U3):U1:=λY=>(g Y).bind λz=>!(.rt z.1)
def EnvOk.ret{K}(E:EnvOk K B O σ H Y){i:Nat}(h:Y[i]?=!(!s))(g:σ[i]?=!(!v)):RetOk K B H s v:=by
 let⟨F,h1,h2,p,j⟩:=E.fp;let⟨l,e,o⟩:=h1 i s h;rw[g]at e;cases e;exact⟨O,F i,E.same,E.sub,E.lis,h2 i,j i,o⟩
def wa(h:pW X e g):PR X (.Return (!e) pos) (eC g):=λB O Y=>(At (h B O Y).1).imp λt σ H ⟨E,o,q,k⟩=>by
 let⟨⟨s,Y'⟩,p,l⟩:=VL q;cases l;refine⟨E,s,Y',p,λv H' r s' j=>k v H' ?_⟩;have len:σ.length=Y'.length:=by have:=j.len;simp at this;exact this
 exact j.ret (getElem?_last _ _) (by rw[<-len];exact getElem?_last _ _)
def E8:PR X (.Return none pos) (λ_=>!(.rt (.deep,.non))):=λB O Y=>ps_retN.imp λg σ H ⟨E,o,q,k⟩=>by
 cases q;exact k .non H ⟨O,[],E.same,E.sub,E.lis,List.nodup_nil,λ_ h=>(nomatch h),rfl,rfl⟩
noncomputable def  iB(Y:Ev)(i:Nat):U6:=match Y[i]? with
 |some (!s)=>!s
 |_=>none
def dv(h:iB Y i=!s):Y[i]?=!(!s):=by
 unfold iB at h;grind
def wb(i:Nat)(r:X.N[i]?=!x)(p:tq X.env.scope x)(hd:(!7)=false)(g:(!15)=false):PR X (.Return (!(.Name x t)) pos) (λY=>(iB Y i).bind λs=>!(.rt s)):=λB O Y=>(At (cM r p hd g)).imp λJ σ H ⟨E,o,q,k⟩=>by
 let⟨s,j,l⟩:=VL q;cases l;let⟨F,h1,h2,I,C⟩:=E.fp;let⟨v,e,o⟩:=h1 i s (dv j);exact⟨v,e,k v H (E.ret (dv j) e)⟩
def  aw(i:Nat)(g:U3):U1:=λY=>(g Y).bind λz=>!(.nx (z.2.set i (!z.1)))
def xP{K}(h:tS K B O Y (aw i g Y) r σ H):Ax (SO K B O Y (g Y)) (tL i) r σ H:=by
 let⟨E,o,q,k⟩:=h;let⟨⟨s,Y'⟩,l,j⟩:=VL q;cases j;exact⟨E,s,Y',l,λv H' p s' t=>k _ H' p s' (t.put i)⟩
def Jv(l:X.N.Nodup)(hi:X.N[i]?=!x)(o:Eg X.env.scope x)(h:pW X e g)(r:X.fn x=true\/X.env.scope.names.lookup x=some .local)(j:swapsWith e (!(.Name x pos')) pos.line X.env=pure false\/(swapsWith e (!(.Name x pos')) pos.line X.env=pure true/\X.env.scope.names.lookup x=some .local)):PR X (.Assign [.Name x pos'] e pos) (aw i g):=λB O Y=>by
 rcases j with j|⟨j,p⟩
 .exact(IB l hi o (h B O Y).1 j r).imp λt σ H h=>xP h
 .exact((h B O Y).2 i x pos' pos l hi p j).imp λt σ H h=>xP h
def  jW(f:U0):U1:=λY=>(f (vw Y)).bind λ_=>!(.nx Y)
def E9(h:PP X e f)(l:swapsWith e none pos.line X.env=pure false):PR X (.Expr e pos) (jW f):=λB O Y=>(je (h mL (vw Y)) l).imp λr σ H ⟨E,o,q,k⟩=>by
 let⟨d,j,g⟩:=VL q;cases g;exact⟨E.view,d,j,λv H' s' p=>k σ H' O s'.msk (E.grow s')⟩
def  dj(fc:U2)(F G:U1):U1:=λY=>(fc (vw Y)).bind λc=>if c=true then F Y else G Y
def M3(l:PQ X c t)(r:An X a F)(p:An X b G):PR X (.If c a b pos) (dj t F G):=λB O Y=>(L4 (l mL (vw Y)) (r B O Y) (p B O Y)).imp λC σ H ⟨E,o,q,k⟩=>by
 let⟨c,j,g⟩:=VL q;refine⟨E.view,c,j,λH' s'=>?_⟩;cases c with
 |true=>rw[if_pos rfl]at g;exact IQ ⟨E.grow s',o,g,k.mono s'.msk⟩
 |false=>rw[if_neg Bool.false_ne_true]at g;exact IP ⟨E.grow s',o,g,k.mono s'.msk⟩
end
def  SQ(K:Frag)(B:Bs)(O:Ve)(Y:Ev)(d:D)(o:Option Ev):TG:=λv σ H Q=>EnvOk K B O σ H Y/\Is K (msk O H) d v/\∃Y',o=!Y'/\∀σ',EnvOk K B O σ' H Y'->Q σ' H
def  Fa(X:Cx)(tg:Expr)(g:D->Ev->Option Ev):Prop:=∀B O Y d,PG X tg (SQ X.K B O Y d (g d Y))
def  QV(K:Frag)(B:Bs)(O:Ve)(Y:Ev)(ds:Vg)(o:Option Ev):Hq:=λvs σ H Q=>EnvOk K B O σ H Y/\IsL K (msk O H) ds vs/\∃Y',o=!Y'/\∀σ',EnvOk K B O σ' H Y'->Q σ' H
def  zt(X:Cx)(ts:Vh)(g:Vg->Ev->Option Ev):Prop:=∀B O Y ds,PGs X ts (QV X.K B O Y ds (g ds Y))
def  dk(i:Nat):D->Ev->Option Ev:=λd Y=>!(Y.set i (!(.sh,d)))
def  lU:Vg->Ev->Option Ev:=λds Y=>match ds with|[]=>!Y|_=>none
noncomputable def  b8(g:D->Ev->Option Ev)(gs:Vg->Ev->Option Ev):Vg->Ev->Option Ev:=λds Y=>match ds with|d::r=>(g d Y).bind λY1=>gs r Y1|_=>none
noncomputable def  zu(n:Nat)(gs:Vg->Ev->Option Ev):D->Ev->Option Ev:=λd Y=>match d with|.tup ds=>if ds.length=n then gs ds Y else none|_=>none
section
variable{X:Cx}{e tg iter:Expr}{pos:Pos}
def Fb(o:X.N.Nodup)(hi:X.N[i]?=!x)(j:Eg X.env.scope x)(l:X.fn x=true\/X.env.scope.names.lookup x=some .local):Fa X (.Name x pos) (dk i):=
 λB O Y d=>(xq o hi j l).imp λv σ H Q ⟨E,g,Y',e,k⟩=>by
 cases e
 exact k _ (E.setSh g)
def Fc:zt X [] lU:=λB O Y ds=>pgs_nil.imp λj σ H Q ⟨E,g,Y',e,k⟩=>by
 cases ds with
 |nil=>cases e;exact⟨g,k σ E⟩
 |cons _ _=>cases e
def gse_cons(h1:Fa X e g)(h2:zt X o gs)(U:(assignEach (e::o) X.env).map (·.2)=assign e X.env::(assignEach o X.env).map (·.2)):zt X (e::o) (b8 g gs):=λB O Y ds=>by
 cases ds with
 |nil=>exactλpins s σ H C us Q I r ⟨_,_,Y',e,_⟩=>by cases e
 |cons d r=>
  refine(tM (h1 B O Y d) (PGs.ex λz:Ev=>h2 B O z r) U).imp λC σ H Q ⟨E,⟨x,t,z,J,T⟩,Y',e,k⟩=>?_;let⟨j,e1,e2⟩:=VL (e);exact⟨x,t,z,E,J,j,e1,λp E1=>⟨j,E1,T,Y',e2,λl E2=>k l E2⟩⟩
def Jw(I:X.calm=true)(h:zt X g p)(C:(assignEach g X.env).length=n)(j:(assignEach g X.env).findIdx? (·.1)=none):Fa X (.Tuple g k pos) (zu n p):=λB O Y d=>by
 refine(Av I (PGs.ex λz:Vg=>h B O Y z) C j).imp λv σ H Q ⟨E,r,Y',e,k⟩=>?_;cases d with
 |tup ds=>
  let⟨a,xs,rfl,t,o⟩:=r;have l:(if ds.length=n then p ds Y else none)=!Y':=e;split at l
  .exact⟨a,xs,rfl,msk_le.seqT t,by rw[<-o.len];assumption,ds,E,o,Y',l,k⟩
  .cases l
 |_=>cases e
noncomputable def  p0(step:D->U1):Vg->U1
 |[],Y=>!(.nx Y)
 |d::ds,Y=>(step d Y).bind λo=>match o with
  |.nx Y'=>p0 step ds Y'
  |.ct Y'=>p0 step ds Y'
  |.bk Y'=>!(.nx Y')
  |.rt v=>!(.rt v)
def  we(g:D->Ev->Option Ev)(F:U1):D->U1:=λd Y=>(g d Y).bind F
def  gT(fi:UZ)(g:D->Ev->Option Ev)(F:U1):U1:=λY=>(fi (di Y)).bind λds=>p0 (we g F) ds Y
def  zv(fi:UZ)(g:D->Ev->Option Ev)(F:U1):U1:=λY=>(fi (vw Y)).bind λds=>p0 (we g F) ds (cR Y)
def xQ{K}(E:EnvOk K B O σ H Y)(V:VE K O σ H Yv)(q:(o.bind λds=>p0 (we g F) ds Y)=!out)(k:post K B O H En out):
  L7 (tJ K O Yv o) (λv σ H Q=>∃z:(Ve)×Ev×D,SQ K B z.1 z.2.1 z.2.2 (g z.2.2 z.2.1) v σ H Q) (λEn σ H=>∃z:(Ve)×Ev,tS K B z.1 z.2 (F z.2) En σ H) En σ H:=by
 let⟨ds,q1,q⟩:=VL q
 refine⟨V,ds,q1,λJ H1 s1 it=>⟨λi m j H'=>i<=ds.length/\m=ds.length-i/\∃O' Y',Same _ (msk O' H')/\EnvOk K B O' j H' Y'/\p0 _ (ds.drop i) Y'=!out,
  ⟨ds.length,Nat.zero_le _,by simp,O,Y,Same.refl _,E.grow s1,by simpa using q⟩,?_⟩⟩
 rintro i m σ2 H2 ⟨hi,rfl,U,Y2,s2,E2,e2⟩
 have hit:=it i H2 U s2 E2.dom
 by_cases p:i<ds.length
 .refine .inr ?_;have hd:=getElem?_eq_getElem p;let⟨go,yl⟩:=hit.1 _ hd;refine⟨go,λj H'=>i+1<=ds.length/\∃O' Y',Same _ _/\EnvOk K B O' j H' Y'/\p0 _ _ Y'=!out,λj H' ⟨a,b⟩=>⟨ds.length-(i+1),by omega,a,rfl,b⟩,λx H3 hy=>?_⟩;let⟨s3,ix⟩:=yl x H3 hy;rw[List.drop_eq_getElem_cons p]at e2;let⟨o1,e3,T⟩:=VL (e2);let⟨t,g3,f3⟩:=VL e3;refine⟨⟨U,Y2,ds[i]⟩,E2.grow s3,ix,t,g3,λσ4 E4=>⟨⟨U,t⟩,E4,o1,f3,?_⟩⟩;have s4:=s2.trans s3.msk;cases o1 with
  |nx l=>exactλr H5 C s5 I=>⟨p,C,l,s4.trans s5,I,T⟩
  |ct l=>exactλr H5 C s5 I=>⟨p,C,l,s4.trans s5,I,T⟩
  |bk l=>
   cases T;exactλr H5 C s5 I=>k r H5 C (s1.msk.trans (s4.trans s5)) I
  |rt d=>
   cases T;exact k
 .have hie:i=ds.length:=by omega
  subst hie;rw[List.drop_of_length_le (le_refl _)]at e2;cases e2;exact .inl ⟨hit.2 (VI _),k σ2 H2 U (s1.msk.trans s2) E2⟩
def Jx(l:PassesOwn (!4) X.A X.env X.xe)(p:X.calm=true)(hi:PJ X tg iter t)(o:Fa X tg g)(r:An X body F)(j:∀x,foldedSetIterable iter X.env x=pure x):PR X (.For tg iter body [] pos) (gT t g F):=λB O Y=>
 (AA l p (hi O _) (PG.ex λz:(Ve)×Ev×D=>o B z.1 z.2.1 z.2.2) (PSs.ex λz:(Ve)×Ev=>r B z.1 z.2) j).imp λC σ H ⟨E,out,q,k⟩=>xQ E E.viewS q k
def Fd(l:PassesOwn (!4) X.A X.env X.xe)(p:X.calm=true)(hi:PJ X tg iter t)(o:Fa X tg g)(r:An X body F)(j:∀x,foldedSetIterable iter X.env x=pure x):PR X (.For tg iter body [] pos) (zv t g F):=λB O Y=>
 (AA l p (hi B.O (vw Y)) (PG.ex λz:(Ve)×Ev×D=>o B z.1 z.2.1 z.2.2) (PSs.ex λz:(Ve)×Ev=>r B z.1 z.2) j).imp λC σ H ⟨E,out,q,k⟩=>xQ E.frozen.1 E.viewF q (k.mono E.frozen.2)
def mM{st}(h1:PR X st F)(h2:PR X st G):PR X st (aW F G):=λB O Y=>(h1 B O Y).by2 (h2 B O Y) λg σ H ⟨E,out,q,k⟩=>by
 rcases or_some q with q|q;all_goals grind
end
section
variable{K:Frag}{B:Bs}{O:Ve}{σ:St}{H:Hp}{Y:Ev}
def EnvOk.ownAt(E:EnvOk K B O σ H Y){i:Nat}(h:Y[i]?=!(!(c,.lst ds)))(C:c≠.sh):
  ∃a xs,σ[i]?=!(!(.ref a))/\H a=!(.lst xs)/\ds.length=xs.length/\O a=true/\B.H a=none:=by
 let⟨F,h1,h2,J,r⟩:=E.fp
 let⟨v,e,o⟩:=h1 i _ h
 cases c with
 |sh=>exact absurd rfl C
 |top=>
  let⟨a,I,xs,p,j,g,t,l⟩:=o;cases p;refine⟨a,xs,by rw[e,j],t,l.len,?_⟩;exact r i a (by rw[g];exact Vr)
 |deep=>
  let⟨a,xs,T,p,j,g,l⟩:=o;refine⟨a,xs,by rw[e,p],j,DeepL.len l,?_⟩;exact r i a (by rw[g];exact Vr)
def  Pu(f:{α:Type}->List α->α->List α):Prop:=∀{K:Frag}{M H:Hp}{ds:Vg}{xs:List V}{A A1:List Addr}{d:D}{v:V},DeepL K M H ds xs A->Deep K M H d v A1->(A++A1).Nodup->
 ∃A',DeepL K M H (f ds d) (f xs v) A'/\A'.Nodup/\∀b∈A',b∈A\/b∈A1
def  Pv(f:{α:Type}->List α->α->List α):Prop:=∀{K:Frag}{M:Hp}{ds:Vg}{xs:List V}{d:D}{v:V},IsL K M ds xs->Is K M d v->IsL K M (f ds d) (f xs v)
def  newCat(c:Cat)(s:Sl):Cat:=if c=.deep/\s.1=.deep then .deep else .top
def EnvOk.change(E:EnvOk K B O (σ++[!v]) H (Y++[!s]))(f:{α:Type}->List α->α->List α)(hw:Pu f)(hi:Pv f){i:Nat}(h:Y[i]?=!(!(c,.lst ds)))(hc:c≠.sh):
  ∃a xs,σ[i]?=!(!(.ref a))/\H a=!(.lst xs)/\ds.length=xs.length/\∃r,EnvOk K B r σ (aR H a (.lst (f xs v))) (Y.set i (!(newCat c s,.lst (f ds s.2))))/\Same (msk O H) (msk r (aR H a (.lst (f xs v)))):=by
 let⟨F,h1,h2,T,h4⟩:=E.fp
 have len:σ.length=Y.length:=by have:=E.len;simp at this;exact this
 have hil:=(Vq.mp h).1
 have hin:i≠Y.length:=by omega
 let⟨v',e1,o1⟩:=h1 Y.length s (getElem?_last _ _)
 rw[<-len,getElem?_last]at e1
 cases e1
 let⟨v0,e0,o0⟩:=h1 i _ (by rw[getElem?_append_left hil];exact h)
 have e0':=fH (!1) e0
 -- the list's place
 have at_:∃a xs U,v0=.ref a/\H a=!(.lst xs)/\F i=a::U/\ds.length=xs.length/\(c=.deep->DeepL K (msk O H) H ds xs U)/\(∀r,Same (msk O H) (msk r H)->(∀b∈U,r b=false)->IsL K (msk r H) ds xs):=by
  cases c with
  |sh=>exact absurd rfl hc
  |top=>
   let⟨a,ds',xs,z1,z2,z3,z4,l⟩:=o0;cases z1;exact⟨a,xs,[],z2,z4,z3,l.len,(λz=>by cases z),λr le _=>IsL.mono le _ _ l⟩
  |deep=>
   let⟨a,xs,U,z1,z2,z3,l⟩:=o0;exact⟨a,xs,U,z1,z2,z3,DeepL.len l,λ_=>l,λr le hA=>DeepL.is (NL.of le) ds xs U (λb g o q=>by rw[aN (hA b g)];exact q) l⟩
 let⟨a,xs,U,rfl,ha,hF,hl,hdeep,htop⟩:=at_
 have J:a∈F i:=by rw[hF];exact Vr
 let⟨haO,haB⟩:=h4 i a J
 have nd:=h2 i
 rw[hF]at nd
 have haA':=(List.nodup_cons.mp nd).1
 have C:∀b∈U,b∈F i:=λb g=>by rw[hF];exact Vs _ g
 have han:a ∉ F Y.length:=λz=>hin (T _ _ a J z)
 refine⟨a,xs,e0',ha,hl,?_⟩
 -- the rest of the frame
 have oth:∀{r:Ve}{H':Hp},Same (msk O H) (msk r H')->(∀b,b≠a->H' b=H b)->∀j x,j≠i->Y[j]?=!(!x)->∃w,σ[j]?=!_/\OwnC K r H' x.1 x.2 w (F j):=λ{r H'} le hh j x p hx=>by
  have hjl:=(Vq.mp hx).1;let⟨w,e2,o2⟩:=h1 j x (by rw[getElem?_append_left hjl];exact hx);refine⟨w,fH (!1) e2,o2.frame le λb g o q=>?_⟩;have t:b≠a:=λz=>p (T j i a (z▸g) J);rw[hh b t];exact q
 by_cases hd:c=.deep/\s.1=.deep
 .let⟨rfl,hs⟩:=hd;let⟨sc,sd⟩:=s;cases(hs);have o1':=o1;have ndT:=List.nodup_append.mpr ⟨(List.nodup_cons.mp nd).2,h2 _,λx hx y hy z=>by
   subst z;exact hin (T i Y.length x (C x hx) hy)⟩
  let⟨A2,l2,n2,sub2⟩:=hw (hdeep rfl) o1' ndT;have haA2:a ∉ A2:=λz=>by
   rcases sub2 a z with z|z
   .exact haA' z
   .exact han z
  have me:msk O (aR H a (.lst (f xs v)))=msk O H:=jf haO;have le:Same (msk O H) (msk O (aR H a (.lst (f xs v)))):=by rw[me];exact Same.refl _
  refine⟨O,⟨λb o z=>?_,E.bdom,E.sub,λb g=>?_,by simpa using len,λj=>if j=i then a::A2 else if j=Y.length then[]else F j,λj x q=>?_,λj=>?_,λj k b p I=>?_,λj b p=>?_⟩,le⟩
  .rw[ag (am z haB)];exact E.same b o z
  .by_cases t:b=a
   .subst t;exact .inl ⟨_,al⟩
   .rw[ag t];exact E.lis b g
  .rcases get_set_some q with⟨e,q'⟩|⟨e,q'⟩
   .cases q';subst e;refine⟨.ref a,e0',?_⟩;simp only[if_true];refine⟨a,f xs v,A2,rfl,al,rfl,DeepL.frame (NL.of le) _ _ A2 (λb g o q=>?_) l2⟩;have t:b≠a:=λz=>haA2 (by rw[<-z];exact g);rw[ag t];exact q
   .have p:j≠Y.length:=by have:=(Vq.mp q').1;omega
    let⟨w,e2,o2⟩:=oth le (λb g=>ag g) j x e q';exact⟨w,e2,by simp only[if_neg e,if_neg p];exact o2⟩
  .dsimp only;split
   .exact List.nodup_cons.mpr ⟨haA2,n2⟩
   .split
    .exact List.nodup_nil
    .exact h2 _
  .have key:∀j b,b∈(if j=i then a::A2 else if j=Y.length then[]else F j)->(j=i/\(b∈F i\/b∈F Y.length))\/(j≠i/\j≠Y.length/\b∈F j):=λj b g=>by
    by_cases e:j=i
    .rw[if_pos e]at g;refine .inl ⟨e,?_⟩;rcases mem_cons.mp g with rfl|g
     .exact .inl J
     .rcases sub2 b g with z|z
      .exact .inl (C b z)
      .exact .inr z
    .rw[if_neg e]at g;by_cases e2:j=Y.length
     .rw[if_pos e2]at g;cases g
     .rw[if_neg e2]at g;exact .inr ⟨e,e2,g⟩
   rcases key j b p with⟨p1,p2⟩|⟨p1,p2,p3⟩<;>rcases key k b I with⟨q1,q2⟩|⟨q1,q2,q3⟩
   .omega
   .rcases p2 with p2|p2
    .exact absurd (T _ _ b p2 q3) (!1)
    .exact absurd (T _ _ b p2 q3) (!1)
   .rcases q2 with q2|q2
    .exact absurd (T _ _ b p3 q2) (!1)
    .exact absurd (T _ _ b p3 q2) (!1)
   .exact T _ _ b p3 q3
  .dsimp only at p;split at p
   .rcases mem_cons.mp p with rfl|p
    .exact⟨haO,haB⟩
    .rcases sub2 b p with z|z
     .exact h4 i b (C b z)
     .exact h4 _ b z
   .split at p
    .cases p
    .exact h4 _ b p
 .have nc:newCat c s=.top:=by unfold newCat;rw[if_neg hd]
  rw[nc];let r:Ve:=λb=>O b&&not (decide (b∈U))&&not (decide (b∈F Y.length));have hO'a:r a=true:=by simp[r,haO,haA',han]
  have hsub:∀b,r b=true->O b=true:=λb g=>by simp[r]at g;exact g.1.1
  have hno:∀b∈U,r b=false:=λb g=>by simp[r,g]
  have hno2:∀b∈F Y.length,r b=false:=λb g=>by simp[r,g]
  have le0:Same (msk O H) (msk r H):=λb o q=>by
   let⟨q1,q2⟩:=a9 q;rw[aN (by simp[r,q1])];exact q2
  have me:msk r (aR H a (.lst (f xs v)))=msk r H:=jf hO'a;have le:Same (msk O H) (msk r (aR H a (.lst (f xs v)))):=by rw[me];exact le0
  have l3:IsL K (msk r (aR H a (.lst (f xs v)))) (f ds s.2) (f xs v):=by
   rw[me];exact hi (htop r le0 hno) (o1.is le0 hno2)
  refine⟨r,⟨λb o z=>?_,E.bdom,λb g=>?_,λb g=>?_,by simpa using len,λj=>if j=i then[a]else if j=Y.length then[]else F j,λj x q=>?_,λj=>?_,λj k b p I=>?_,λj b p=>?_⟩,le⟩
  .rw[ag (am z haB)];exact E.same b o z
  .have h5:b ∉ U:=λz=>E.bdom b g (h4 i b (C b z)).2;have h6:b ∉ F Y.length:=λz=>E.bdom b g (h4 _ b z).2;simp[r,E.sub b g,h5,h6]
  .by_cases t:b=a
   .subst t;exact .inl ⟨_,al⟩
   .rw[ag t];exact E.lis b (hsub b g)
  .rcases get_set_some q with⟨e,q'⟩|⟨e,q'⟩
   .cases q';subst e;refine⟨.ref a,e0',?_⟩;simp only[if_true];exact⟨a,f ds s.2,f xs v,rfl,rfl,rfl,al,l3⟩
   .have p:j≠Y.length:=by have:=(Vq.mp q').1;omega
    let⟨w,e2,o2⟩:=oth le (λb g=>ag g) j x e q';exact⟨w,e2,by simp only[if_neg e,if_neg p];exact o2⟩
  .dsimp only;split
   .simp
   .split
    .exact List.nodup_nil
    .exact h2 _
  .dsimp only at p I;split at p
   .split at I
    .omega
    .split at I
     .cases I
     .rw[mem_singleton.mp p]at I;exact absurd (T _ _ a J I) (!1)
   .split at p
    .cases p
    .split at I
     .rw[mem_singleton.mp I]at p;exact absurd (T _ _ a p J) (!1)
     .split at I
      .cases I
      .exact T _ _ b p I
  .dsimp only at p;split at p
   .rw[mem_singleton.mp p];exact⟨hO'a,haB⟩
   .rename_i hji;split at p
    .cases p
    .rename_i hjn;refine⟨?_,(h4 _ b p).2⟩;have h5:b ∉ U:=λz=>hji (T _ _ b p (C b z));have h6:b ∉ F Y.length:=λz=>hjn (T _ _ b p z);simp[r,(h4 _ b p).1,h5,h6]
end
def  Fe(R:U0)(g:D->Ev->Option Ev):U1:=λY=>(R (di Y)).bind λd=>(g d Y).bind λY'=>!(.nx Y')
def  Jy(R:U0)(g:D->Ev->Option Ev):U1:=λY=>(R (vw Y)).bind λd=>(g d (cR Y)).bind λY'=>!(.nx Y')
section
variable{X:Cx}{e tg:Expr}{pos:Pos}
def Ff(h:PP X e R)(J:Fa X tg g)(I:swapsWithSole [tg] e pos.line X.env=pure false)(C:swappedStores [tg] e X.env=pure none)(h1:(assignEach [tg] X.env).map (·.2)=[assign tg X.env]):PR X (.Assign [tg] e pos) (Fe R g):=λB O Y=>
 (rg (h O _) (PG.ex λz:D=>J B O Y z) I C h1).imp λU σ H ⟨E,o,q,k⟩=>by
 let⟨d,t,r⟩:=VL q;let⟨Y',p,l⟩:=VL r;cases l;exact⟨E.viewS,d,t,λv H' s i=>⟨d,E.grow s,i,Y',p,λj T=>k j H' O s.msk T⟩⟩
def Fg(h:PP X e R)(J:Fa X tg g)(I:swapsWithSole [tg] e pos.line X.env=pure false)(C:swappedStores [tg] e X.env=pure none)(h1:(assignEach [tg] X.env).map (·.2)=[assign tg X.env]):PR X (.Assign [tg] e pos) (Jy R g):=λB O Y=>
 (rg (h B.O (vw Y)) (PG.ex λz:D=>J B B.O _ z) I C h1).imp λEn σ H ⟨E,o,q,k⟩=>by
 let⟨d,t,r⟩:=VL q;let⟨Y',p,l⟩:=VL r;cases l;let⟨U,le⟩:=E.frozen;exact⟨E.viewF,d,t,λv H' s i=>⟨d,U.grow s,i,Y',p,λj T=>k j H' B.O (le.trans s.msk) T⟩⟩
end
def  oF{α:Type}(l:List α)(x:α):List α:=l++[x]
def Bz:Pu oF:=λh q g=>⟨_,DeepL.snoc q h,g,λb j=>mem_append.mp j⟩
def BA:Pv oF:=λh q=>h.app ⟨_,[],rfl,q,rfl⟩
def DeepL.setAt{K}(h:Deep K M H d v A1):∀{ds:Vg}{xs:List V}{A:List Addr}(j:Nat),DeepL K M H ds xs A->(A++A1).Nodup->
  ∃A',DeepL K M H (ds.set j d) (xs.set j v) A'/\A'.Nodup/\∀b∈A',b∈A\/b∈A1
 |[],_,_,_,l,nd=>by
  let⟨rfl,rfl⟩:=l;exact⟨[],⟨rfl,rfl⟩,List.nodup_nil,λ_ hb=>(nomatch hb)⟩
 |c::ds,_,_,0,⟨x,r,A0,A2,e,z,q,l⟩,nd=>by
  subst e;subst z;rw[List.append_assoc]at nd;let⟨n1,n2,n3⟩:=List.nodup_append.mp nd;let⟨m1,m2,m3⟩:=List.nodup_append.mp n2;refine⟨A1++A2,⟨v,r,A1,A2,rfl,rfl,h,l⟩,List.nodup_append.mpr ⟨m2,m1,λa ha b hb z=>m3 b hb a ha z.symm⟩,λb hb=>?_⟩;rcases mem_append.mp hb with hb|hb
  .exact .inr hb
  .exact .inl (VC _ hb)
 |c::ds,_,_,j+1,⟨x,r,A0,A2,e,z,q,l⟩,nd=>by
  subst e;subst z;rw[List.append_assoc]at nd;let⟨n1,n2,n3⟩:=List.nodup_append.mp nd;let⟨A',l',nd',sub⟩:=DeepL.setAt h j l n2;refine⟨A0++A',⟨x,r.set j v,A0,A',rfl,rfl,q,l'⟩,List.nodup_append.mpr ⟨n1,nd',λa ha b hb z=>?_⟩,λb hb=>?_⟩
  .rcases sub b hb with hb|hb
   .exact n3 a ha b (VB _ hb) z
   .exact n3 a ha b (VC _ hb) z
  .rcases mem_append.mp hb with hb|hb
   .exact .inl (VB _ hb)
   .rcases sub b hb with hb|hb
    .exact .inl (VC _ hb)
    .exact .inr hb
def  Jz(j:Nat){α:Type}(l:List α)(x:α):List α:=l.set j x
def M4(j:Nat):Pu (Jz j):=λh q g=>DeepL.setAt q j h g
def i_set(j:Nat):Pv (Jz j):=λh q=>.of (oi q j h.paired)
section
variable{X:Cx}{e:Expr}{pos:Pos}
def  ownL(Y:Ev)(i:Nat):Option (Cat×List D):=(iB Y i).bind λs=>match s with
 |(.sh,_)=>none
 |(c,.lst ds)=>!(c,ds)
 |_=>none
def bX(h:ownL Y i=!(c,ds)):Y[i]?=!(!(c,.lst ds))/\c≠.sh:=by
 let⟨⟨j,d⟩,e,q⟩:=VL h;have g:=dv e;grind
def  gA(i:Nat)(g:U3):U1:=λY=>(ownL Y i).bind λ_=>(g Y).bind λz=>(ownL z.2 i).bind λw=>if w.2.length+1<big then !(.nx (z.2.set i (!(newCat w.1 z.1,.lst (w.2++[z.1.2])))))else none
def ji(i:Nat)(h:pW X e g)(hN:X.N[i]?=!x)(hv:tq X.env.scope x)(hd:(!7)=false)(p:(!15)=false)(j:starEach [e] X.env=(false,eval e X.env)::starEach [] X.env)(l:(apos.endLine==cpos.line)=true):PR X (.Expr (.Call (.Attribute (.Name x px) "append" apos) [e] [] cpos) pos) (gA i g):=λB O Y=>
 (je (tT PySem.F.plainAttrs_list PySem.F.slot_list_append PySem.F.type_list_append ze (cM hN hv hd p) (dG (h B O Y).1 pa_nil j) rfl (by rw[j];rfl) l j rfl)).imp λEn σ H ⟨E,o,q,k⟩=>by
 let⟨⟨c0,ds0⟩,q1,q⟩:=VL q;let⟨⟨s,Y'⟩,q2,q⟩:=VL q;let⟨⟨c,ds⟩,q3,q⟩:=VL q;let⟨hz,q⟩:=ay q;subst q;let⟨h0,t⟩:=bX q1;let⟨h1,r⟩:=bX q3;let⟨a,I,C,r3,_⟩:=E.ownAt h0 t;refine⟨.ref a,C,.inl ⟨rfl,_,SqL.of r3⟩,E,s,Y',q2,λv H1 O1 T E1=>?_⟩;let⟨a',xs,e2,U,hl,O2,E2,J⟩:=E1.change oF Bz BA h1 r;rw[C]at e2;cases e2;exact⟨a,xs,v,rfl,rfl,U,by rw[kb,<-hl];exact Nat.lt_of_succ_lt hz,k σ _ O2 (T.trans J) E2⟩
def  fI(i:Nat)(fk:U0)(g:U3):U1:=λY=>(g Y).bind λz=>(ownL z.2 i).bind λw=>(fk (vw z.2)).bind λy=>match y with
 |.int k=>(zd w.2.length k).bind λj=>!(.nx (z.2.set i (!(newCat w.1 z.1,.lst (w.2.set j z.1.2)))))
 |_=>none
def BB(i:Nat)(h:pW X e g)(hk:PP X p fk)(hN:X.N[i]?=!x)(hv:tq X.env.scope x)(hd:(!7)=false)(J:(!15)=false)(ha:∀v,assign (.Subscript (.Name x r) p l) X.env v=(do
   let C<-holding [v] (eval (.Name x r) X.env)
   let I<-holding [v,C] (eval p X.env)
   standAt l
   holding [v,C,I] (setItem C I v)
   release [v,C,I] [])) (hs:swapsWithSole [.Subscript (.Name x r) p l] e pos.line X.env=pure false) (hw:swappedStores [.Subscript (.Name x r) p l] e X.env=pure none) (h1:(assignEach [.Subscript (.Name x r) p l] X.env).map (·.2)=[assign (.Subscript (.Name x r) p l) X.env]):PR X (.Assign [.Subscript (.Name x r) p l] e pos) (fI i fk g):=λB O Y=>
 (rg (h B O Y).1 (Aw (cM hN hv hd J) (PE.ex λz:Vv=>hk mL z) AU ha) hs hw h1).imp λEn σ H ⟨E,o,q,k⟩=>by
 let⟨⟨s,Y'⟩,q1,q⟩:=VL q
 let⟨⟨c,ds⟩,q2,q⟩:=VL q
 let⟨y,q3,q⟩:=VL q
 let⟨h0,t⟩:=bX q2
 refine⟨E,s,Y',q1,λv H1 O1 s1 T=>?_⟩
 let⟨a,xs0,e1,_⟩:=T.drop.ownAt h0 t
 refine⟨.ref a,e1,vw Y',T.drop.view,y,q3,λyv H2 U iy=>?_⟩
 cases y with
 |int n=>
  let⟨j,j1,q⟩:=VL q;cases q;cases(iy);let⟨a',xs,e2,r4,hl,O2,E2,s3⟩:=(T.grow U).change (Jz j) (M4 j) (i_set j) h0 t;rw[e1]at e2;cases e2;exact⟨a,xs,n,j,rfl,rfl,r4,by rw[<-hl];exact j1,k σ _ O2 (s1.trans (U.msk.trans s3)) E2⟩
 |_=>cases q
end
def  HG(K:Frag)(f:UY):Sp:=λvs H Q _=>∃O ds s,(∀b,O b=true->Hid (H b))/\IsL K (msk O H) ds vs/\f ds=!s/\∀v H',RetOk K ⟨H,O⟩ H' s v->Q v H'
noncomputable def  aH(n:Nat)(ds:Vg):Ev:=ds.map (λd=>!(.sh,d))++List.replicate (n-ds.length) none
noncomputable def  M5(o:Option Out):U6:=o.bind λo=>match o with
 |.rt d=>!d
 |.nx _=>!(.deep,.non)
 |_=>none
def  aK(n m:Nat)(F:U1)(ds:Vg):U6:=if ds.length=n then M5 (F (aH m ds))else none
def jj(h:aK n m F ds=!d):ds.length=n/\M5 (F (aH m ds))=!d:=by
 unfold aK at h;grind
section
variable{P:Program}{w:World}{K:Frag}{mg:Str->Va}{base:Heap}
def wf{i:Nat}(q:(aH n ds)[i]?=!(!s)):∃d,ds[i]?=!d/\s=(.sh,d):=by
 unfold aH at q;grind
def oG{O:Ve}{H:Hp}{N:Vc}{g:List V}{ds:Vg}(hd:∀b,O b=true->Hid (H b))(j:IsL K (msk O H) ds g):EnvOk K ⟨H,O⟩ O (jT N g) H (aH N.length ds) where
 same:=Same.refl _
 bdom:=λb h=>(hd b h).ne
 sub:=λ_ h=>h
 lis:=hd
 len:=by
  unfold jT aH;rw[length_append,length_append,length_map,length_map,List.length_replicate,List.length_replicate,j.len]
 fp:=by
  refine⟨λ_=>[],λi s q=>?_,λ_=>List.nodup_nil,λ_ _ _ h=>(nomatch h),λ_ _ h=>(nomatch h)⟩;let⟨d,e,rfl⟩:=wf q;let⟨x,l,o⟩:=j.get e;refine⟨x,?_,rfl,o⟩;have hi:=(Vq.mp l).1;unfold jT;rw[getElem?_append_left (by rw[length_map];exact hi),getElem?_map,l];rfl
def JA{st}(Fn:Fun K x l st f fd)(S:FnScope N ps (ah st))(T:∀(j:Value)(A:Around)(g:List Env)(s:Shared)(H:Hp)(E:XK),Room k (A.deeper (envOfC l (ah st) s.heap.objs.size f j))->An (nU rB P w K mg base N l (ah st) f j A g s H E).nox (aO st) F):
  FnOk P w K mg base rB (k+1) f fd ps (HG K (aK ps.length N.length F)):=by
 refine Fn.ok S (λI H Q E ⟨O,ds,d,_,p,e,_⟩=>by rw[<-p.len];exact(jj e).1) (λj A g s H I Q E J ⟨O,ds,d,hd,p,e,t⟩=>?_)
 refine⟨_,T j A g s H E J ⟨H,O⟩ O _,oG hd p,?_⟩
 let⟨o,U,e2⟩:=VL (jj e).2
 refine⟨o,U,?_⟩
 cases o with
 |rt d'=>cases e2;exact t
 |nx Y=>cases e2;exactλC H' O' s' r=>t .non H' ⟨O',[],r.same,r.sub,r.lis,List.nodup_nil,λ_ h=>(nomatch h),rfl,rfl⟩
 |bk Y=>cases e2
 |ct Y=>cases e2
structure Df(P:Program)(w:World)(K:Frag)(mg:Str->Va)(base:Heap)(x:Str)(k:Nat)(f:UY):Prop where
 ex:∃(a:Addr)(fd:FuncData)(ps:Vc),mg x=!(.ref a)/\PySem.W.keepIn K (.ref a)=true/\Binds K fd ps []/\FnOk P w K mg base rB k a fd ps (HG K f)
def RetOk.is(hd:∀b,O b=true->Hid (H b))(r:RetOk K ⟨H,O⟩ H' s v):Same H H'/\Is K (msk O H') s.2 v:=by
 let⟨J,A,h1,h2,I,C,t,p⟩:=r;refine⟨h1,p.is (λb o q=>?_) λa l=>?_⟩
 .let⟨g,j⟩:=a9 q;rw[aN];exact j;cases z:O b with
  |false=>rfl
  |true=>rw[h2 b z]at g;cases g
 .cases z:O a with
  |false=>rfl
  |true=>exact absurd (t a l).2 (hd a z).ne
end
section
variable{X:Cx}{x:Str}{p pos apos:Pos}{e o:Expr}{es:Vh}{k:Nat}{f:UY}{fa:UZ}
def  cx(o:U6):Vi:=o.bind λs=>!s.2
noncomputable def  qF(o:U6):Vi:=o.bind λs=>match s with
 |(.deep,d)=>!d
 |_=>none
def Fh(F:Df X.prog X.w X.K X.mg X.base x k f)(hr:Room k X.A)(hg:Gl X x)(ha:PX X (e::es) fa)(l:(!7)=false)(he:starEach (e::es) X.env=(false,eval e X.env)::starEach es X.env)(j:(!14).any (·.1)=false):
  PP X (!18) (λY=>(fa Y).bind λds=>cx (f ds)):=λO Y=>by
 let⟨a,fd,ps,hm,hk,hb,G⟩:=F.ex
 refine(nq G hr hg hm hk hb .nil qw (ha O Y) l he j).imp λσ H Q ⟨E,d,q,U⟩=>?_
 let⟨ds,T,J⟩:=VL q
 let⟨s,I,C⟩:=VL J
 cases C
 refine⟨E,ds,T,λo H1 g il=>?_⟩
 show HG X.K f (o++[]) H1 Q E0
 rw[List.append_nil]
 refine⟨O,ds,s,(E.grow g).lis,il,I,λv H2 r=>?_⟩
 let⟨t,iv⟩:=r.is (E.grow g).lis
 exact U v H2 (g.trans t) iv
def Fi(F:Df X.prog X.w X.K X.mg X.base x k f)(hr:Room k X.A)(hg:Gl X x)(t:PX X (e::es) fa)(o:(!7)=false)(he:starEach (e::es) X.env=(false,eval e X.env)::starEach es X.env)(l:(!14).any (·.1)=false):
  ug X (!18) (λY=>(fa Y).bind λds=>qF (f ds)):=λY=>by
 let⟨a,fd,ps,hm,hk,hb,G⟩:=F.ex
 refine PE.pu ((nq G hr hg hm hk hb .nil qw (t mL Y) o he l).imp λσ H Q ⟨E,d,q,U⟩=>?_) rfl
 let⟨ds,T,J⟩:=VL q
 let⟨⟨c,d'⟩,I,j⟩:=VL J
 cases c with
 |sh=>cases j
 |top=>cases j
 |deep=>
  cases j;refine⟨E,ds,T,λC H1 g il=>?_⟩;show HG X.K f (C++[]) H1 Q E0;rw[List.append_nil];refine⟨mL,ds,_,(E.grow g).lis,il,I,λv H2 r=>?_⟩;let⟨O',A,h1,h2,h3,h4,h5,h6⟩:=r;exact U v H2 A (g.trans h1) (Deep.frame (NL.of msk_le) _ v A (λ_ _ _ h=>h) h6) h4 λa t=>g.free (h5 a t).2
end
def EnvOk.hand{K:Frag}{B:Bs}{O:Ve}{σ:St}{H:Hp}{Y:Ev}(E:EnvOk K B O σ H Y){j:Nat}{s:Sl}(h:Y[j]?=!(!s)):∃v,σ[j]?=!(!v)/\EnvOk K B O (σ++[!v]) H (Y.set j none++[!s]):=by
 let⟨F,h1,h2,h3,h4⟩:=E.fp;let⟨v,e,o⟩:=h1 j s h;have hl:=E.len;refine⟨v,e,E.same,E.bdom,E.sub,E.lis,by rw[length_append,length_append,List.length_set,hl];rfl,λi=>if i=Y.length then F j else if i=j then[]else F i,λi s' q=>?_,λi=>?_,λi k a ha hb=>?_,λi a ha=>?_⟩
 .by_cases c:i=Y.length
  .subst c;dsimp only;rw[if_pos rfl];rw[getElem?_append_right (by rw[List.length_set];exact VI _),List.length_set,Nat.sub_self]at q;cases q;exact⟨v,by rw[<-hl,getElem?_append_right (le_refl _),Nat.sub_self];rfl,o⟩
  .have hi:i<Y.length:=by
    rcases Nat.lt_or_ge i (Y.length+1)with c'|c'
    .omega
    .rw[List.getElem?_eq_none (by rw[length_append,List.length_set];exact c')]at q;cases q
   rw[getElem?_append_left (by rw[List.length_set];exact hi)]at q;by_cases cj:i=j
   .subst cj;rw[List.getElem?_set_self hi]at q;cases q
   .rw[List.getElem?_set_ne (λz=>cj z.symm)]at q;let⟨w,e1,o1⟩:=h1 i s' q;dsimp only;rw[if_neg c,if_neg cj];exact⟨w,by rw[getElem?_append_left (!1)];exact e1,o1⟩
 .show(if _ then _ else _:List Addr).Nodup;split
  .exact h2 j
  .split
   .exact List.nodup_nil
   .exact h2 i
 .have key:∀n,a∈(if n=Y.length then F j else if n=j then[]else F n)->(n=Y.length/\a∈F j)\/(n≠j/\n≠Y.length/\a∈F n):=λn hn=>by
   split at hn
   .rename_i c;exact .inl ⟨c,hn⟩
   .rename_i c;split at hn
    .cases hn
    .rename_i c2;exact .inr ⟨c2,c,hn⟩
  rcases key i ha with⟨a1,a2⟩|⟨a1,a2,a3⟩<;>rcases key k hb with⟨b1,b2⟩|⟨b1,b2,b3⟩
  .rw[a1,b1]
  .exact absurd (h3 k j a b3 a2) b1
  .exact absurd (h3 i j a a3 b2) a1
  .exact h3 i k a a3 b3
 .dsimp only at ha;split at ha
  .exact h4 j a ha
  .split at ha
   .cases ha
   .exact h4 i a ha
section
variable{X:Cx}
def  JB(j:Nat):U3:=λY=>(iB Y j).bind λs=>!(s,Y.set j none)
def M6(j:Nat){x:Str}{px:Pos}(hN:X.N[j]?=!x)(hv:tq X.env.scope x)(hd:(!7)=false)(hcd:(!15)=false):pW X (.Name x px) (JB j):=λB O Y=>PE.pu ((cM hN hv hd hcd).imp λσ H Q ⟨E,s,Y',q,k⟩=>by
 let⟨s',q1,q2⟩:=VL q;cases q2;let⟨v,e,E'⟩:=E.hand (dv q1);exact⟨v,e,k v H O (Same.refl _) E'⟩) rfl
def  BC(q:U2)(ga gb:U3):U3:=λY=>(q (vw Y)).bind λt=>if t=true then ga Y else gb Y
def M7{c a b:Expr}{pos:Pos}{q ga gb}(hc:PQ X c q)(ha:pW X a ga)(hb:pW X b gb):pW X (.IfExp c a b pos) (BC q ga gb):=λB O Y=>PE.pu ((tK (hc mL (vw Y)) (ha B O Y).1 (hb B O Y).1).imp λσ H Q ⟨E,s,Y',h,k⟩=>by
 let⟨t,e1,e2⟩:=VL h;refine⟨E.view,t,e1,λH1 s1=>?_⟩;have k':∀v H' O',Same (msk O H1) (msk O' H')->EnvOk X.K B O' (σ++[!v]) H' (Y'++[!s])->Q v H':=λv H' O' z e=>k v H' O' (s1.msk.trans z) e;cases t with
 |true=>rw[if_pos rfl]at e2;exact⟨E.grow s1,s,Y',e2,k'⟩
 |false=>rw[if_neg Bool.false_ne_true]at e2;exact⟨E.grow s1,s,Y',e2,k'⟩) rfl
end
def EnvOk.dem{K:Frag}{B:Bs}{O:Ve}{σ:St}{H:Hp}{Y:Ev}(E:EnvOk K B O σ H Y){i:Nat}{c:Cat}{ds:Vg}(h:Y[i]?=!(!(c,.lst ds)))(hc:c≠.sh):
  ∃O' a xs,σ[i]?=!(!(.ref a))/\H a=!(.lst xs)/\IsL K (msk O' H) ds xs/\EnvOk K B O' σ H (Y.set i (!(.top,.lst ds)))/\Same (msk O H) (msk O' H):=by
 let⟨F,h1,h2,h3,h4⟩:=E.fp
 let⟨v0,e0,o0⟩:=h1 i _ h
 have at_:∃a xs A',v0=.ref a/\H a=!(.lst xs)/\F i=a::A'/\(∀O',Same (msk O H) (msk O' H)->(∀b∈A',O' b=false)->IsL K (msk O' H) ds xs):=by
  cases c with
  |sh=>exact absurd rfl hc
  |top=>
   let⟨a,ds',xs,z1,z2,z3,z4,l⟩:=o0;cases z1;exact⟨a,xs,[],z2,z4,z3,λO' le _=>IsL.mono le _ _ l⟩
  |deep=>
   let⟨a,xs,A',z1,z2,z3,l⟩:=o0;exact⟨a,xs,A',z1,z2,z3,λO' le hA=>DeepL.is (NL.of le) ds xs A' (λb hb o q=>by rw[aN (hA b hb)];exact q) l⟩
 let⟨a,xs,A',rfl,ha,hF,hl⟩:=at_
 have nd:=h2 i
 rw[hF]at nd
 let⟨na,nA⟩:=List.nodup_cons.mp nd
 have sF:∀b∈A',b∈F i:=λb hb=>by rw[hF];exact Vs _ hb
 have aF:a∈F i:=by rw[hF];exact Vr
 have le:Same (msk O H) (msk (λb=>O b&&not (decide (b∈A'))) H):=λb o q=>by
  let⟨q1,q2⟩:=a9 q;rw[aN (by simp[q1])];exact q2
 have il:=hl _ le λb hb=>by simp[hb]
 refine⟨_,a,xs,e0,ha,il,⟨E.same,E.bdom,λb hb=>?_,λb hb=>E.lis b (by simp at hb;exact hb.1),by rw[List.length_set];exact E.len,λj=>if j=i then[a]else F j,λj s q=>?_,λj=>?_,λj k b hj hk=>?_,λj b hj=>?_⟩,le⟩
 .have n:b ∉ A':=λz=>E.bdom b hb (h4 i b (sF b z)).2;simp[E.sub b hb,n]
 .rcases get_set_some q with⟨e,q'⟩|⟨e,q'⟩
  .subst e;cases q';refine⟨.ref a,e0,?_⟩;simp only[if_true];exact⟨a,ds,xs,rfl,rfl,rfl,ha,il⟩
  .let⟨v,e1,o1⟩:=h1 j s q';refine⟨v,e1,?_⟩;simp only[if_neg e];exact o1.frame le λ_ _ _ z=>z
 .dsimp only;split
  .exact List.nodup_cons.mpr ⟨List.not_mem_nil,List.nodup_nil⟩
  .exact h2 _
 .have key:∀j,b∈(if j=i then[a]else F j)->b∈F j:=λj hj=>by
   split at hj
   .rename_i e;rw[e,mem_singleton.mp hj];exact aF
   .exact hj
  exact h3 j k b (key j hj) (key k hk)
 .dsimp only at hj;split at hj
  .rw[mem_singleton.mp hj];let⟨o1,o2⟩:=h4 i a aF;exact⟨by simp[o1,na],o2⟩
  .rename_i e;let⟨o1,o2⟩:=h4 j b hj;have n:b ∉ A':=λz=>e (h3 j i b hj (sF b z));exact⟨by simp[o1,n],o2⟩
section
variable{X:Cx}{x y:Str}{p py sp pos:Pos}{ik:Expr}{es:Vh}{k:Nat}{f:UY}{fk:U0}{fa:UZ}
def  BD(i:Nat)(fk:U0)(fa:UZ)(f:UY):U3:=λY=>(ownL Y i).bind λw=>(fk (vw Y)).bind λy=>(ak (.lst w.2) y).bind λd=>(fa (vw Y)).bind λds=>(f (d::ds)).bind λs=>if fw ds=true then !((.sh,s.2),Y.set i (!(.top,.lst w.2)))else none
def M8(i:Nat)(F:Df X.prog X.w X.K X.mg X.base x k f)(hr:Room k X.A)(hg:Gl X x)(hdb:(!7)=false)(hk:PP X ik fk)(hix:nr ik)(ha:PX X es fa)(hN:X.N[i]?=!y)(hv:tq X.env.scope y)(hd:(y==("__debug__":Str))=false)
  (hcd:(y==("__classdict__":Str))=false) (he:starEach (.Subscript (.Name y py) ik sp::es) X.env=(false,eval (.Subscript (.Name y py) ik sp) X.env)::starEach es X.env) (hpl:(!14).any (·.1)=false):
  pW X (.Call (.Name x p) (.Subscript (.Name y py) ik sp::es) [] pos) (BD i fk fa f):=λB O Y=>by
 let⟨a,fd,ps,hm,hk',hb,G⟩:=F.ex
 refine PE.pu ((nq G hr hg hm hk' hb .nil qw (dG (Hw ix_list (cM hN hv hd hcd) (hk mL (vw Y)) hix) (ha mL (vw Y)) he) hdb he hpl).imp λσ H Q ⟨E,s,Y',q,kk⟩=>?_) rfl
 let⟨⟨c,ws⟩,q1,q⟩:=VL q
 let⟨yk,q2,q⟩:=VL q
 let⟨d,q3,q⟩:=VL q
 let⟨ds,q4,q⟩:=VL q
 let⟨s',q5,q⟩:=VL q
 let⟨lf,q6⟩:=ay q
 cases q6
 let⟨h0,hc0⟩:=bX q1
 let⟨O',a',xs,e1,ha',il,E',le⟩:=E.dem h0 hc0
 refine⟨.ref a',e1,E.view,yk,q2,λyv H1 s1 iy=>?_⟩
 cases yk with
 |int n=>
  cases(show yv=.int n from iy);let⟨j,e2,e3⟩:=rE il.len (show nX ws n=some d from q3);let⟨v,e4,iv⟩:=il.get e2;refine⟨a',xs,n,v,rfl,rfl,SqL.of (s1 _ _ ha'),e3.trans e4,E.view.grow s1,ds,q4,λvs H2 s2 l=>?_⟩;show HG X.K f ((v::vs)++[]) H2 Q E0;rw[List.append_nil];have E2:=(E'.grow s1).grow s2;refine⟨O',d::ds,s',E2.lis,⟨v,vs,rfl,Is.mono (s1.trans s2).msk d v iv,IsL.nl E2.nl ds vs lf (by rw[nB]at l;exact l)⟩,q5,λw H3 r=>?_⟩;let⟨s3,iw⟩:=r.is E2.lis;exact kk w H3 O' (le.trans ((s1.trans s2).trans s3).msk) ((E2.grow s3).moreSh iw)
 |_=>cases q3
end
noncomputable def  rL:Vc->Str->Option Nat
 |[],_=>none
 |y::r,x=>if y=x then some 0 else(rL r x).map (·+1)
def gB:∀{l:Vc}{x:Str}{i:Nat},rL l x=!i->l[i]?=!x
 |[],_,_,h=>by cases h
 |y::r,x,i,h=>by
  unfold rL at h;split at h
  .rename_i e;cases h;simp[e]
  .cases e:rL r x with
   |none=>rw[e]at h;cases h
   |some j=>
    rw[e]at h;cases h;have:=gB e;simpa using this
structure Glob where
 fn:Str->Option (Nat×(UY))
 cn:Str->Vi
 no:Str->Bool
 fl:Str->Str->Bool
structure SE where
 N:Vc
 nm:List (Str×NameKind)
 k:Nat
 G:Glob
noncomputable def  gd(x:Str):Bool:=not (!7)&&not (!15)&&not (decide (x=("__name__":Str)))
noncomputable def  xR:Option NameKind->Bool
 |some .local=>true
 |some .cell=>true
 |some .free=>true
 |_=>false
def  slot(S:SE)(x:Str):Option Nat:=if gd x&&xR (S.nm.lookup x)then rL S.N x else none
noncomputable def  rM(x:Str):Option String:=if x=("int":Str)then some "int"else if x=("bool":Str)then some "bool"else if x=("str":Str)then some "str"else if x=("list":Str)then some "list"else if x=("tuple":Str)then some "tuple"else if x=("dict":Str)then some "dict"else none
def wg(h:rM x=!n):bootBuiltins x=!(.type n):=by
 unfold rM at h;split at h
 .rename_i e;cases h;subst e;decide+kernel
 .split at h
  .rename_i e;cases h;subst e;decide+kernel
  .split at h
   .rename_i e;cases h;subst e;decide+kernel
   .split at h
    .rename_i e;cases h;subst e;decide+kernel
    .split at h
     .rename_i e;cases h;subst e;decide+kernel
     .split at h
      .rename_i e;cases h;subst e;decide+kernel
      .cases h
def cA(h:gd x=true):(!7)=false/\(!15)=false/\x≠("__name__":Str):=by grind [gd]
section
variable{X:Cx}{e o:Expr}{es:Vh}{p pos apos:Pos}
def  m8(fl:Str->Str->Bool)(m:Str):D->Vi
 |.obj C ns ds=>if fl C m then(ns.zip ds).lookup m else none
 |_=>none
def oH{K}:∀{fs:List (Str×V)}{ds:Vg},IsL K H ds (fs.map (·.2))->((fs.map (·.1)).zip ds).lookup f=!d->∃v,fs.lookup f=!v/\Is K H d v
 |[],ds,_,e=>by simp at e
 |(n,v)::fs,[],l,e=>by simp at e
 |(n,v)::fs,d'::ds,⟨x,r,z,h,l⟩,e=>by
  have z':v::fs.map (·.2)=x::r:=z;cases z';simp only[List.map_cons,List.zip_cons_cons,List.lookup_cons]at e⊢;cases hf:f==n with
  |true=>rw[hf]at e;cases e;exact⟨v,rfl,h⟩
  |false=>rw[hf]at e;exact oH l e
def JC(ho:PP X o fo)(l:∀C Ca,r C m=true->nsIn X.K mainGlobals C=!(!(.ref Ca))->Cls X.K Ca/\NoAttr X.K Ca m)(g:attributeBase o m X.env (eval o X.env)=eval o X.env):PP X (.Attribute o m pos) (λY=>(fo Y).bind (m8 r m)):=λO Y=>by
 refine(AJ (ho O Y) g).imp λσ H Q ⟨E,d,q,k⟩=>?_;let⟨t,J,q⟩:=VL q;refine⟨E,t,J,λv H1 I iv=>?_⟩;cases t with
 |obj C T ds=>
  have j:(if r C m=true then(T.zip ds).lookup m else none)=!d:=q;split at j
  .rename_i hC;let⟨a,Ca,dx,fs,rfl,h0,h1,h2,h3⟩:=iv;subst h2;let⟨p,e1,e2⟩:=oH h3 j;let⟨c,U⟩:=l C Ca hC h0;exact⟨a,Ca,dx,fs,p,rfl,msk_le _ _ h1,c,U,e1,k p H1 I e2⟩
  .cases j
 |_=>cases q
structure Mf(P:Program)(w:World)(K:Frag)(mg:Str->Va)(base:Heap)(C m:Str)(k:Nat)(f:UY):Prop where
 ex:∃(Ca fa:Addr)(fd:FuncData)(ps:Vc),nsIn K mainGlobals C=!(!(.ref Ca))/\Cls K Ca/\Meth K Ca m fa/\Binds K fd ps []/\FnOk P w K mg base rB k fa fd ps (HG K f)
abbrev MT:=Str->Option (Nat×(UY))
def  iY(mt:MT)(k0:Nat)(m:Str)(d:D)(as:Vg):U6:=match d with
 |.obj C ns _=>(mt C).bind λz=>if z.1<=k0/\m ∉ ns then z.2 (d::as)else none
 |_=>none
def wh{mt}(h:iY mt j m d as=!s):∃C g ds k f,d=.obj C g ds/\mt C=!(k,f)/\k<=j/\m ∉ g/\f (d::as)=!s:=by
 cases d with
 |obj C g ds=>
  let⟨⟨k,f⟩,e,q⟩:=VL (h);split at q
  .rename_i c;exact⟨C,g,ds,k,f,rfl,e,c.1,c.2,q⟩
  .cases q
 |_=>cases h
structure Pick(X:Cx)(mt:MT)(k0:Nat)(m:Str) where
 C:Str
 Ca:Addr
 fa:Addr
 fd:FuncData
 ps:Vc
 k:Nat
 f:UY
 h:mt C=!(k,f)/\k<=k0/\nsIn X.K mainGlobals C=!(!(.ref Ca))/\Cls X.K Ca/\Meth X.K Ca m fa/\Binds X.K fd ps []/\FnOk X.prog X.w X.K X.mg X.base rB k fa fd ps (HG X.K f)
def Fj{mt}(g:∀C k f,mt C=!(k,f)->Mf X.prog X.w X.K X.mg X.base C m k f)(h:mt C=!(k,f))(l:k<=j):∃z:Pick X mt j m,z.C=C/\z.k=k/\z.f=f:=by
 let⟨Ca,fa,fd,ps,h1,h2,r,p,o⟩:=(g C k f h).ex;exact⟨⟨C,Ca,fa,fd,ps,k,f,h,l,h1,h2,r,p,o⟩,rfl,rfl,rfl⟩
def  kY(fo:U0)(fa:UZ)(mt:MT)(k0:Nat)(m:Str):Vv->U6:=λY=>(fo Y).bind λd=>(fa Y).bind λas=>iY mt k0 m d as
def JD{K}(h:Is K H (.obj C g ds) v)(l:nsIn K mainGlobals C=!(!(.ref Ca)))(j:m ∉ g):∃a dx fs,v=.ref a/\H a=!(.ins Ca dx fs)/\fs.lookup m=none:=by
 let⟨a,p,dx,fs,rfl,h0,h1,h2,o⟩:=h;grind
def zw(hfew:methodCallForm args.length (backTo pos (starEach args env)) (backToKw pos (keywordEach [] env)) = true)(hline:(apos.endLine == pos.line) = true) :
  eval (.Call (.Attribute (.Name x px) m apos) args [] pos) env = (do
   let ov <- eval (.Name x px) env
   standAt apos.atName
   let (f,first) <- holding [ov] (getMethod ov m (do return (<- importBound (.Name x px) env).getD true))
   callWith pos f first (backTo pos (starEach args env)) (backToKw pos (keywordEach [] env))):=by
 show (do
  let ov <- eval _ env
  standAt apos.atName
  methodCall _ m apos pos env ov (args.length + 0) _ _) = _
 have hm:∀ ov,methodCall (.Name x px) m apos pos env ov (args.length + 0) (backTo pos (starEach args env)) (backToKw pos (keywordEach [] env)) = (do
   let (f,first) <- holding [ov] (getMethod ov m (do return (<- importBound (.Name x px) env).getD true))
   callWith pos f first (backTo pos (starEach args env)) (backToKw pos (keywordEach [] env))):=fun ov=>by
  unfold methodCall
  rw [Nat.add_zero,hfew]
  simp only [calleeOf,methodCallPos,hline,Bool.not_true,Bool.false_or,if_true,pure_bind]
 simp only [hm]
def zx{mt}(ho:PP X (.Name x px) fo)(hmt:∀C k f,mt C=!(k,f)->Mf X.prog X.w X.K X.mg X.base C m k f)(hr:Room k0 X.A)(hline:(apos.endLine==pos.line)=true)(O:Ve)(Y:Vv):
  PE X (.Call (.Attribute (.Name x px) m apos) [] [] pos) (λσ H Q=>VE X.K O σ H Y/\∃s,kY fo (λ_=>![]) mt k0 m Y=!s/\∀v H1 H',Same H H1->RetOk X.K ⟨H1,O⟩ H' s v->Q v H'):=by
 refine(PE.ex λz:Pick X mt k0 m=>AO (ho O Y) z.h.2.2.2.1 z.h.2.2.2.2.1 z.h.2.2.2.2.2.2 (hr.mono z.h.2.1) z.h.2.2.2.2.2.1 .nil qw (zw rfl hline)).imp λσ H Q ⟨E,s,q,kk⟩=>?_
 let⟨d,q1,q⟩:=VL q
 let⟨C,ns,ds,k,f,hd,hm,hk,hn,hf⟩:=wh (q)
 let⟨z,rfl,rfl,rfl⟩:=Fj hmt hm hk
 refine⟨z,E,d,q1,λv H1 s1 iv=>?_⟩
 subst hd
 let⟨a,dx,fs,ev,ea,el⟩:=JD iv z.h.2.2.1 hn
 refine⟨a,dx,fs,ev,msk_le _ _ ea,el,?_⟩
 exact⟨O,[_],s,(E.grow s1).lis,⟨v,[],rfl,iv,rfl⟩,hf,λw' H3 r=>kk w' H1 H3 s1 r⟩
def JE{f:Vv->U6}(h:PE X e (λσ H Q=>VE X.K O σ H Y/\∃s,f Y=!s/\∀v H1 H',Same H H1->RetOk X.K ⟨H1,O⟩ H' s v->Q v H')):PE X e (tP X.K O Y (cx (f Y))):=h.imp λσ H Q ⟨E,d,q,k⟩=>by
 let⟨s,o,l⟩:=VL q;cases l;refine⟨E,s,o,λv H1 H' g r=>?_⟩;let⟨j,p⟩:=r.is (E.grow g).lis;exact k v H' (g.trans j) p
def  SR(K:Frag)(Ca:Addr)(g:Vg->Option (List (Str×D))):Sp:=λvs H Q _=>∃x vs' dx O ds fd,vs=.ref x::vs'/\H x=!(.ins Ca dx [])/\(∀b,O b=true->Hid (H b))/\O x=true/\IsL K (msk O H) ds vs'/\g ds=!fd/\
 ∀H' fs,(∀b o,b≠x->H b=!o->H' b=!o)->H' x=!(.ins Ca dx fs)->fs.map (·.1)=fd.map (·.1)->IsL K (msk O H') (fd.map (·.2)) (fs.map (·.2))->Q .non H'
structure Mkf(P:Program)(w:World)(K:Frag)(mg:Str->Va)(base:Heap)(C:Str)(k:Nat)(g:Vg->Option (List (Str×D))):Prop where
 ex:∃(Ca fa:Addr)(fd:FuncData)(ps:Vc),mg C=!(.ref Ca)/\nsIn K mainGlobals C=!(!(.ref Ca))/\Mk K Ca fa/\Binds K fd ps []/\FnOk P w K mg base rB k fa fd ps (SR K Ca g)
def  Fl(C:Str)(o:Option (List (Str×D))):Vi:=o.bind λfd=>!(.obj C (fd.map (·.1)) (fd.map (·.2)))
def Fm(F:Mkf X.prog X.w X.K X.mg X.base C k g)(hr:Room (k+1) X.A)(hg:Gl X C)(ha:PX X (e::es) fa)(hdb:(C==("__debug__":Str))=false)(he:starEach (e::es) X.env=(false,eval e X.env)::starEach es X.env)(U:(!14).any (·.1)=false):
  PP X (.Call (.Name C p) (e::es) [] pos) (λY=>(fa Y).bind λds=>Fl C (g ds)):=λO Y=>by
 let⟨Ca,f,fd,ps,hm,hns,M,j,G⟩:=F.ex
 refine(Er M G hr hg hm j .nil qw (ha O Y) hdb he U).imp λσ H Q ⟨E,d,q,kk⟩=>?_
 let⟨ds,r,l⟩:=VL q
 let⟨fl,q3,q4⟩:=VL l
 cases q4
 refine⟨E,ds,r,λvs H1 s1 il x dx I hdx hne=>?_⟩
 have E1:=E.grow s1
 have hOx:=E1.fresh I
 have J:Same H1 (aR (aR H1 dx (.own x)) x (.ins Ca dx [])):=λb o q=>by
  rw[ag (am q I),ag (am q hdx)];exact q
 have le:Same (msk O H1) (msk (λb=>O b||decide (b=x)) (aR _ x _)):=λb o q=>by
  let⟨r,l⟩:=a9 q;have j:=am l I;rw[aN (by simp[r,j])];exact J _ _ l
 rw[List.append_nil]
 refine⟨x,vs,dx,λb=>O b||decide (b=x),ds,fl,rfl,al,λb j=>?_,by simp,IsL.mono le _ _ il,q3,λH' fs keep T t hl=>⟨rfl,?_⟩⟩
 .rcases(Bool.or_eq_true _ _).mp j with j|j
  .exact(E1.lis b j).same J
  .rw[of_decide_eq_true j,al];exact .inr (.inl ⟨_,_,_,rfl⟩)
 .have s3:Same H1 H':=λb o q=>keep b o (am q I) (J _ _ q);refine kk _ H' (s1.trans s3) ⟨x,Ca,dx,fs,rfl,hns,by rw[aN hOx];exact T,t,IsL.mono (λb o q=>?_) _ _ hl⟩;let⟨r,l⟩:=a9 q;have:O b=false:=by
   cases z:O b with
   |false=>rfl
   |true=>simp[z]at r
  rw[aN this];exact l
end
section
variable{K:Frag}{B:Bs}{O:Ve}{σ:St}{H:Hp}{Y:Ev}
def EnvOk.thaw(E:EnvOk K B O (σ++[!v]) H (Y++[!s])):∃g,EnvOk K B g σ H Y/\Same (msk O H) (msk g H)/\Is K (msk g H) s.2 v:=by
 let⟨F,h1,h2,h3,h4⟩:=E.fp;have len:σ.length=Y.length:=by have:=E.len;simp at this;exact this
 let⟨v',t,T⟩:=h1 Y.length s (getElem?_last _ _);rw[<-len,getElem?_last]at t;cases t;let g:Ve:=λb=>O b&&not (decide (b∈F Y.length));have le:Same (msk O H) (msk g H):=λb o q=>by
  let⟨I,C⟩:=a9 q;rw[aN (by simp[g,I])];exact C
 refine⟨g,⟨E.same,E.bdom,λb l=>?_,λb l=>E.lis b (by simp[g]at l;exact l.1),len,λj=>if j=Y.length then[]else F j,λj x q=>?_,λj=>?_,λj k a r hk=>?_,λj a r=>?_⟩,le,T.is le λa U=>by simp[g,U]⟩
 .have h6:b ∉ F Y.length:=λz=>E.bdom b l (h4 _ b z).2;simp[g,E.sub b l,h6]
 .have p:=(Vq.mp q).1;have r:j≠Y.length:=by omega
  let⟨w,e2,J⟩:=h1 j x (by rw[getElem?_append_left p];exact q);exact⟨w,fH (!1) e2,by simp only[if_neg r];exact J.frame le λ_ _ _ h=>h⟩
 all_goals grind
def EnvOk.store(E:EnvOk K B O σ H Y)(r:B.O x=true)(C:B.H x=!(.ins Ca dx fs)):EnvOk K ⟨aR B.H x (.ins Ca dx fs'),B.O⟩ O σ (aR H x (.ins Ca dx fs')) Y/\msk O (aR H x (.ins Ca dx fs'))=msk O H:=by
 have p:msk O (aR H x (.ins Ca dx fs'))=msk O H:=jf (E.sub x r);let⟨F,h1,h2,I,l⟩:=E.fp;have no:∀i,x ∉ F i:=λi z=>by have:=(l i x z).2;rw[C]at this;cases this
 refine⟨⟨λb o q=>?_,λb q=>?_,E.sub,λb q=>?_,E.len,F,λi s q=>?_,h2,I,λi a g=>⟨(l i a g).1,?_⟩⟩,p⟩
 .have j:aR B.H x (.ins Ca dx fs') b=!o:=q;by_cases h:b=x
  .subst h;rw[al]at j⊢;exact j
  .rw[ag h]at j⊢;exact E.same b o j
 .by_cases h:b=x
  .subst h;show aR B.H b _ b≠none;rw[al];simp
  .show aR B.H x _ b≠none;rw[ag h];exact E.bdom b q
 .by_cases h:b=x
  .subst h;rw[al];exact .inr (.inl ⟨_,_,_,rfl⟩)
  .rw[ag h];exact E.lis b q
 .let⟨v,e,o⟩:=h1 i s q;refine⟨v,e,o.frame (by rw[p];exact Same.refl _) λa g u t=>?_⟩;have:a≠x:=λz=>no i (z▸g);rw[ag this];exact t
 .have:a≠x:=λz=>no i (z▸g);show aR B.H x _ a=none;rw[ag this];exact(l i a g).2
end
noncomputable def  oI(f:Str)(d:D):List (Str×D)->List (Str×D)
 |[]=>[(f,d)]
 |(g,e)::r=>if g=f then(g,d)::r else(g,e)::oI f d r
def rN{K}(h:Is K M d v):∀{fd:List (Str×D)}{fs:List (Str×V)},fs.map (·.1)=fd.map (·.1)->IsL K M (fd.map (·.2)) (fs.map (·.2))->
  (gO f v fs).map (·.1)=(oI f d fd).map (·.1)/\IsL K M ((oI f d fd).map (·.2)) ((gO f v fs).map (·.2))
 |[],[],_,_=>⟨rfl,v,[],rfl,h,rfl⟩
 |[],_::_,e,_=>by simp at e
 |_::_,[],e,_=>by simp at e
 |(g,c)::fd,(g',u)::fs,e,⟨x,r,z,q,l⟩=>by
  have e1:g'=g:=by simp at e;exact e.1
  have e2:fs.map (·.1)=fd.map (·.1):=by simp at e;simpa using e.2
  subst e1;have z':u::fs.map (·.2)=x::r:=z;cases z';unfold gO oI;by_cases hg:g'=f
  .rw[if_pos hg,if_pos hg];exact⟨by simp[e2],v,_,rfl,h,l⟩
  .rw[if_neg hg,if_neg hg];let⟨a,b⟩:=rN h e2 l;exact⟨by simp[a],u,_,rfl,q,b⟩
abbrev vt:=Ev->List (Str×D)->Option (List (Str×D))
def  Uo(K:Frag)(Ca:Addr)(B:Bs)(O:Ve)(Y:Ev)(x dx:Addr)(fd:List (Str×D))(o:Option (List (Str×D))):TS:=λEn σ H=>EnvOk K B O σ H Y/\B.O x=true/\
 (∃fs,B.H x=!(.ins Ca dx fs)/\fs.map (·.1)=fd.map (·.1)/\IsL K (msk O H) (fd.map (·.2)) (fs.map (·.2)))/\∃fd',o=!fd'/\
 ∀σ' H' O' fs',(∀b o,b≠x->B.H b=!o->H' b=!o)->(∀b,B.O b=true->O' b=true)->H' x=!(.ins Ca dx fs')->fs'.map (·.1)=fd'.map (·.1)->IsL K (msk O' H') (fd'.map (·.2)) (fs'.map (·.2))->En.nx σ' H'
def  D3(X:Cx)(Ca x:Addr)(st:List Stmt)(I:vt):Prop:=∀B O Y dx fd,PSs X st (Uo X.K Ca B O Y x dx fd (I Y fd))
def  BE:vt:=λ_ fs=>!fs
def  stI(F:U1)(G:vt):vt:=λY fs=>(F Y).bind λo=>match o with
 |.nx Y'=>G Y' fs
 |_=>none
def  uj(x:Addr)(i:Nat)(f:Str)(g:U3)(G:vt):vt:=λY fs=>(g Y).bind λz=>match iB z.2 i with
 |some (.sh,.adr a)=>if a=x/\fs.length<900 then G z.2 (oI f z.1.2 fs)else none
 |_=>none
section
variable{X:Cx}{Ca x:Addr}{st:Stmt}{rest:List Stmt}{e:Expr}{pos:Pos}
def JF:D3 X Ca x [] BE:=λB O Y dx fd=>pss_nil.imp λp σ H ⟨E,l,⟨fs,h1,h2,g⟩,j,q,k⟩=>by
 cases q;exact k σ H O fs (λb o _ h=>E.same b o h) E.sub (E.same x _ h1) h2 g
def Fo(h1:PR X st F)(h2:D3 X Ca x rest G):D3 X Ca x (st::rest) (stI F G):=λB O Y dx fd=>
 (kM (h1 B O Y) (PSs.ex λz:(Ve)×Ev=>h2 B z.1 z.2 dx fd)).imp λU σ H ⟨E,r,⟨fs,I,C,t⟩,j,q,k⟩=>by
 let⟨l,p,g⟩:=VL q;refine⟨E,l,p,?_⟩;cases l with
 |nx Y'=>exactλo H' J s' T=>⟨⟨J,Y'⟩,T,r,⟨fs,I,C,IsL.mono s' _ _ t⟩,j,g,k⟩
 |rt d=>cases g
 |bk Y'=>cases g
 |ct Y'=>cases g
def JG(i:Nat)(hv:pW X e g)(h2:D3 X Ca x rest G)(hN:X.N[i]?=!self)(l:tq X.env.scope self)(hd:(self==("__debug__":Str))=false)(t:(self==("__classdict__":Str))=false)(hs:swapsWith e (!(.Attribute (.Name self px) f pos')) pos.line X.env=pure false)(c:Cls X.K Ca)(na:NoAttr X.K Ca f):D3 X Ca x (.Assign [.Attribute (.Name self px) f pos'] e pos::rest) (uj x i f g G):=λB O Y dx fd=>
 (kM (AK (cM hN l hd t) (hv B O Y).1 hs) (PSs.ex λz:Bs×(Ve)×Ev×List _=>h2 z.1 z.2.1 z.2.2.1 dx z.2.2.2)).imp λEn σ H ⟨E,T,⟨fs,a1,a2,a3⟩,C,q,k⟩=>by
 let⟨⟨s,Y'⟩,q1,q⟩:=VL q;refine⟨E,s,Y',q1,λy H1 O1 s1 E1=>?_⟩;let⟨O2,J,s2,iy⟩:=E1.thaw;have j:=q;split at j
 .rename_i a ha;split at j
  .rename_i hc;let⟨rfl,hl⟩:=hc;let⟨F,f1,_⟩:=J.fp;let⟨w,ew,ow⟩:=f1 i _ (dv ha);cases(ow.2);have p:=J.same a _ a1;have U:fs.length=fd.length:=by have:=congrArg List.length a2;simpa using this
   refine⟨.ref a,ew,a,Ca,dx,fs,rfl,p,c,na,by omega,?_⟩;let⟨E3,me⟩:=J.store T a1;have I:=IsL.mono (s1.trans s2) _ _ a3;let⟨b1,b2⟩:=rN iy a2 I;refine⟨⟨⟨aR B.H a _,B.O⟩,O2,Y',oI f s.2 fd⟩,E3,T,⟨_,al,b1,by rw[me];exact b2⟩,C,j,λr H' O' fs' k1 k2 k3 k4 k5=>k r H' O' fs' (λb o p h=>k1 b o p (by show aR B.H a _ b=!o;rw[ag p];exact h)) k2 k3 k4 k5⟩
  .cases j
 .cases j
end
def  wj(n:Nat)(x:Addr)(ds:Vg):Ev:=aH n (.adr x::ds)
def  rO(n m:Nat)(I:Addr->vt)(x:Addr)(ds:Vg):Option (List (Str×D)):=if ds.length+1=n then I x (wj m x ds) []else none
def QW{K}{st}(Fn:Fun K x p st f fd)(S:FnScope N ps (ah st))(hg:∀ds r,g ds=!r->∀y,rO ps.length N.length I y ds=!r)(hb:∀(y:Addr)(l:Value)(A:Around)(j:List Env)(s:Shared)(H:Hp)(E:XK),Room k (A.deeper (envOfC p (ah st) s.heap.objs.size f l))->D3 (nU rB P w K mg base N p (ah st) f l A j s H E).nox Ca y (aO st) (I y)):
  FnOk P w K mg base rB (k+1) f fd ps (SR K Ca g):=by
 refine Fn.ok S (λvs H Q E ⟨y,t,dx,O,ds,r,U,_,_,_,J,e,_⟩=>?_) (λl A j s H vs Q E hr ⟨y,t,dx,O,ds,r,U,hy,hO,T,J,e,kk⟩=>?_)
 .have:=hg ds r e 0;unfold rO at this;split at this
  .rename_i h;rw[U,length_cons,<-J.len];exact h
  .cases this
 .have q:=hg ds r e y;unfold rO at q;split at q
  .subst U;have C:IsL K (msk O H) (.adr y::ds) (.ref y::t):=⟨_,_,rfl,rfl,J⟩;refine⟨_,hb y l A j s H E hr ⟨H,O⟩ O _ dx [],oG hO C,T,⟨[],hy,rfl,rfl⟩,r,q,λσ' H' O' fs' k1 k2 k3 k4 k5=>?_⟩;refine kk H' fs' k1 k3 k4 (IsL.mono (λb o z=>?_) _ _ k5);let⟨z1,z2⟩:=a9 z;rw[aN];exact z2;cases zz:O b with
   |false=>rfl
   |true=>rw[k2 b zz]at z1;cases z1
  .cases q
structure NSt(b:Bool)(z j l:Addr)(k:Nat)(h:Heap):Prop where
 ne:z≠j
 hz:∃old,IsEnum h z j k old
 h1:ItK b h j l k
section
variable{prog:Program}{w:World}{A:Around}{E:U8}{s:Shared}
def BF{k:Nat}{Q:U8}(Z:IsEnum s.heap z j k old)(J:ItK b s.heap j l k)(C:CoK b s.heap l xs)(hx:xs[k]?=!x)(ne:z≠j)(hQ:∀g,IsEnumOut g z j ((k:Int)+1) x s.heap.objs.size->ItK b g j l (k+1)->g.get? s.heap.objs.size=some {cls:=.type "tuple",data:=.seq #[.int k s.toks,x]}->g.objs.size=s.heap.objs.size+1->
   (∀d o,d≠z->d≠j->s.heap.get? d=!o->g.get? d=!o)->Q (.ref s.heap.objs.size) {s with heap:=g,toks:=s.toks+1}):
  wpAny (!6) A (Builtin.«enumerate.__next__» ⟨[.ref z],[]⟩) (λfin s'=>∃v,fin=.done (.ret v)/\Q v s') E s:=by
 cases s with
 |mk p gn dr tk os=>
 show wpAny _ _ (field (.ref z) 2>>=_) _ _ _
 refine Vk (wpAny_field Z rfl rfl (Vk (xI J C hx λg1 J1 I=>?_)))
 replace I:Heap.SameBut j p g1:=I
 have Z1:=(I.2 z ne).trans Z
 refine Vk (wpAny_field Z1 rfl rfl ?_)
 refine Vk (wpAny_field Z1 rfl rfl ?_)
 refine Vk (wpAny_mkInt ?_)
 show wpAny _ _ (setField (.ref z) 3 (rawInt ((k:Int)+1))>>=_) _ _ ⟨g1,gn,dr,tk+1,os⟩
 refine Vk (wpAny_setField_rec Z1 (by simp) λg2 Z2 t=>?_)
 replace t:Heap.SameBut z g1 g2:=t
 replace Z2:IsEnum g2 z j ((k:Int)+1) old:=Z2
 refine Vk (wpAny_setField_rec Z2 (by simp) λg3 Z3 r=>?_)
 replace r:Heap.SameBut z g2 g3:=r
 replace Z3:IsEnum g3 z j ((k:Int)+1) old:=Z3
 refine Vk (wpAny_newTuple ?_)
 have Z4:IsEnum (g3.push {cls:=.type "tuple",data:=.seq #[.int k tk,x]}) z j ((k:Int)+1) old:=Vl _ Z3
 have sz:g3.objs.size=p.objs.size:=by rw[r.1,t.1,I.1]
 have zl:=Vn Z
 have T4:(g3.push {cls:=.type "tuple",data:=.seq #[.int k tk,x]}).get? p.objs.size=some {cls:=.type "tuple",data:=.seq #[.int k tk,x]}:=by rw[<-sz];exact Vo _ rfl
 have z4:(g3.push {cls:=.type "tuple",data:=.seq #[.int k tk,x]}).objs.size=p.objs.size+1:=by rw[Heap.size_push,sz]
 have k4:∀d o,d≠z->d≠j->p.get? d=!o->(g3.push {cls:=.type "tuple",data:=.seq #[.int k tk,x]}).get? d=!o:=λd o T n2 e=>
  Vl _ (r.extBut d o T (t.extBut d o T (I.extBut d o n2 e)))
 have J4:ItK b (g3.push {cls:=.type "tuple",data:=.seq #[.int k tk,x]}) j l (k+1):=((J1.ext t ne.symm).ext r ne.symm).at λo e=>Vl _ e
 generalize g3.push {cls:=.type "tuple",data:=.seq #[.int k tk,x]}=g4 at Z4 T4 z4 k4 J4
 rw[sz]
 refine Vk ?_
 refine Vk (wpAny_field Z4 rfl rfl (Vm ?_))
 refine Vk (wpAny_rule (Vk (wpAny_field Z4 rfl (x:=old) rfl (Vk (wpAny_setField_rec Z4 (by simp) λg5 Z5 s5=>?_)))))
 replace s5:Heap.SameBut z g4 g5:=s5
 replace Z5:IsEnum g5 z j ((k:Int)+1) x:=Z5
 show wpAny _ _ (Builtin.SmallTypes.ownedTupleHandOut (.ref z) (.ref p.objs.size)>>=_) _ _ ⟨g5,gn,dr,tk+1,os⟩
 refine Vk ?_
 refine Vk (wpAny_setField_rec Z5 (by simp) λg6 Z6 s6=>?_)
 replace s6:Heap.SameBut z g5 g6:=s6
 replace Z6:IsEnumOut g6 z j ((k:Int)+1) x p.objs.size:=Z6
 refine wpAny_setField_rec Z6 (by simp) λg7 Z7 U=>?_
 replace U:Heap.SameBut z g6 g7:=U
 replace Z7:IsEnumOut g7 z j ((k:Int)+1) x p.objs.size:=Z7
 have up:∀d o,d≠z->g4.get? d=!o->g7.get? d=!o:=λd o n e=>U.extBut d o n (s6.extBut d o n (s5.extBut d o n e))
 exact Vk (wpAny_letGo (Vm ⟨_,rfl,hQ g7 Z7 (J4.at λo e=>up _ o ne.symm e) (up _ _ (Nat.ne_of_gt zl) T4) (by rw[U.1,s6.1,s5.1,z4]) λd o T n2 e=>up d o T (k4 d o T n2 e)⟩))
def BG(Z:NSt b z j l k s.heap)(C:CoK b s.heap l xs)(hx:xs[k]?=!x)(hQ:∀g,IsEnumOut g z j ((k:Int)+1) x s.heap.objs.size->ItK b g j l (k+1)->g.get? s.heap.objs.size=some {cls:=.type "tuple",data:=.seq #[.int k s.toks,x]}->g.objs.size=s.heap.objs.size+1->
   (∀d o,d≠z->d≠j->s.heap.get? d=!o->g.get? d=!o)->Q (!(.ref s.heap.objs.size)) {s with heap:=g,toks:=s.toks+1}):wpAny (!6) A (pyNext (.ref z)) Q E s:=by
 let⟨ne,⟨old,hz⟩,h1⟩:=Z
 have T:s.TypeIs (.ref z) "enumerate":=⟨_,hz,rfl⟩
 exact Vk (wpAny_attempt (wpAny_callSpecial?_slot T F.slot_enumerate_next (wpAny_call_entry F.slot_enumerate_next T F.entry_enumerate_next
  (BF hz h1 C hx ne λg a c d e f=>Vm (hQ g a c d e f)) (F.args_enumerate_next_1 _))))
def BH(hh:A.handled=none)(Z:NSt b z j l k s.heap)(C:CoK b s.heap l xs)(hx:xs[k]?=none)(hQ:∀g,Heap.ExtBut j s.heap g->Q none {s with heap:=g}):wpAny (!6) A (pyNext (.ref z)) Q E s:=by
 let⟨ne,⟨old,hz⟩,h1⟩:=Z;have T:s.TypeIs (.ref z) "enumerate":=⟨_,hz,rfl⟩;refine Vk (wpAny_attempt (wpAny_callSpecial?_slot T F.slot_enumerate_next (wpAny_call_entry F.slot_enumerate_next T F.entry_enumerate_next ?_ (F.args_enumerate_next_1 _))));show wpAny _ _ (field (.ref z) 2>>=_) _ _ _;refine Vk (wpAny_field hz rfl rfl (Vk (lT hh h1 C hx λg e q he=>?_)));let⟨o,ho,hc⟩:=he;exact Vk (wpAny_isInstance ⟨o,ho,hc⟩ isSubtype_stop (Vm (hQ _ q)))
abbrev nG(h:Heap)(b:Bool)(l:Addr):Heap:=(h.push (aP b l)).push {cls:=.type "enumerate",data:=.fields #[.none,.bool false,.ref h.objs.size,rawInt 0,.none,.none]}
def Fp(b:Bool)(l:Addr)(xs:Vf):Meets (Builtin.«enumerate.__new__» ⟨[.type "enumerate",.ref l],[]⟩) (λ_ R s=>CoK b s.heap l xs/\
   R (.ok (.ret (.ref (s.heap.push (aP b l)).objs.size))) {s with heap:=nG s.heap b l}):=
 .of_wp λprog w A R s h=>by
  cases s with
  |mk hp gn dr tk os=>
  let⟨c0,h⟩:=h;have hsub:=sub_enumerate;have C:CoK b (Shared.heap ⟨hp,gn,dr,tk,os⟩) l xs:=c0;wp_walk using ue C;refine wpAny_stack_any λst=>Vm ?_;split
  .rename_i c _ _ _ _ _;cases(c==Value.type "enumerate")<;>(wp_walk using ue C;exact⟨_,rfl,h⟩)
  .wp_walk using ue C;exact⟨_,rfl,h⟩
def BI(C:CoK b s.heap l xs)(h:∀g,NSt b (!13) s.heap.objs.size l 0 g->g.objs.size=s.heap.objs.size+2->(∀d o,s.heap.get? d=!o->g.get? d=!o)->Q (.ref (!13)) {s with heap:=g}):
  wpAny (!6) A (call (.type "enumerate") [.ref l]) Q E s:=by
 refine callType_new F.called_enumerate (!2) (F.typeCall_enumerate_1 _) (F.newCall_enumerate_1 _) (λobj=>F.args_object_init_2 obj _) F.entry_enumerate_new (Fp b l xs) ⟨C,?_⟩
 have z1:(s.heap.push (aP b l)).objs.size=s.heap.objs.size+1:=Heap.size_push ..
 have g2:IsEnum (nG s.heap b l) (!13) s.heap.objs.size 0 .none:=by
  have:=Vo (s.heap.push (aP b l)) (o:={cls:=.type "enumerate",data:=.fields #[.none,.bool false,.ref s.heap.objs.size,rawInt 0,.none,.none]}) rfl;rw[z1]at this;exact this
 have fb:(aP b l).isFreed=false:=by cases b<;>rfl
 have g1:(nG s.heap b l).get? s.heap.objs.size=!_:=Vl _ (Vo _ fb)
 have i1:ItK b (nG s.heap b l) s.heap.objs.size l 0:=by cases b<;>exact⟨_,g1,rfl,rfl⟩
 rw[z1]
 exact⟨⟨_,g2,rfl⟩,h _ ⟨Nat.succ_ne_self _,⟨_,g2⟩,i1⟩ (by rw[Heap.size_push,z1]) λd o x=>Vl _ (Vl _ x)⟩
end
def  QX(K:Frag)(b:Bool)(l:Addr):It:=
 ⟨λi H=>∃xs x,SqK b K H l xs/\xs[i]?=!x,
  λi H v H'=>∃p x,v=.ref p/\H p=none/\H'=aR H p (.tup [.int i,x])/\∀xs,SqK b K H l xs->xs[i]?=!x,
  λi H=>∃xs,SqK b K H l xs/\xs.length<=i⟩
def NSt.live(Z:NSt b z j l k h)(hd:d∈[z,j]):∃o,h.get? d=!o/\∀v,o.data≠.cell v:=by
 simp at hd;rcases hd with rfl|rfl
 .let⟨old,e⟩:=Z.hz;exact⟨_,e,λv q=>by cases q⟩
 .let⟨o,n,p,e,_,g,_⟩:=Z.h1.live;exact⟨o,e,λv q=>by rw[g]at q;cases q⟩
def BJ{P:Program}{w:World}{K:Frag}{g:Vh}{x1:Nat}{tpos:Pos}(b:Bool)(l z j:Addr):
  Turn P w K (.Tuple g x1 tpos) (QX K b l) [z,j] z (λi h=>NSt b z j l i h) where
 mem:=by simp
 obj:=λi h Z d hd=>Z.live hd
 keep:=λi h h' Z k=>by
  let⟨old,e⟩:=Z.hz;exact⟨Z.ne,⟨old,k z (by simp) _ e⟩,Z.h1.at λo q=>k j (by simp) o q⟩
 item:=by
  intro X hP hw hK hc i pins s σ H E I r Z hg;subst hP hw hK;let⟨xs,x,p,ex⟩:=hg;let⟨U,rv,J,_⟩:=I.coK p;let⟨u,hu,ru⟩:=rv.get ex;refine BG Z J (by simpa using hu) λh' Z' J' T' sz T=>⟨_,rfl,?_⟩;refine wpAny_letOwnedTupleGo_enum Z' λh2 hz2 C=>?_;let⟨old,hz⟩:=Z.hz;have t:=Vn hz;have Z2:NSt b z j l (i+1) h2:=⟨Z.ne,⟨_,by rw[show((i+1:Nat):Int)=(i:Int)+1 from rfl];exact hz2⟩,J'.at λo q=>C.extBut _ _ Z.ne.symm q⟩;have T2:=C.extBut _ _ (Nat.ne_of_gt t) T';have kk:∀d o,d ∉ [z,j]->s.heap.get? d=!o->h2.get? d=!o:=λd o hd e=>by
   simp at hd;exact C.extBut _ _ hd.1 (T d o hd.1 hd.2 e)
  have fr:=I.hok.fresh (VI _);refine⟨.ref s.heap.objs.size,_,I.turnedNew r kk (VI _) ?_,rfl,⟨s.heap.objs.size,x,rfl,fr,rfl,λzs hzs=>by rw[I.coK_inj hzs p];exact ex⟩,Z2,λd hd=>?_⟩
  .exact⟨by show 2<=sizeLine;decide,[.int i s.toks,u],.cons ⟨_,rfl⟩ (.cons ru .nil),⟨_,T2,rfl,_,rfl⟩⟩
  .let⟨o,eo,_⟩:=Z.live hd;rw[ag (Nat.ne_of_lt (Heap.lt_size eo))];exact(r d hd).1
 done:=by
  intro X hP hw hK hc i pins s σ H E I r Z hg;subst hP hw hK;let⟨xs,p,hl⟩:=hg;let⟨U,rv,J,_⟩:=I.coK p;have e1:=rv.length;refine BH (I.ok.hd hc) Z J (by simp;omega) λh' T=>⟨rfl,I.turnedL r λd o hd e=>?_⟩;simp at hd;exact T d o hd.2 e
 self:=λ_ _ _ _ _ Z h=>by
  let⟨old,e⟩:=Z.hz;exact wpAny_pyIter_enum e h
def JH:bootBuiltins "enumerate"=!(.type "enumerate"):=by decide+kernel
def  QY(K:Frag)(ta:TA):TI:=λσ H R=>ta σ H λvs H1=>∃b l xs,vs=[.ref l]/\SqK b K H1 l xs/\R (QX K b l) H1
def JI{x1}(hg:Gl X "enumerate")(hm:X.mg "enumerate"=none)(ha:PA X [a] ta)(hs:starEach [a] X.env=[(false,eval a X.env)]):
  PI X (.Tuple elts x1 tpos) (.Call (.Name "enumerate" p) [a] [] pos) (QY X.K ta):=by
 intro pins s σ H R I h
 refine Call_ (dq I hg hm JH (PyProof.Rows.callWith_type1 (bw (ha pos pins s σ H _ I h) λus s1 ⟨vs,H1,I1,r1,q1⟩=>?_) (by rw[hs];rfl) (by rfl)))
 let⟨b,l,xs,e,hx,q⟩:=q1
 subst e
 let⟨u,rfl,ru⟩:=fE r1
 cases ru
 let⟨its,rx,p1,_⟩:=I1.coK hx
 refine BI p1 λh' Z sz k=>?_
 let⟨old,hz⟩:=Z.hz
 refine wpAny_pyIter_enum hz ?_
 have I2:Inv X pins σ H1 {s1 with heap:=h'}:=I1.kept k
 refine⟨s1.heap.objs.size+1,[s1.heap.objs.size+1,s1.heap.objs.size],_,_,H1,rfl,I2,BJ b l _ _,Z,λd hd=>?_,q⟩
 have hge:s1.heap.objs.size<=d:=by
  simp at hd;rcases hd with rfl|rfl<;>first|exact Nat.le_add_right _ _|exact VI _
 exact I1.fpOk hge (I1.hok.fresh hge)
def  mN(xs:Vg):Vg:=xs.zipIdx.map λp=>.tup [.int (p.2:Nat),p.1]
def BK{K}{b}(I:SqK b K r l xs)(p:IsL K r ds xs):oy K r (QX K b l) (mN ds):=λi H O s hd=>by
 have g:=I.mono (s.trans msk_le);refine⟨λd hi=>?_,λhi=>⟨xs,g,?_⟩⟩
 .unfold mN at hi;rw[getElem?_map,List.getElem?_zipIdx]at hi;cases e:ds[i]? with
  |none=>rw[e]at hi;cases hi
  |some d1=>
   rw[e]at hi;cases hi;let⟨x,ex,C⟩:=p.get e;refine⟨⟨xs,x,g,ex⟩,?_⟩;rintro v U ⟨q,T,rfl,j,rfl,t⟩;have o:=t xs g;rw[ex]at o;cases o;have J:=gy hd j;refine⟨Same.new j,q,[.int i,x],rfl,.of (by rw[aN J,al]),?_⟩;have le:Same (msk O H) (msk O (aR H q (.tup [.int i,x]))):=(Same.new j).msk;exact⟨.int i,[x],rfl,by show V.int _=V.int _;simp,x,[],rfl,Is.mono (s.trans le) _ _ C,rfl⟩
 .have h1:=p.len;unfold mN at hi;rw[length_map,List.length_zipIdx]at hi;omega
def  xS:Vg->U7:=tw λc=>(seqD c).bind λxs=>!(mN xs)
def JJ{X:Cx}{a:Expr}{p:Pos}{pos:Pos}{x1}(hg:Gl X "enumerate")(hm:X.mg "enumerate"=none)(ha:PX X [a] fa)(hs:starEach [a] X.env=[(false,eval a X.env)]):
  PJ X (.Tuple j x1 tpos) (.Call (.Name "enumerate" p) [a] [] pos) (λY=>(fa Y).bind xS):=λO Y=>(JI hg hm (ha O Y) hs).imp λσ H R ⟨E,ds,q,k⟩=>by
 let⟨as,e1,q⟩:=VL q
 refine⟨E,as,e1,λvs H1 o U=>?_⟩
 let⟨c,rfl,C⟩:=bc q
 let⟨xs,t,r⟩:=VL C
 cases r
 let⟨u,rfl,T⟩:=t9 U
 let⟨J,l,rfl,g,I⟩:=gR t T
 let⟨b1,g⟩:=vU g
 exact⟨b1,J,l,rfl,g.mono msk_le,k _ H1 o (BK g I)⟩
section
variable{X:Cx}{a b:Expr}{pos:Pos}
def  M9(K:Frag):R2:=λx y H Q=>∃l m xs zs,x=.ref l/\y=.ref m/\SqL K H l xs/\SqL K H m zs/\xs.length+zs.length<=sizeLine/\∀p,H p=none->Q (.ref p) (aR H p (.lst (xs++zs)))
def Fq:OpR X (binaryOp .Add) (M9 X.K):=by
 intro pins s σ H x y v u Q I rx U h;let⟨l,m,xs,zs,rfl,rfl,h1,h2,hz,q⟩:=h;cases rx;cases U;let⟨j,p,⟨⟨c1,d1,t1,T⟩,n1,r,k1,_,C⟩,_⟩:=I.list h1;let⟨g,o,⟨⟨c2,d2,t2,J⟩,n2,e2,k2,_,t⟩,_⟩:=I.list h2;subst k1 C k2 t;have hl1:=p.length;have hl2:=o.length;refine concat_meets ⟨_,r,rfl⟩ ⟨_,e2,rfl⟩ noFill_list_add seq_list_add PySem.F.slot_list_add PySem.F.entry_list_add (PySem.F.args_list_add_2 _ _) (list_addW l m j.toArray g.toArray n1 n2 d1 d2 T J (by rw[size_toArray,size_toArray];omega)) ⟨r,e2,?_⟩;rw[show j.toArray++g.toArray=(j++g).toArray by simp];exact⟨.ref _,_,I.lnew (p.append o) (by rw[length_append];omega),rfl,q _ I.fresh⟩
def  QZ(d e:D):U7:=(kR d).bind λxs=>(kR e).bind λys=>bM (!(xs++ys))
def  bI(fa fb:U0):UZ:=λY=>(fa Y).bind λx=>(fb Y).bind λy=>QZ x y
def JK(ha:PP X a fa)(hb:PP X b fb):PF X (.BinOp a .Add b pos) (bI fa fb):=λO Y=>(Hr Fq (ha O Y) (hb O Y)).imp λσ H Q ⟨E,ds,q,k⟩=>by
 let⟨dx,e1,q⟩:=VL q;let⟨dy,e2,q⟩:=VL q;let⟨xs,f1,q⟩:=VL q;let⟨ys,f2,q⟩:=VL q;let⟨g1,g2⟩:=dt q;cases g1;refine⟨E,dx,e1,λx H1 j U=>⟨E.grow j,dy,e2,λy H2 g T=>?_⟩⟩;let⟨l,C,rfl,J,r⟩:=cc f1 (Is.mono g.msk dx x U);let⟨m,t,rfl,I,o⟩:=cc f2 T;refine⟨l,m,C,t,rfl,rfl,msk_le.seq J,msk_le.seq I,?_,λp hp=>k p _ H2 (j.trans g) hp (r.app o)⟩;rw[length_append]at g2;rw[<-r.len,<-o.len];exact VF g2
end
def Fs:typeLookup (.type "list_reverseiterator") "__len__"=pure none:=by constructor<;>grind
def BL:typeLookup (.type "list_reverseiterator") "__length_hint__"=pure (!(.builtin "list_reverseiterator.__length_hint__")):=by constructor<;>grind
section
variable{prog:Program}{w:World}{A:Around}{E:U8}{s:Shared}
def BM(J:s.heap.IsRevIter j l i)(h:Q false s):wpAny (!6) A (Builtin.List.listLengthHint (.ref j)) Q E s:=by
 refine Vk (wpAny_specialOf J.typeIs Fs ?_);refine Vk (wpAny_specialOf J.typeIs BL ?_);generalize o:("list_reverseiterator.__length_hint__":String)=id0;wp_delta;rw[show splitId id0=some ("list_reverseiterator","__length_hint__")from by subst o;decide+kernel];subst o;refine Vk (wpAny_isInstance (b:=true) J.typeIs (by rw[isSubtype_type];kernel_rfl) ?_);refine wpAny_ite_split (λg=>absurd g (!2)) (λ_=>?_);refine wpAny_ite_split (λ_=>?_) (λg=>absurd (!17) g);refine wpAny_ite_split (λg=>absurd g (!17)) (λ_=>?_);exact Vm h
def Ft(hh:A.handled=none)(J:s.heap.IsRevIter j l ((xs.size:Int)-1))(C:s.heap.IsList l xs)(ne:l≠j)(hS:s.heap.get? S=some {cls:=.type "list",data:=.seq #[] t})(U:S≠j)(nl:S≠l)(hn:xs.size<=sizeLine)(hR:∀g tk p c,(∀d o,d≠S->d≠j->s.heap.get? d=!o->g.get? d=!o)->g.get? S=some {cls:=.type "list",dict:=none,data:=.seq p c,slots:=#[]}->
   ItemsOf (λi v=>xs[xs.size-1-i]?=!v) p xs.size->R (.ok (.ret res)) {s with heap:=g,toks:=tk}):
  wpAny (!6) A.in1 (Builtin.List.listExtendWith (.ref S) (.ref j) res)
   (λfin s'=>match fin with|.done f=>R (.ok f) s'|.again c'=>c'.quiet=true/\codeAny (!6) A c' R s') (λe s'=>R (.error e) s') s:=by
 have W:=(Walks.listRev (prog:=prog) (w:=w) (A:=A.in1) hh j l ne xs).toS
 refine Vk (wpAny_typeOf J.typeIs ?_)
 have h1:Builtin.List.listSameRef (.ref S) (.ref j)=false:=by simp[Builtin.List.listSameRef,U]
 have h2:(Value.type "list_reverseiterator"==Value.type "list")=false:=by decide
 have h3:(Value.type "list_reverseiterator"==Value.type "tuple")=false:=by decide
 simp only[h1,h2,h3,Bool.or_false,Bool.false_eq_true,if_false]
 refine Vk (wpAny_pyIter_revIter J (Vk (wpAny_holding (BM J ?_))))
 refine wpAny_ite_split (λI=>absurd I (!17)) (λ_=>Vm ⟨plainId_quiet F.plain_extend_loop _,?_⟩)
 refine codeAny_extend_loopS W hn S (by simp[U,nl]) res xs.size 0 _ #[] t rfl (Nat.zero_le _) ⟨Nat.zero_le _,by simpa using J,C⟩ hS (ItemsOf.nil _) λs' p c hm T r=>?_
 rw[Moved.eq_with hm]
 exact hR s'.heap s'.toks p c (λd o n1 n2 e=>hm.heap d o (by simp[n1,n2]) e) T r
def zy{xs g:Vf}(h:ItemsOf (λi v=>xs[xs.size-1-i]?=!v) g xs.size):g.toList=xs.toList.reverse:=by
 apply List.ext_getElem?;intro i;by_cases hi:i<xs.size
 .have h1:i<g.size:=by rw[h.1];exact hi
  have e:=h.2 i _ (Array.getElem?_eq_getElem h1);rw[List.getElem?_reverse (by simpa using hi),Array.getElem?_toList,Array.getElem?_toList,Array.getElem?_eq_getElem h1,<-e];simp
 .rw[List.getElem?_eq_none (by rw[Array.length_toList,h.1];omega),List.getElem?_eq_none (by rw[List.length_reverse,Array.length_toList];omega)]
end
def HH:bootBuiltins "reversed"=!(.type "reversed"):=by decide+kernel
def Na:bootBuiltins "list"=!(.type "list"):=by decide+kernel
def IsL.rev{K}:∀{ds:Vg}{xs:List V},IsL K H ds xs->IsL K H ds.reverse xs.reverse
 |[],xs,h=>by cases h;rfl
 |d::ds,xs,⟨x,r,e,h,l⟩=>by
  subst e;rw[List.reverse_cons,List.reverse_cons];exact(IsL.rev l).app ⟨_,_,rfl,h,rfl⟩
def zA(l:Addr)(xs:Vf)(n:Nat)(m:Addr)(ys:Vf)(k:Nat)(dd:Option Addr)(sl:Array (Va))(hc0:¬(not xs.isEmpty&&Builtin.List.listTooLong (xs.size+ys.size))=true)(hc1:xs.size<=sizeLine)(hs2:xs.size+ys.size<=sizeLine+1):
  Meets (Builtin.«list.extend» ⟨[.ref l,.ref m],[]⟩) (λ_ R s=>s.heap.get? l=some {cls:=.type "list",dict:=none,data:=.seq xs n,slots:=#[]}/\s.heap.get? m=some {cls:=.type "list",dict:=dd,data:=.seq ys k,slots:=sl}/\R (.ok (.ret Value.none)) {s with heap:=s.heap.update l (Obj.mapSeq λx=>x++ys),toks:=s.toks}):=
 .of_wp λprog w A R s h=>by
  let⟨hl,hb,h⟩:=h;wp_walk using (wpAny_updateSeq hl rfl),AutoSeq1.wpAny_loadPart' hl,AutoSeq1.wpAny_loadPart' hb;exact⟨_,rfl,h⟩
def  Nb(K:Frag):V->List V->Hp->VK->Prop:=λx vs H Q=>∃l m xs zs,x=.ref l/\vs=[.ref m]/\H l=!(.lst xs)/\SqL K H m zs/\xs.length+zs.length<=sizeLine/\Q .non (aR H l (.lst (xs++zs)))
def rP:QE X "list.extend" (Nb X.K):=by
 intro pins s σ H x vs v us Q I rx rv h;let⟨l,m,xs,zs,rfl,rfl,hH,hB,hz,q⟩:=h;cases rx;let⟨u,rfl,ru⟩:=rv.one;cases ru;let⟨z,its,n,r,hl,e⟩:=I.lstM hH;let⟨jts,r2,⟨⟨c2,d2,t2,s2⟩,n2,e2,k2,_,w2⟩,_⟩:=I.list hB;subst k2 w2;have hl2:=r2.length;have hsz:its.toArray.size+jts.toArray.size<=sizeLine:=by rw[size_toArray,size_toArray];omega
 have hlong:¬ (not its.toArray.isEmpty&&Builtin.List.listTooLong (its.toArray.size+jts.toArray.size))=true:=by
  rw[AX hsz,Bool.and_false];exact Vp
 refine call_meets F.slot_list_extend ⟨_,e,rfl⟩ F.entry_list_extend (F.args_list_extend_2 _ _) (zA l its.toArray n m jts.toArray n2 d2 s2 hlong (by rw[size_toArray];omega) (!1)) ⟨e,e2,?_⟩;refine⟨.non,_,I.lset hH e (by simp) (r.append r2) ?_,rfl,q⟩;grind
def  extS(d:D):Sl:=if lfD d then(.deep,d)else(.sh,d)
def  extC:Cat->Vg->Cat
 |c,[]=>c
 |c,d::ds=>extC (newCat c (extS d)) ds
section
variable{K:Frag}{B:Bs}
def EnvOk.moreS(E:EnvOk K B O σ H Y)(h:Is K (msk O H) d v):EnvOk K B O (σ++[!v]) H (Y++[!(extS d)]):=by
 unfold extS;split
 .rename_i f;exact E.more (A:=[]) (Same.refl _) (Same.refl _) (λ_ h=>.inl h) (λ_ h=>h) (λ_ h=>(nomatch h)) (λ_ h=>(nomatch h)) List.nodup_nil (λ_ h=>(nomatch h)) (Is.deep d v f h)
 .exact E.moreSh h
def qG(c:Cat)(s:Sl):newCat c s≠.sh:=by unfold newCat;split<;>intro z<;>cases z
def BN(h:H a=!o):aR H a o=H:=by
 funext b;simp_all [Hp,aR]
def EnvOk.extend{i:Nat}:∀{es:Vg}{zs:List V}{O:Ve}{H:Hp}{Y:Ev}{c:Cat}{ds:Vg},EnvOk K B O σ H Y->Y[i]?=!(!(c,.lst ds))->c≠.sh->IsL K (msk O H) es zs->
  ∃a xs,σ[i]?=!(!(.ref a))/\H a=!(.lst xs)/\ds.length=xs.length/\∃O',EnvOk K B O' σ (aR H a (.lst (xs++zs))) (Y.set i (!(extC c es,.lst (ds++es))))/\Same (msk O H) (msk O' (aR H a (.lst (xs++zs))))
 |[],zs,O,H,Y,c,ds,E,h,hc,l=>by
  have l':zs=[]:=l;subst l';let⟨a,xs,e1,e2,e3,_⟩:=E.ownAt h hc;refine⟨a,xs,e1,e2,e3,O,?_,?_⟩
  .rw[List.append_nil,List.append_nil,BN e2];show EnvOk K B O σ H (Y.set i (!(c,.lst ds)));rw[show Y.set i (!(c,D.lst ds))=Y from by
    let⟨hi,e⟩:=List.getElem?_eq_some_iff.mp h;rw[<-e];exact List.set_getElem_self hi]
   exact E
  .rw[List.append_nil,BN e2];exact Same.refl _
 |d::es,zs,O,H,Y,c,ds,E,h,hc,l=>by
  let⟨z,r,rfl,hz,l⟩:=l;let⟨a,xs,e1,e2,e3,O1,E1,s1⟩:=(E.moreS hz).change oF Bz BA h hc;have hi:=(Vq.mp h).1;have h2:(Y.set i (!(newCat c (extS d),.lst (oF ds (extS d).2))))[i]?=!(!(newCat c (extS d),.lst (oF ds (extS d).2))):=by rw[List.getElem?_set_self hi]
  let⟨a',xs',f1,f2,f3,O2,E2,s2⟩:=EnvOk.extend E1 h2 (qG _ _) (IsL.mono s1 _ _ l);rw[e1]at f1;cases f1;rw[al]at f2;cases f2;rw[Ed]at E2 s2;rw[List.set_set]at E2;have ed:(extS d).2=d:=by unfold extS;split<;>rfl
  rw[ed]at E2;unfold oF at E2 s1 s2;rw[List.append_assoc,List.append_assoc]at E2;rw[List.append_assoc]at s2;exact⟨a,xs,e1,e2,e3,O2,E2,s1.trans s2⟩
end
section
variable{X:Cx}{e:Expr}{pos:Pos}
def  zB(i:Nat)(R:U0):U1:=λY=>(ownL Y i).bind λw=>(R (di Y)).bind λd=>(kR d).bind λes=>if w.2.length+es.length<big then !(.nx (Y.set i (!(extC w.1 es,.lst (w.2++es)))))else none
def wk(i:Nat)(h:PP X e R)(hN:X.N[i]?=!x)(hv:tq X.env.scope x)(hd:(!7)=false)(r:(!15)=false)(g:starEach [e] X.env=(false,eval e X.env)::starEach [] X.env)(j:(apos.endLine==cpos.line)=true):PR X (.Expr (.Call (.Attribute (.Name x px) "extend" apos) [e] [] cpos) pos) (zB i R):=λB O Y=>
 (je (tT PySem.F.plainAttrs_list PySem.F.slot_list_extend PySem.F.type_list_extend rP (cM hN hv hd r) (dG (h O _) pa_nil g) rfl (by rw[g];rfl) j g rfl)).imp λEn σ H ⟨E,o,q,k⟩=>by
 let⟨⟨c,ds⟩,q1,q⟩:=VL q;let⟨d,q2,q⟩:=VL q;let⟨es,q3,q⟩:=VL q;let⟨hz,q⟩:=ay q;subst q;let⟨h0,p⟩:=bX q1;let⟨a,J,I,r3,_⟩:=E.ownAt h0 p;refine⟨.ref a,I,.inl ⟨rfl,_,SqL.of r3⟩,E.viewS,d,q2,λv H1 C i1=>?_⟩;let⟨m,zs,rfl,t,l⟩:=cc q3 i1;let⟨a',xs,e2,U,hl,O2,E2,T⟩:=(E.grow C).extend h0 p l;rw[I]at e2;cases e2;exact⟨a,m,xs,zs,rfl,rfl,U,msk_le.seq t,by rw[<-hl,<-l.len,kb];exact VF hz,k σ _ O2 (C.msk.trans T) E2⟩
def  Nc(i:Nat)(R:U0):U1:=λY=>(ownL Y i).bind λw=>(R (vw Y)).bind λd=>(kR d).bind λes=>if w.2.length+es.length<big/\fw es=true then !(.nx (Y.set i (!(extC w.1 es,.lst (w.2++es)))))else none
def wm(i:Nat)(h:PP X e R)(hN:X.N[i]?=!x)(hv:tq X.env.scope x)(hd:(!7)=false)(C:(!15)=false)(g:starEach [e] X.env=(false,eval e X.env)::starEach [] X.env)(j:(apos.endLine==cpos.line)=true):PR X (.Expr (.Call (.Attribute (.Name x px) "extend" apos) [e] [] cpos) pos) (Nc i R):=λB O Y=>
 (je (tT PySem.F.plainAttrs_list PySem.F.slot_list_extend PySem.F.type_list_extend rP (cM hN hv hd C) (dG (h mL (vw Y)) pa_nil g) rfl (by rw[g];rfl) j g rfl)).imp λEn σ H ⟨E,o,q,k⟩=>by
 let⟨⟨c,ds⟩,q1,q⟩:=VL q;let⟨d,q2,q⟩:=VL q;let⟨es,q3,q⟩:=VL q;let⟨⟨hz,lf⟩,q⟩:=ay q;subst q;let⟨h0,p⟩:=bX q1;let⟨a,J,I,r3,_⟩:=E.ownAt h0 p;refine⟨.ref a,I,.inl ⟨rfl,_,SqL.of r3⟩,E.view,d,q2,λv H1 r i1=>?_⟩;let⟨m,zs,rfl,t,l⟩:=cc q3 i1;let⟨a',xs,e2,U,hl,O2,E2,T⟩:=(E.grow r).extend h0 p (IsL.nl (E.grow r).nl _ _ lf l.full);rw[I]at e2;cases e2;exact⟨a,m,xs,zs,rfl,rfl,U,msk_le.seq t,by rw[<-hl,<-l.len,kb];exact VF hz,k σ _ O2 (r.msk.trans T) E2⟩
def  lV(i:Nat)(R:U0):U1:=aW (zB i R) (Nc i R)
def zC(i:Nat)(h:PP X e R)(p:X.N[i]?=!x)(o:tq X.env.scope x)(hd:(!7)=false)(l:(!15)=false)(j:starEach [e] X.env=(false,eval e X.env)::starEach [] X.env)(g:(apos.endLine==cpos.line)=true):PR X (.Expr (.Call (.Attribute (.Name x px) "extend" apos) [e] [] cpos) pos) (lV i R):=
 mM (wk i h p o hd l j g) (wm i h p o hd l j g)
end
def slot_rt_next:Slot "reversed" "__next__" "reversed.__next__":=
 .of (owner:="reversed") (n:="__next__") (by rw[typeLookup_type,builtinLookup_eq_fast];kernel_rfl) (!17) (!17) (!17)
  (by first|exact .inl (!17)|exact .inr (!17)) (by rw[isSubtype_type];kernel_rfl)
def jY:entryFor table "reversed.__next__"=some Builtin.«reversed.__next__»:=entryFor_of_tree (!3)
def kZ(a:Value):argsOk "reversed.__next__" ⟨[a],[]⟩:=by unfold argsOk;kernel_rfl
def k6:Slot "reversed" "__iter__" "reversed.__iter__":=
 .of (owner:="reversed") (n:="__iter__") (by rw[typeLookup_type,builtinLookup_eq_fast];kernel_rfl) (!17) (!17) (!17)
  (by first|exact .inl (!17)|exact .inr (!17)) (by rw[isSubtype_type];kernel_rfl)
def rQ(a:Value):argsOk "reversed.__iter__" ⟨[a],[]⟩:=by unfold argsOk;kernel_rfl
def p4:entryFor table "reversed.__iter__"=some Builtin.«dict_keyiterator.__iter__»:=
 entryFor_alias (id':="dict_keyiterator.__iter__") (!3) (by first|rfl|decide+kernel|(unfold String.splitOn;simp+decide [String.splitOnAux])) (!17) (!3)
def rR:Slot "reversed" "__init__" "object.__init__":=
 .of (owner:="object") (n:="__init__") (by rw[typeLookup_type,builtinLookup_eq_fast];kernel_rfl) (!17) (!17) (!17)
  (by first|exact .inl (!17)|exact .inr (!17)) (by rw[isSubtype_type];kernel_rfl)
def called_rt:TypeCalled "reversed" "reversed.__new__" "object.__init__":=
 ⟨by decide+kernel,by decide+kernel,⟨_,_,F.mro_reversed⟩,F.made_reversed,by decide+kernel,by rw[isSubtype_type];kernel_rfl,rR⟩
def zD:typeLookup (.type "tuple") "__reversed__"=pure none:=by constructor<;>grind
def wn:isSubtype (.type "tuple") (.type "dict")=pure false:=by rw[isSubtype_type];kernel_rfl
noncomputable def  Q0(t:Addr)(i:Int):Obj:={cls:=.type "reversed",data:=.fields #[.ref t,rawInt i]}
def  IsRT(h:Heap)(a t:Addr)(i:Int):Prop:=∃o,h.get? a=!o/\o.cls=.type "reversed"/\o.data=.fields #[.ref t,rawInt i]
section
variable{prog:Program}{w:World}{A:Around}{E:U8}{s:Shared}
def IsRT.typeIs(x:IsRT s.heap a t i):s.TypeIs (.ref a) "reversed":=let⟨o,g,j,_⟩:=x;⟨o,g,j⟩
def IsRT.at(x:IsRT h a t i)(e:∀o,h.get? a=!o->h'.get? a=!o):IsRT h' a t i:=let⟨o,g,r⟩:=x;⟨o,e _ g,r⟩
def Fu(g:IsTup s.heap t items):s.TypeIs (.ref t) "tuple":=let⟨o,j,l,_⟩:=g;⟨o,j,l⟩
def uk(ht:IsTup s.heap t items)(hz:items.size<=sizeLine)(h:∀tk,Q₁ (.ref s.heap.objs.size) {s with heap:=s.heap.push (Q0 t ((items.size:Int)-1)),toks:=tk}):
  codeAny (!6) A (.call (.builtin "reversed.__new__") ⟨[.type "reversed",.ref t],[]⟩) (wants Q₁ E) s:=by
 refine codeAny_of_tree ?_
 refine Vk (VA (F.newCall_reversed_1 _) (Vm ⟨plainId_quiet F.plain_reversed_new _,codeAny_builtin F.entry_reversed_new ?_⟩))
 refine Vk (VA (newClass_reversed _) ?_)
 refine Vk (VA (by first|rfl|kernel_rfl) ?_)
 refine Vk (VA (by first|rfl|kernel_rfl) ?_)
 refine Vk (wpAny_specialOf (Fu ht) zD ?_)
 refine Vk ?_
 wp_delta
 refine Vk (wpAny_isInstance (Fu ht) wn ?_)
 refine Vk (wpAny_specialOf (Fu ht) slot_tuple_getitem.lookup ?_)
 refine Vm ?_
 refine Vk (len_tuple ht (by have:=j9;omega) ?_)
 refine Vk (VA rfl ?_)
 refine Vk ?_
 show wpAny _ _ (newObj (.type "reversed") (.fields #[.ref t,rawInt ((items.size:Int)-1)])) _ _ _
 exact wpAny_newObj_type (Vm (h _))
def Fw(ht:IsTup s.heap t items)(hz:items.size<=sizeLine)(h:∀tk,Q (.ref s.heap.objs.size) {s with heap:=s.heap.push (Q0 t ((items.size:Int)-1)),toks:=tk}):wpAny (!6) A (call (.type "reversed") [.ref t]) Q E s:=by
 refine callType_codes (Q₁:=λobj s₁=>s₁.TypeIs obj "reversed"/\Q obj s₁) called_rt (F.typeCall_reversed_1 _) F.entry_object_init
  (uk ht hz λtk=>⟨⟨_,Vo _ rfl,rfl⟩,h tk⟩) λobj s₁ h₁=>?_
 exact⟨h₁.1,F.args_object_init_2 obj _,object_init_meets called_rt.init.lookup called_rt.made (!2) prog w A.in1 _ s₁ ⟨h₁.1,rfl,h₁.2⟩⟩
def xU(hit:IsRT s.heap g t i)(h:Q (.ref g) s):wpAny (!6) A (pyIter (.ref g)) Q E s:=by
 refine wpAny_pyIter_slot hit.typeIs k6 (wpAny_call_entry k6 hit.typeIs p4 ?_ (rQ _));exact Vm ⟨_,rfl,"reversed",_,hit.typeIs,slot_rt_next.lookup,h⟩
def Fy{i:Nat}(hit:IsRT s.heap it t (i:Int))(ht:IsTup s.heap t items)(hz:items.size<=sizeLine)(hx:items[i]?=!x)(hQ:∀h' tk,IsRT h' it t ((i:Int)-1)->Heap.SameBut it s.heap h'->Q (!x) {s with heap:=h',toks:=tk}):wpAny (!6) A (pyNext (.ref it)) Q E s:=by
 let⟨o,ho,hc,hd⟩:=id hit;have hi:=(Array.getElem?_eq_some_iff.mp hx).1;have h63:=j9;refine Vk (wpAny_attempt (wpAny_callSpecial?_slot hit.typeIs slot_rt_next
  (wpAny_call_entry slot_rt_next hit.typeIs jY ?_ (kZ _))))
 refine Vk (VA rfl ?_);refine Vk (wpAny_field ho hd (x:=.ref t) rfl ?_);refine Vk (wpAny_field ho hd rfl ?_);refine Vk (wpAny_specialOf (Fu ht) slot_tuple_getitem.lookup ?_);refine Vk (wpAny_mkInt ?_);refine Vk (wpAny_attempt (getItem_tuple ht (!1) (!1) (by
  simp only[seqIndex?];rw[if_neg (show¬ ((i:Nat):Int)<0 by omega),if_pos (by rw[and_eq_true];exact⟨decide_eq_true (!1),decide_eq_true (!1)⟩)];rfl) hx ?_))
 refine Vk (wpAny_field ho hd rfl ?_);refine Vk (wpAny_setField ho hd (by simp) ?_);refine Vm ⟨x,rfl,Vm (hQ _ _ ?_ (Heap.SameBut.update ..))⟩;exact⟨_,Heap.get?_update_self _ ho (Obj.isFreed_of_fields (Obj.data_mapFields hd _)),(Obj.cls_mapFields ..).trans hc,by
  rw[Obj.data_mapFields hd];simp⟩
def JL(hh:A.handled=none)(hit:IsRT s.heap it t (-1))(hQ:∀h',Heap.ExtBut it s.heap h'->Q none {s with heap:=h'}):wpAny (!6) A (pyNext (.ref it)) Q E s:=by
 let⟨o,ho,hc,hd⟩:=id hit
 refine Vk (wpAny_attempt (wpAny_callSpecial?_slot hit.typeIs slot_rt_next
  (wpAny_call_entry slot_rt_next hit.typeIs jY ?_ (kZ _))))
 refine Vk (VA rfl ?_)
 refine Vk (wpAny_field ho hd (x:=.ref t) rfl ?_)
 refine Vk (wpAny_field ho hd rfl ?_)
 refine Vk (wpAny_rule ?_)
 refine Vk ?_
 wp_delta
 refine Vk (wpAny_setField ho hd (by simp) ?_)
 refine wpAny_setField (Heap.get?_update_self _ ho (Obj.isFreed_of_fields (Obj.data_mapFields hd _))) (Obj.data_mapFields hd _) (by simp) ?_
 obtain⟨H2,hH⟩:∃H2,H2=(s.heap.update it (Obj.mapFields λx=>x.setIfInBounds 1 (rawInt (-1)))).update it (Obj.mapFields λx=>x.setIfInBounds 0 Value.none):=⟨_,rfl⟩
 have hE:Heap.ExtBut it s.heap H2:=by
  rw[hH]
  exact(Heap.SameBut.update ..).extBut.trans (Heap.SameBut.update ..).extBut
 rw[<-hH]
 first
 |show wpAny _ _ (newExc (.type "StopIteration") []>>=_) _ _ _
 |(refine Vk ?_;show wpAny _ _ (newExc (.type "StopIteration") []>>=_) _ _ _)
 refine Vk ?_
 refine Vk (wpAny_newObj_type ?_ (by size_fits))
 refine Vk (VA (by first|rfl|(simp only[firstArgMember];rfl)) ?_)
 refine wpAny_newObj_type ?_ (by size_fits)
 refine Vk (wpAny_handled ?_)
 first|rw[show A.in1.handled=none from hh]|rw[hh]
 refine Vk (Vm (wpAny_throw ?_))
 refine Vk (wpAny_isInstance ⟨_,Vo _ rfl,rfl⟩ isSubtype_stop ?_)
 exact Vm (hQ _ ((hE.push _).push _))
noncomputable def  Q1(K:Frag)(a:Addr)(n:Nat):It:=
 ⟨λi H=>∃xs x,SqT K H a xs/\xs.length=n/\xs.reverse[i]?=!x,λi H x H'=>H'=H/\∀xs,SqT K H a xs->xs.reverse[i]?=!x,λi _=>n<=i⟩
def Fz{P:Program}{w:World}{K:Frag}{tg:Expr}(a g:Addr)(n:Nat):Turn P w K tg (Q1 K a n) [g] g (λi h=>IsRT h g a ((n:Int)-1-(min i n:Nat))) where
 mem:=by simp
 obj:=λi h st b j=>by
  have e:b=g:=by simpa using j
  subst e;let⟨o,e,c,d⟩:=st;exact⟨o,e,λv z=>by rw[d]at z;cases z⟩
 keep:=λi h h' st k=>st.at λo e=>k g (by simp) o e
 item:=by
  intro X hP hw hK hc i pins s σ H E I C st t;subst hP hw hK;let⟨xs,x,hq,hn,r⟩:=t;subst hn;let⟨its,rv,p,hz⟩:=I.tuple hq;have hi:i<xs.length:=by
   have:=(Vq.mp r).1;rwa [List.length_reverse]at this
  have hl:=rv.length;rw[List.getElem?_reverse hi]at r;let⟨u,hu,ru⟩:=rv.get r;let⟨f0,f1,f2,U,T,J⟩:=C g (by simp);have ei:((xs.length:Nat):Int)-1-((min i xs.length:Nat):Int)=((xs.length-1-i:Nat):Int):=by omega
  have st:=ei▸st;refine Fy st p (by rw[size_toArray];omega) (by simpa using hu) λh' tk l sb=>?_;have I1:Inv X pins σ H {s with heap:=h',toks:=tk}:=I.turned (λb o j e=>(sb.2 b j).trans e) f0 f1 U T J;let⟨o,e,c,d⟩:=id l;refine⟨u,rfl,xt e c d (!2) ⟨x,H,I1,ru,⟨rfl,λys hy=>by rw[I.tuple_inj hy hq,List.getElem?_reverse hi];exact r⟩,?_,λb j=>(C b j).1⟩⟩;have ej:((xs.length-1-i:Nat):Int)-1=((xs.length:Nat):Int)-1-((min (i+1) xs.length:Nat):Int):=by omega
  exact ej▸l
 done:=by
  intro X hP hw hK hc i pins s σ H E I C st t;have t:n<=i:=t;let⟨f0,f1,f2,U,T,J⟩:=C g (by simp);have ei:((n:Nat):Int)-1-((min i n:Nat):Int)= -1:=by omega
  exact JL (I.ok.hd hc) (ei▸st) λh' eb=>⟨rfl,I.turned (λb o j e=>eb b o j e) f0 f1 U T J⟩
 self:=λ_ _ _ _ _ st h=>xU st h
def FA{K}(q:SqT K o a xs)(j:IsL K o ds xs):oy K o (Q1 K a xs.length) ds.reverse:=λi H O s hd=>by
 have g:=(s.trans msk_le).seqT q;have r:=j.rev;refine⟨λd hi=>?_,λhi=>?_⟩
 .let⟨x,l,p⟩:=r.get hi;refine⟨⟨xs,x,g,rfl,l⟩,λy C ⟨e,t⟩=>?_⟩;subst e;have:=t xs g;rw[l]at this;cases this;exact⟨Same.refl _,Is.mono s d x p⟩
 .show xs.length<=i;rw[<-j.len,<-List.length_reverse];exact hi
end
section
variable{X:Cx}{tg a:Expr}{p pos:Pos}
def  Uq(K:Frag)(ta:TA):TI:=λσ H R=>ta σ H λvs H1=>∃t xs,vs=[.ref t]/\SqT K H1 t xs/\R (Q1 K t xs.length) H1
def Nd(hg:Gl X "reversed")(hm:X.mg "reversed"=none)(ha:PA X [a] ta)(hs:starEach [a] X.env=[(false,eval a X.env)]):PI X tg (.Call (.Name "reversed" p) [a] [] pos) (Uq X.K ta):=by
 intro pins s σ H R I h;refine wpAny_Call_Name_kw (dq I hg hm HH (PyProof.Rows.callWith_type1 (bw (ha pos pins s σ H _ I h) λus j ⟨vs,H1,l,C,T⟩=>?_) (by rw[hs];rfl) rfl));let⟨t,xs,rfl,U,q⟩:=T;let⟨u,rfl,r⟩:=fE C;cases r;let⟨g,rv,pl,hz⟩:=l.tuple U;have hl:=rv.length;refine Fw pl (by rw[size_toArray];omega) λtk=>?_;have J:IsRT (j.heap.push (Q0 t ((g.toArray.size:Int)-1))) j.heap.objs.size t ((g.toArray.size:Int)-1):=⟨_,Vo _ rfl,rfl,rfl⟩;refine xU J ?_;refine⟨j.heap.objs.size,[j.heap.objs.size],_,_,H1,rfl,l.kept λb o e=>Vl _ e,Fz t _ xs.length,?_,λb hb=>?_,q⟩
 .have e:((xs.length:Nat):Int)-1-((min 0 xs.length:Nat):Int)=(g.toArray.size:Int)-1:=by rw[size_toArray,<-hl];omega
  rw[e];exact J
 .have e:b=j.heap.objs.size:=by simpa using hb
  subst e;exact l.fpOk (VI _) (l.hok.fresh (VI _))
def  Pw:Vg->U7:=tw λd=>(Jd d).bind λds=>!ds.reverse
def Nf(U:Gl X "reversed")(T:X.mg "reversed"=none)(ha:PX X [a] fa)(J:starEach [a] X.env=[(false,eval a X.env)]):PJ X tg (.Call (.Name "reversed" p) [a] [] pos) (λY=>(fa Y).bind Pw):=
 λO Y=>(Nd U T (ha O Y) J).imp λσ H R ⟨E,ds,q,k⟩=>by
 let⟨as,e1,q⟩:=VL q
 refine⟨E,as,e1,λvs H1 j I=>?_⟩
 let⟨c,rfl,o⟩:=bc q
 let⟨es,g,l⟩:=VL o
 cases l
 let⟨v,rfl,C⟩:=t9 I
 cases c with
 |tup fs=>
  cases g;let⟨t,xs,rfl,h2,r⟩:=C;exact⟨t,xs,rfl,msk_le.seqT h2,k _ H1 j (FA h2 r)⟩
 |_=>cases g
end
open PySem.AutoSeq1 (wpAny_loadPart')
def um(hh:A.handled=none)(J:s.heap.IsRevIter j l ((xs.size:Int)-1))(C:s.heap.IsList l xs)(ne:l≠j)(hn:xs.size<=sizeLine)(hQ:∀(g:Heap) tk acc,(∀d o,d≠j->s.heap.get? d=!o->g.get? d=!o)->s.heap.objs.size<=g.objs.size->ItemsOf (λi v=>xs[xs.size-1-i]?=!v) acc xs.size->Q acc.toList {s with heap:=g,toks:=tk}):wpAny (!6) A (collect (.ref j)) Q E s:=by
 have jl:j<s.heap.objs.size:=by let⟨o,e,_⟩:=J;exact Vn e
 have ll:l<s.heap.objs.size:=by let⟨o,e,_⟩:=C;exact Vn e
 have up:∀d o,s.heap.get? d=!o->(s.heap.push {cls:=.type "list",data:=.seq ([]:U9).toArray}).get? d=!o:=λd o e=>Vl _ e;have key:∀R:Result->Shared->Prop,(∀g tk acc c,(∀d o,d≠s.heap.objs.size->d≠j->(s.heap.push {cls:=.type "list",data:=.seq ([]:U9).toArray}).get? d=!o->g.get? d=!o)->g.get? s.heap.objs.size=some {cls:=.type "list",dict:=none,data:=.seq acc c,slots:=#[]}->
   ItemsOf (λi v=>xs[xs.size-1-i]?=!v) acc xs.size->R (.ok _) {s with heap:=g,toks:=tk})->codeAny (!6) A (.builtin "proto.collect" ⟨[.ref j],[]⟩) R s:=λR hR=>by
  refine codeAny_builtin F.entry_proto_collect ?_
  refine Vk (wpAny_newObj_type ?_)
  refine Vm ⟨plainId_quiet F.plain_list_iadd _,codeAny_builtin F.entry_list_iadd ?_⟩
  exact Ft hh (J.at λo e=>up _ o e) (C.at λo e=>up _ o e) ne (Vo s.heap rfl) (Nat.ne_of_gt jl) (Nat.ne_of_gt ll) hn λg tk acc c k hg hi=>hR g tk acc c k hg hi
 refine Vk (wpAny_runValue (key _ λg tk acc c k hg hi=>?_));refine Vk (wpAny_load hg ?_);exact Vm (hQ g tk acc (λd o n e=>k d o (Vy (Vn e)) n (up d o e)) (VF (Vn hg)) hi)
def zE{prog:Program}{w:World}{A:Around}{E:U8}{s:Shared}(hh:A.handled=none)(J:s.heap.IsRevIter j l ((xs.size:Int)-1))(C:s.heap.IsList l xs)(ne:l≠j)(hn:xs.size<=sizeLine)(hQ:∀(g:Heap) tk acc,(∀d o,d≠j->s.heap.get? d=!o->g.get? d=!o)->s.heap.objs.size<=g.objs.size->ItemsOf (λi v=>xs[xs.size-1-i]?=!v) acc xs.size->Q (.ref g.objs.size) {s with heap:=g.push {cls:=.type "tuple",data:=.seq acc},toks:=tk}):
  wpAny (!6) A (call (.type "tuple") [.ref j]) Q E s:=by
 refine callType_codes (Q₁:=λobj s₁=>s₁.TypeIs obj "tuple"/\Q obj s₁) F.called_tuple (F.typeCall_tuple_1 _) F.entry_object_init ?_ λobj s₁ h₁=>?_
 .refine codeAny_of_tree ?_;show wpAny _ A.in1.in1 (do checkBuiltinCall "tuple.__new__" ⟨[.type "tuple",.ref j],[]⟩;again (.builtin "tuple.__new__" ⟨[.type "tuple",.ref j],[]⟩)) _ _ s;refine Vk (VA (F.newCall_tuple_1 _) (Vm ⟨plainId_quiet F.plain_tuple_new _,codeAny_builtin F.entry_tuple_new ?_⟩));rw[Around.under_plainId F.plain_tuple_new _];have hsub:=sub_tuple_self;have hinit:=init_tuple_lookup;have hmh:=madeHere_tuple;have hTI:=J.typeIs;have cr:∀{Q:U9->Shared->Prop}{E:U8},(∀(g:Heap) tk acc,(∀d o,d≠j->s.heap.get? d=!o->g.get? d=!o)->s.heap.objs.size<=g.objs.size->ItemsOf (λi v=>xs[xs.size-1-i]?=!v) acc xs.size->Q acc.toList {s with heap:=g,toks:=tk})->wpAny (!6) A.in1.in1 (collect (.ref j)) Q E s:=λhq=>um (A:=A.in1.in1) hh J C ne hn hq;wp_walk using wpAny_typeOf hTI,cr;intro g tk acc k hle hacc;show wpAny _ _ (Builtin.Tuple.tupleExact acc.toList.toArray>>=λv=>ret v) _ _ _;unfold Builtin.Tuple.tupleExact;refine Vk (wpAny_newObj_type ?_ (by show acc.toList.toArray.size<=sizeLine;simp only[Array.toArray_toList];rw[hacc.1];exact hn));refine Vm ?_;have e:acc.toList.toArray=acc:=by simp
  rw[e];exact⟨⟨_,Vo _ rfl,rfl⟩,hQ g tk acc k hle hacc⟩
 .exact⟨h₁.1,F.args_object_init_2 obj _,object_init_meets F.called_tuple.init.lookup F.called_tuple.made (!2) prog w A.in1 _ s₁ ⟨h₁.1,rfl,h₁.2⟩⟩
section
variable{X:Cx}{a:Expr}{p p2 pos pos2:Pos}
def  Q2(K:Frag)(ta:TA):TE:=λσ H Q=>ta σ H λvs H1=>∃l xs,vs=[.ref l]/\SqL K H1 l xs/\∀q,H1 q=none->Q (.ref q) (aR H1 q (.tup xs.reverse))
def Ng:bootBuiltins "tuple"=!(.type "tuple"):=by decide+kernel
def JM(hc:X.calm=true)(hg:Gl X "tuple")(hm:X.mg "tuple"=none)(U:Gl X "reversed")(T:X.mg "reversed"=none)(ha:PA X [a] ta)(hs:starEach [a] X.env=[(false,eval a X.env)]):
  PE X (.Call (.Name "tuple" p) [.Call (.Name "reversed" p2) [a] [] pos2] [] pos) (Q2 X.K ta):=by
 intro pins s σ H Q I h
 refine wpAny_Call_Name_kw (dq I hg hm Ng (PyProof.Rows.callWith_type1 ?_ rfl rfl))
 show wpAny _ _ (spliced ((false,eval (.Call (.Name "reversed" p2) [a] [] pos2) X.env)::[])) _ _ s
 refine Calls.spliced_cons ?_
 refine wpAny_Call_Name_kw (dq I U T HH (PyProof.Rows.callWith_type1 (bw (ha pos2 pins s σ H _ I h) λus r ⟨vs,H1,J,r1,q1⟩=>?_) (by rw[hs];rfl) rfl))
 let⟨l,xs,rfl,hx,q⟩:=q1
 let⟨u,rfl,ru⟩:=fE r1
 cases ru
 let⟨j,rv,pl,hz⟩:=J.list hx
 have C:=pl.isList
 have ll:l<r.heap.objs.size:=by let⟨o,e,_⟩:=C;exact Vn e
 refine call_reversed_list C (Calls.spliced_nil ?_)
 have up:∀d o,r.heap.get? d=!o->(r.heap.push (revObj l ((j.toArray.size:Int)-1))).get? d=!o:=λd o e=>Vl _ e
 have I2:Inv X pins σ H1 {r with heap:=r.heap.push (revObj l ((j.toArray.size:Int)-1))}:=J.kept up
 have hl:=rv.length
 refine zE (J.ok.hd hc) ⟨_,Vo _ rfl,rfl,rfl⟩ (C.at λo e=>up _ o e) (Vy ll) (by rw[size_toArray];omega) λg tk acc k t hi=>?_
 have e:=zy hi
 have e2:acc=j.reverse.toArray:=by
  apply Array.toList_inj.mp;rw[e]
 have fr:=I2.hok.fresh t
 refine⟨.ref _,_,I2.turnedNew (ch:=[r.heap.objs.size]) (λb hb=>?_) (λb o hb e=>Vl _ (k b o (by simpa using hb) e)) t ?_,rfl,q _ fr⟩
 .rw[mem_singleton.mp hb];exact J.fpOk (VI _) (J.hok.fresh (VI _))
 .rw[e2];exact⟨by rw[List.length_reverse];exact hz,j.reverse,rv.reverse,IsTup.new _ _⟩
def  JN:Vg->Vi:=tw λd=>(kR d).bind λds=>!(.tup ds.reverse)
def JO(hc:X.calm=true)(hg:Gl X "tuple")(hm:X.mg "tuple"=none)(j:Gl X "reversed")(g:X.mg "reversed"=none)(ha:PX X [a] fa)(hs:starEach [a] X.env=[(false,eval a X.env)]):
  PP X (.Call (.Name "tuple" p) [.Call (.Name "reversed" p2) [a] [] pos2] [] pos) (λY=>(fa Y).bind JN):=λO Y=>(JM hc hg hm j g (ha O Y) hs).imp λσ H Q ⟨E,d,q,k⟩=>by
 let⟨as,e1,q⟩:=VL q
 refine⟨E,as,e1,λvs H1 C il=>?_⟩
 let⟨c,rfl,T⟩:=bc q
 let⟨xs,J,I⟩:=VL T
 cases I
 let⟨v,rfl,h⟩:=t9 il
 let⟨l,ys,rfl,t,U⟩:=cc J h
 refine⟨l,ys,rfl,msk_le.seq t,λb o=>?_⟩
 have r:=(E.grow C).fresh o
 have le:Same (msk O H1) (msk O (aR H1 b (.tup ys.reverse))):=by rw[nt r];exact Same.new (by rw[aN r];exact o)
 exact k _ _ (C.trans (Same.new o)) ⟨b,ys.reverse,rfl,.of (by rw[aN r,al]),IsL.mono le _ _ U.rev⟩
end
noncomputable def  shO:U6->U6
 |some (_,d)=>!(.sh,d)
 |none=>none
def  frz1(i:Nat)(Y:Ev):Ev:=match Y[i]? with
 |some x=>Y.set i (shO x)
 |none=>Y
def  frzS:Vb->Ev->Ev
 |[],Y=>Y
 |i::is,Y=>frzS is (frz1 i Y)
section
variable{K:Frag}{B:Bs}{O:Ve}{σ:St}{H:Hp}{Y:Ev}
def EnvOk.frz1(E:EnvOk K B O σ H Y)(i:Nat):∃T,EnvOk K B T σ H (frz1 i Y)/\Same (msk O H) (msk T H):=by
 unfold L2.frz1;cases hx:Y[i]? with
 |none=>exact⟨O,E,Same.refl _⟩
 |some x=>
  let⟨F,h1,h2,J,I⟩:=E.fp;have le:Same (msk O H) (msk (λb=>O b&&not (decide (b∈F i))) H):=λb o q=>by
   let⟨q1,U⟩:=a9 q;rw[aN (by simp[q1])];exact U
  refine⟨λb=>O b&&not (decide _),⟨E.same,E.bdom,λb p=>?_,λb p=>E.lis b (by simp at p;exact p.1),by rw[List.length_set];exact E.len,λj=>if j=i then[]else F j,λj s q=>?_,λj=>?_,λj k a g t=>?_,λj a g=>?_⟩,le⟩
  .have n:b ∉ F i:=λz=>E.bdom b p (I i b z).2;simp[E.sub b p,n]
  .rcases get_set_some q with⟨e,r⟩|⟨e,r⟩
   .subst e;cases x with
    |none=>cases r
    |some z=>
     cases r;let⟨v,C,l⟩:=h1 j _ hx;refine⟨v,C,?_⟩;simp only[if_true];exact⟨rfl,l.is le λa ha=>by simp[ha]⟩
   .let⟨v,C,l⟩:=h1 j s r;refine⟨v,C,?_⟩;simp only[if_neg e];exact l.frame le λ_ _ _ z=>z
  .dsimp only;split
   .exact List.nodup_nil
   .exact h2 _
  .by_cases e:j=i
   .simp[e]at g
   .by_cases e2:k=i
    .simp[e2]at t
    .simp only[if_neg e]at g;simp only[if_neg e2]at t;exact J j k a g t
  .by_cases e:j=i
   .simp[e]at g
   .simp only[if_neg e]at g;let⟨l,o2⟩:=I j a g;have n:a ∉ F i:=λz=>e (J j i a g z);exact⟨by simp[l,n],o2⟩
def EnvOk.frzS:∀(is:Vb){O:Ve}{Y:Ev},EnvOk K B O σ H Y->∃O',EnvOk K B O' σ H (frzS is Y)/\Same (msk O H) (msk O' H)
 |[],O,Y,E=>⟨O,E,Same.refl _⟩
 |i::is,O,Y,E=>by
  let⟨O1,E1,s1⟩:=E.frz1 i;let⟨O2,E2,s2⟩:=EnvOk.frzS is E1;exact⟨O2,E2,s1.trans s2⟩
end
def JP(is:Vb)(h:pW X e g):pW X e (λY=>g (frzS is Y)):=λB O Y=>(PU.ex λj=>h B j _).imp λσ H Q ⟨E,s,Y',q,k⟩=>by
 let⟨j,r,le⟩:=E.frzS is;exact⟨j,r,s,Y',q,λv H' o l p=>k v H' o (le.trans l) p⟩
end L2
namespace L2
open PySem PySem.Spec PyProof.Rows
def JQ:ug X (.Dict [] [] pos) (λ_=>!(.dct [] [])):=λY=>PE.pu (pe_dnewK.imp λσ H Q ⟨E,d,q,k⟩=>by
 cases q;exactλp g=>k _ _ [p] (Same.new g) ⟨p,[],[],rfl,al,rfl,rfl,rfl,rfl⟩ (by simp) λa j=>by rw[mem_singleton.mp j];exact g) rfl
noncomputable def  zF(ks:List jz)(k:jz):Bool:=ks.any λj=>decide (j=k)
def  k7(ks:List jz)(k:jz):List jz:=if zF ks k=true then ks else ks++[k]
def  k8(ks:List jz)(ds:Vg)(k:jz)(d:D):Vg:=if zF ks k=true then List.zipWith (λj e=>if j=k then d else e) ks ds else ds++[d]
def xV(k:jz)(kvs:List (jz×V)):(kvs.any λg=>decide (g.1=k))=zF (kvs.map (·.1)) k:=by
 unfold zF;rw[List.any_map];rfl
def BO(kvs:List (jz×V))(k:jz)(v:V):(kP kvs k v).map (·.1)=k7 (kvs.map (·.1)) k:=by
 unfold kP k7;rw[xV];by_cases h:zF (kvs.map (·.1)) k=true
 .rw[if_pos h,if_pos h,List.map_map];apply List.map_congr_left;intro p _;show(if p.1=k then(p.1,v)else p).1=p.1;split<;>rfl
 grind
def BP{K}(hd:Is K M d v)(l:IsL K M ds (kvs.map (·.2))):IsL K M (k8 (kvs.map (·.1)) ds k d) ((kP kvs k v).map (·.2)):=by
 unfold kP k8;rw[xV];by_cases h:zF (kvs.map (·.1)) k=true
 .rw[if_pos h,if_pos h];clear h;induction kvs generalizing ds with
  |nil=>
   have e:ds=[]:=by cases ds with|nil=>rfl|cons a b=>let⟨_,_,z,_⟩:=l;cases z
   subst e;exact rfl
  |cons p r o=>
   cases ds with
   |nil=>cases(l)
   |cons e ds=>
    let⟨x,t,z,h,l⟩:=l;have j:=z;cases j;refine⟨_,_,rfl,?_,o l⟩;show Is K M (if p.1=k then d else e) (if p.1=k then(p.1,v)else p).2;by_cases g:p.1=k
    .rw[if_pos g,if_pos g];exact hd
    .rw[if_neg g,if_neg g];exact h
 .rw[if_neg h,if_neg h,List.map_append];exact l.app ⟨v,[],rfl,hd,rfl⟩
def BQ(hd:lfD d=true):∀{ds:Vg},fw ds=true->fw (k8 ks ds k d)=true:=λ{ds} h=>by
 unfold k8;split
 .rename_i l;clear l;induction ks generalizing ds with
  |nil=>rfl
  |cons j ks g=>
   cases ds with
   |nil=>rfl
   |cons e ds=>
    have h':(lfD e&&fw ds)=true:=h;rw[and_eq_true]at h';show(lfD (if j=k then d else e)&&fw (List.zipWith _ ks ds))=true;rw[g h'.2,Bool.and_true];split
    .exact hd
    .exact h'.1
 .rename_i l;induction ds with
  |nil=>show(lfD d&&true)=true;rw[hd];rfl
  |cons e ds g=>
   have h':(lfD e&&fw ds)=true:=h;rw[and_eq_true]at h';show(lfD e&&fw (ds++[d]))=true;rw[h'.1,g h'.2];rfl
def  FC(Y:Ev)(i:Nat):Option (List jz×List D):=(iB Y i).bind λs=>match s with
 |(.deep,.dct ks ds)=>!(ks,ds)
 |_=>none
def zH(h:FC Y i=!w):Y[i]?=!(!(.deep,.dct w.1 w.2)):=by
 let⟨⟨c,d⟩,h1,h2⟩:=VL h;have g:=h2;split at g
 .rename_i ks ds e;cases g;cases e;exact dv h1
 .cases g
section
variable{K:Frag}{B:Bs}{O:Ve}{σ:St}{H:Hp}{Y:Ev}
def EnvOk.dctAt(E:EnvOk K B O σ H Y){i:Nat}(h:Y[i]?=!(!(.deep,.dct ks ds))):∃a kvs,σ[i]?=!(!(.ref a))/\H a=!(.dK kvs)/\kvs.map (·.1)=ks/\O a=true/\B.H a=none:=by
 let⟨F,h1,h2,h3,h4⟩:=E.fp;let⟨v,e,a,kvs,A',z1,z2,z3,z4,l⟩:=h1 i _ h;grind
def EnvOk.dput(E:EnvOk K B O σ H Y){i:Nat}(h:Y[i]?=!(!(.deep,.dct ks ds)))(lf:fw ds=true)(ld:lfD d=true)(hv:Is K (msk O H) d v)(k:jz):
  ∃a kvs,σ[i]?=!(!(.ref a))/\H a=!(.dK kvs)/\kvs.map (·.1)=ks/\EnvOk K B O σ (aR H a (.dK (kP kvs k v))) (Y.set i (!(.deep,.dct (k7 ks k) (k8 ks ds k d))))/\Same (msk O H) (msk O (aR H a (.dK (kP kvs k v)))):=by
 let⟨F,h1,h2,U,T⟩:=E.fp
 let⟨v0,e0,a,kvs,A',z1,r,p,I,l⟩:=h1 i _ h
 subst z1
 have hA:=DeepL.lf ds _ A' lf l
 subst hA
 have g:a∈F i:=by rw[I];exact Vr
 let⟨oa,ba⟩:=T i a g
 have J:msk O (aR H a (.dK (kP kvs k v)))=msk O H:=jf oa
 have le:Same (msk O H) (msk O (aR H a (.dK (kP kvs k v)))):=by rw[J];exact Same.refl _
 refine⟨a,kvs,e0,r,p,⟨λb o q=>?_,E.bdom,E.sub,λb C=>?_,by rw[List.length_set];exact E.len,F,λj s q=>?_,h2,U,T⟩,le⟩
 .rw[ag (am q ba)];exact E.same b o q
 .by_cases e:b=a
  .subst e;exact .inr (.inr ⟨_,al⟩)
  .rw[ag e];exact E.lis b C
 .rcases get_set_some q with⟨e,t⟩|⟨e,t⟩
  .cases t;subst e;refine⟨.ref a,e0,a,_,[],rfl,al,by rw[BO,p],I,?_⟩;rw[J];subst p;have il:=DeepL.is (NL.of (Same.refl _)) ds _ [] (λ_ h=>(nomatch h)) l;exact IsL.deep _ _ (BQ ld lf) (BP hv il)
  .let⟨w,e1,o1⟩:=h1 j s t;refine⟨w,e1,o1.frame le λb C o z=>?_⟩;have:b≠a:=λr=>e (U j i a (r▸C) g);rw[ag this];exact z
end
section
variable{X:Cx}{e:Expr}{pos:Pos}
def  Nh:Iz:=λo i v H Q=>∃p kvs k,o=.ref p/\i=kV k/\H p=!(.dK kvs)/\kvs.length<sizeLine/\Q (aR H p (.dK (kP kvs k v)))
def BR:IA X Nh:=by
 intro pins s σ H o i v ov iv u Q I ro t rv h;let⟨p,kvs,k,rfl,rfl,l,hl,q⟩:=h;cases ro;let⟨z,hd,r,rel,U⟩:=Hz I.hok l;have hz:r.length<=sizeLine:=by rw[<-rel.length];exact z
 have j:(kP kvs k v).length<=sizeLine:=by have:=tY kvs k v;omega
 refine wpAny_setItem_pairs (Hy t) U λh' g C=>⟨_,?_,q⟩;have T:∃q,h'.get? p=!q:=let⟨q,_,_,J,_⟩:=g;⟨q,J⟩;exact ED I (by rw[l];exact True.intro) C T (IR j hd (rel.put k rv) g)
def  BS(i:Nat)(fk:U0)(R:U0):U1:=λY=>(FC Y i).bind λw=>(vq (R (vw Y))).bind λd=>(fk (vw Y)).bind λy=>(Jc y).bind λk=>if fw w.2=true/\w.1.length+1<big then !(.nx (Y.set i (!(.deep,.dct (k7 w.1 k) (k8 w.1 w.2 k d)))))else none
def JR(i:Nat)(h:PP X e R)(hk:PP X p fk)(hN:X.N[i]?=!x)(hv:tq X.env.scope x)(hd:(!7)=false)(T:(!15)=false)(ha:∀v,assign (.Subscript (.Name x r) p g) X.env v=(do
   let C<-holding [v] (eval (.Name x r) X.env)
   let t<-holding [v,C] (eval p X.env)
   standAt g
   holding [v,C,t] (setItem C t v)
   release [v,C,t] [])) (hs:swapsWithSole [.Subscript (.Name x r) p g] e pos.line X.env=pure false) (hw:swappedStores [.Subscript (.Name x r) p g] e X.env=pure none) (h1:(assignEach [.Subscript (.Name x r) p g] X.env).map (·.2)=[assign (.Subscript (.Name x r) p g) X.env]):PR X (.Assign [.Subscript (.Name x r) p g] e pos) (BS i fk R):=λB O Y=>
 (rg (h mL (vw Y)) (Aw (cM hN hv hd T) (hk mL (vw Y)) BR ha) hs hw h1).imp λEn σ H ⟨E,o,q,k⟩=>by
 let⟨⟨ks,ds⟩,q1,q⟩:=VL q
 let⟨d,q2,q⟩:=VL q
 let⟨y,q3,q⟩:=VL q
 let⟨j,q4,q⟩:=VL q
 let⟨⟨hl,hz⟩,q⟩:=ay q
 subst q
 let⟨U,p5,p6⟩:=VL q2
 let⟨ld,p7⟩:=ay p6
 subst p7
 have h0:=zH q1
 refine⟨E.view,U,p5,λv H1 s1 t=>?_⟩
 have E1:=E.grow s1
 let⟨a,kvs,e1,e2,e3,_⟩:=E1.dctAt h0
 refine⟨.ref a,e1,E1.view,y,q3,λyv H2 I iy=>?_⟩
 have E2:=E1.grow I
 have J:Is X.K (msk O H2) U v:=Is.nl (by have:=E2.nl;rw[nB]at*;exact(NL.of I).trans this) U v ld t
 let⟨a',l,f1,f2,f3,f4,f5⟩:=E2.dput h0 hl ld J j
 rw[e1]at f1
 cases f1
 exact⟨a,l,j,rfl,xA q4 iy,f2,by
  have:l.length=ks.length:=by have:=congrArg List.length f3;rwa [length_map]at this
  have hz:ks.length+1<big:=hz;rw[kb];omega,k σ _ O (s1.msk.trans (I.msk.trans f5)) f4⟩
end
section
variable{X:Cx}{a:Expr}{p pos:Pos}
def wq:bootBuiltins "sorted"=!(.builtin "sorted"):=by decide+kernel
def  ge(ns:Vd):Vd:=ns.mergeSort (λa b=>decide (a<=b))
def BU(h1:ms.Perm ns)(h2:ms.Pairwise (·<=·)):ms=ge ns:=by
 refine List.Perm.eq_of_pairwise (λa b _ _ h h'=>Int.le_antisymm h h') h2 ?_ (h1.trans (List.mergeSort_perm _ _).symm);have:=List.pairwise_mergeSort (le:=λa b:Int=>decide (a<=b)) (λa b c h1 h2=>decide_eq_true (Int.le_trans (Vt h1) (Vt h2))) (λa b=>by simp;omega) ns;simp_all [ge]
def xW:∀{ns:Vd}{us:U9},Vals (ns.map V.int) us->IntsAre us ns
 |[],_,.nil=>.nil
 |n::ns,_,.cons ⟨t,e⟩ r=>by subst e;exact .cons n t (xW r)
def qH:∀{us:U9}{ns:Vd},IntsAre us ns->Vals (ns.map V.int) us
 |_,_,.nil=>.nil
 |_,_,.cons n t r=>.cons ⟨t,rfl⟩ (qH r)
def  Ni(K:Frag):List V->Hp->VK->Prop:=λvs H Q=>∃l ns,vs=[.ref l]/\SqL K H l (ns.map V.int)/\ns.length<64/\∀q,H q=none->Q (.ref q) (aR H q (.lst ((ge ns).map V.int)))
def zI:fC X (.builtin "sorted") (Ni X.K):=by
 intro pins s σ H xs U Q I r h;let⟨l,ns,rfl,p,J,q⟩:=h;let⟨u,rfl,j⟩:=fE r;cases j;let⟨g,rv,pl,hz⟩:=I.list p;have t:=rv.length;rw[length_map]at t;refine PyProof.Rows.sorted_ints pl.isList (xW rv) (!1) λout ms h1 h2 T=>?_;let⟨e,C⟩:=sortedAll_at s.heap g out;have z:=BU h2 T;subst z;have fr:=I.hok.fresh (Nat.le_succ _);refine⟨.ref _,_,I.laid (λb o q=>sortedAll_old q) (Nat.le_succ _) (o:=.lst _) ⟨?_,out.toList,e,qH h1,by simpa using C⟩,rfl,q _ fr⟩;rw[length_map,h2.length_eq];have:(64:Nat)<=sizeLine:=by decide
 omega
def  k9:Vg->U7:=tw λd=>(kR d).bind λds=>(a8 ds).bind λns=>if ns.length<64 then !((ge ns).map D.int)else none
def oJ{K}:∀(ns:Vd),IsL K H (ns.map D.int) (ns.map V.int)
 |[]=>rfl
 |n::ns=>⟨_,_,rfl,rfl,oJ ns⟩
def FD(hg:Gl X "sorted")(hm:X.mg "sorted"=none)(ha:PX X [a] fa)(hs:starEach [a] X.env=[(false,eval a X.env)]):
  PF X (.Call (.Name "sorted" p) [a] [] pos) (λY=>(fa Y).bind k9):=λO Y=>(nV zI hg hm wq (ha O Y) (!2) (!2) (by rw[hs];rfl) rfl).imp λσ H Q ⟨E,ds,q,k⟩=>by
 let⟨as,e1,q⟩:=VL q
 refine⟨E,as,e1,λvs H1 j il=>?_⟩
 let⟨c,rfl,T⟩:=bc q
 let⟨xs,J,I⟩:=VL T
 let⟨U,C,r⟩:=VL I
 let⟨g,o⟩:=ay r
 subst o
 let⟨v,rfl,h⟩:=t9 il
 let⟨l,ys,rfl,t,l2⟩:=cc J h
 rw[asInts_is C l2]at t
 exact⟨l,U,rfl,msk_le.seq t,g,λb hb=>k b _ H1 j hb (oJ _)⟩
end
end L2
namespace L2
open PySem PySem.W PyProof.Rows
noncomputable def  kRun{α:Type}(c:Nat->Nat->Bool):KasT α->α
 |.ret a=>a
 |.ask i j k=>kRun c (k (c i j))
def fy{f:α->KasT β}:∀t:KasT α,kRun c (t.bind f)=kRun c (f (kRun c t))
 |.ret _=>rfl
 |.ask i j k=>fy (k (c i j))
section
variable{ky:Nat->Int}
def  kC(ky:Nat->Int)(i j:Nat):Bool:=decide (ky i<ky j)
def  kG(ky:Nat->Int)(p:Array Nat)(i:Nat):Int:=ky (p.getD i 0)
def oK(h:p[i]?=q[j]?):kG ky p i=kG ky q j:=by simp_all [kG]
def  D4(ky:Nat->Int)(p:Array Nat)(k:Nat):Prop:=∀i j,i<=j->j<k->kG ky p i<=kG ky p j
def  LH(ky:Nat->Int)(p:Array Nat)(k:Nat):Prop:=∀i j,i<=j->j<k->kG ky p j<=kG ky p i
def  Px(ky:Nat->Int)(p:Array Nat)(a b:Nat):Prop:=∀i,a<=i->i<b->kG ky p i=kG ky p (b-1)
def rev_at(g:j<=p.size)(k:Nat):(kas_rev p i j)[k]?=if i<=k/\k<j then p[i+j-1-k]? else p[k]?:=by
 unfold kas_rev;rw[getElem?_mirror g _ (!1)];grind
def oM(g:j<=p.size)(h:Px ky p i j)(k:Nat):kG ky (kas_rev p i j) k=kG ky p k:=by
 have e:=rev_at (i:=i) g k;by_cases c:i<=k/\k<j
 .rw[if_pos c]at e;rw[oK e,h _ (!1) (!1),h k c.1 c.2]
 .rw[if_neg c]at e;exact oK e
def cU(p:Array Nat)(i j:Nat):(kas_rev p i j).Perm p:=mirror_perm _ _ _ _
def fz{p q:Array Nat}(h:p.Perm q):p.size=q.size:=h.size_eq
def wt:∀(f n:Nat),1<=n->D4 ky p n->
  n<=kRun (kC ky) (kas_asc p f n)/\kRun (kC ky) (kas_asc p f n)<=n+f/\D4 ky p (kRun (kC ky) (kas_asc p f n))/\
   (kRun (kC ky) (kas_asc p f n)=n+f\/kG ky p (kRun (kC ky) (kas_asc p f n))<kG ky p (kRun (kC ky) (kas_asc p f n)-1))
 |0,n,_,h=>⟨VI _,VI _,h,.inl rfl⟩
 |f+1,n,h1,h=>by
  have e:kRun (kC ky) (kas_asc p (f+1) n)=if kG ky p n<kG ky p (n-1)then n else kRun (kC ky) (kas_asc p f (n+1)):=by
   show kRun (kC ky) (if decide (kG ky p n<kG ky p (n-1))=true then KasT.ret n else kas_asc p f (n+1))=_;by_cases c:kG ky p n<kG ky p (n-1)
   .rw[if_pos c,if_pos (decide_eq_true c)];rfl
   .rw[if_neg c,if_neg (by rw[decide_eq_true_eq];exact c)]
  rw[e];by_cases c:kG ky p n<kG ky p (n-1)
  .rw[if_pos c];exact⟨VI _,by omega,h,.inr c⟩
  .rw[if_neg c];let⟨a1,a2,a3,a4⟩:=wt f (n+1) (!1) (λi j hij hj=>by
    rcases Nat.lt_or_ge j n with q|q
    .exact h i j hij q
    .have:j=n:=by omega
     subst this;rcases Nat.lt_or_ge i j with r|r
     .exact Int.le_trans (h i (j-1) (!1) (!1)) (!1)
     .have:i=j:=by omega
      subst this;exact Int.le_refl _)
   exact⟨by omega,by omega,a3,a4.imp (λq=>by omega) id⟩
structure kDs(ky:Nat->Int)(p:Array Nat)(n q:Nat):Prop where
 n1:1<=n
 hq:q+1<=n
 dn:LH ky p n
 eq:Px ky p (n-(q+1)) n
def rS(h1:1<=n)(h:LH ky p n)(c:kG ky p n<=kG ky p (n-1))(e:∀k,kG ky l k=kG ky p k):LH ky l (n+1):=λi j g o=>by
 rw[e,e];rcases Nat.lt_or_ge j n with q|q
 .exact h i j g q
 .have:j=n:=by omega
  subst this;rcases Nat.lt_or_ge i j with r|r
  .exact Int.le_trans c (h i (j-1) (!1) (!1))
  .have:i=j:=by omega
   subst this;exact Int.le_refl _
def nC:∀(f:Nat)(p:Array Nat)(n q:Nat),kDs ky p n q->n+f<=p.size->
  ∃p' m q',kRun (kC ky) (kas_desc f p n q)=(p',m,q')/\p'.Perm p/\n<=m/\m<=n+f/\kDs ky p' m q'
 |0,p,n,q,h,_=>⟨p,n,q,rfl,.refl _,VI _,VI _,h⟩
 |f+1,p,n,q,h,hz=>by
  have e:kRun (kC ky) (kas_desc (f+1) p n q)=if kG ky p n<kG ky p (n-1)then(if q>0 then kRun (kC ky) (kas_desc f (kas_rev p (n-(q+1)) n) (n+1) 0)else kRun (kC ky) (kas_desc f p (n+1) 0))
    else if kG ky p (n-1)<kG ky p n then(p,n,q)else kRun (kC ky) (kas_desc f p (n+1) (q+1)):=by
   show kRun (kC ky) (if decide (kG ky p n<kG ky p (n-1))=true then(if q>0 then kas_desc f (kas_rev p (n-(q+1)) n) (n+1) 0 else kas_desc f p (n+1) 0)
    else KasT.ask (p.getD (n-1) 0) (p.getD n 0) λd=>if d=true then KasT.ret (p,n,q)else kas_desc f p (n+1) (q+1))=_
   by_cases c:kG ky p n<kG ky p (n-1)
   .rw[if_pos c,if_pos (decide_eq_true c)];by_cases c2:q>0
    .rw[if_pos c2,if_pos c2]
    .rw[if_neg c2,if_neg c2]
   .rw[if_neg c,if_neg (by rw[decide_eq_true_eq];exact c)];show kRun (kC ky) (if decide (kG ky p (n-1)<kG ky p n)=true then KasT.ret (p,n,q)else kas_desc f p (n+1) (q+1))=_;by_cases c2:kG ky p (n-1)<kG ky p n
    .rw[if_pos c2,if_pos (decide_eq_true c2)];rfl
    .rw[if_neg c2,if_neg (by rw[decide_eq_true_eq];exact c2)]
  have one:∀p':Array Nat,Px ky p' (n+1-(0+1)) (n+1):=λp' i h1 h2=>by
   have:i=n+1-1:=by omega
   rw[this]
  rw[e];by_cases c:kG ky p n<kG ky p (n-1)
  .rw[if_pos c];by_cases c2:q>0
   .rw[if_pos c2];have hr:=cU p (n-(q+1)) n;have hs:=fz hr;let⟨p',m,q',a1,a2,a3,a4,a5⟩:=nC f (kas_rev p (n-(q+1)) n) (n+1) 0 ⟨by omega,by omega,rS h.n1 h.dn (Int.le_of_lt c) (oM (!1) h.eq),one _⟩ (!1);exact⟨p',m,q',a1,a2.trans hr,by omega,by omega,a5⟩
   .rw[if_neg c2];let⟨p',m,q',a1,a2,a3,a4,a5⟩:=nC f p (n+1) 0 ⟨by omega,by omega,rS h.n1 h.dn (Int.le_of_lt c) (λ_=>rfl),one _⟩ (!1);exact⟨p',m,q',a1,a2,by omega,by omega,a5⟩
  .rw[if_neg c];by_cases c2:kG ky p (n-1)<kG ky p n
   .rw[if_pos c2];exact⟨p,n,q,rfl,.refl _,VI _,by omega,h⟩
   .rw[if_neg c2];have eq:kG ky p n=kG ky p (n-1):=by omega
    let⟨p',m,q',a1,a2,a3,a4,a5⟩:=nC f p (n+1) (q+1) ⟨by omega,by have:=h.hq;omega,rS h.n1 h.dn (Int.le_of_eq eq) (λ_=>rfl),λi h1 h2=>by
     show kG ky p i=kG ky p n;rcases Nat.lt_or_ge i n with r|r
     .rw[h.eq i (!1) r,eq]
     .have:i=n:=by omega
      rw[this]⟩ (!1)
    exact⟨p',m,q',a1,a2,by omega,by omega,a5⟩
def xX(h1:1<=n)(C:n<=nrem)(t:nrem<=p.size)(h:LH ky p n):
  ∃m g,kRun (kC ky) (kas_tail3 n nrem p)=(m,g)/\g.Perm p/\1<=m/\m<=nrem/\D4 ky g m:=by
 have up:D4 ky (kas_rev p 0 n) n:=λi j o I=>by
  have l:=rev_at (p:=p) (i:=0) (j:=n) (!1) i;have e2:=rev_at (p:=p) (i:=0) (j:=n) (!1) j;rw[if_pos (!1)]at l e2;rw[oK l,oK e2];exact h _ _ (!1) (!1)
 let⟨T,J,r,_⟩:=wt (nrem-n) n h1 up
 refine⟨_,kas_rev p 0 n,?_,cU _ _ _,by omega,by omega,r⟩
 unfold kas_tail3
 rw[fy]
 rfl
def xY(hn:n+1<=nrem)(hz:nrem<=p.size)(h:LH ky p (n+1)):
  ∃m g,kRun (kC ky) (kas_descPart n nrem p)=(m,g)/\g.Perm p/\1<=m/\m<=nrem/\D4 ky g m:=by
 let⟨T,m,q,e,J,a3,a4,l⟩:=nC (nrem-(n+1)) p (n+1) 0 ⟨by omega,by omega,h,λi h1 h2=>by
  have:i=n+1-1:=by omega
  rw[this]⟩ (!1)
 have hs:=fz J
 unfold kas_descPart
 rw[fy,e]
 dsimp only
 by_cases c:q>0
 .rw[if_pos c];have U:=cU T (m-(q+1)) m;have hs2:=fz U;have d:LH ky (kas_rev T (m-(q+1)) m) m:=λi j r hj=>by
   rw[oM (!1) l.eq,oM (!1) l.eq];exact l.dn i j r hj
  let⟨o,g,I,C,t⟩:=xX (nrem:=nrem) l.n1 (!1) (!1) d;exact⟨o,g,I,C.trans (U.trans J),t⟩
 .rw[if_neg c];let⟨o,g,I,C,t⟩:=xX (nrem:=nrem) l.n1 (!1) (!1) l.dn;exact⟨o,g,I,C.trans J,t⟩
def BV(h1:1<=nrem)(hz:nrem<=p.size):
  ∃m l,kRun (kC ky) (kas_count nrem p)=(m,l)/\l.Perm p/\1<=m/\m<=nrem/\D4 ky l m:=by
 let⟨I,a2,t,C⟩:=wt (nrem-1) 1 (VI _) (λi j o U=>by
  have:i=j:=by omega
  subst this;exact Int.le_refl _)
 unfold kas_count
 rw[fy]
 generalize kRun (kC ky) (kas_asc p (nrem-1) 1)=n at I a2 t C
 by_cases c:(n==nrem)=true
 .rw[if_pos c];exact⟨n,p,rfl,.refl _,I,by omega,t⟩
 .rw[if_neg c];have c':n≠nrem:=λq=>c (beq_iff_eq.mpr q);have C:kG ky p n<kG ky p (n-1):=by
   rcases C with q|q
   .omega
   .exact q
  by_cases c2:n>1
  .rw[if_pos c2];have e:kRun (kC ky) (KasT.ask (p.getD 0 0) (p.getD (n-1) 0) λc=>if c=true then KasT.ret (n,p)else kas_descPart n nrem (kas_rev p 0 n))=if kG ky p 0<kG ky p (n-1)then(n,p)else kRun (kC ky) (kas_descPart n nrem (kas_rev p 0 n)):=by
    show kRun (kC ky) (if decide (kG ky p 0<kG ky p (n-1))=true then KasT.ret (n,p)else kas_descPart n nrem (kas_rev p 0 n))=_;by_cases g:kG ky p 0<kG ky p (n-1)
    .rw[if_pos g,if_pos (decide_eq_true g)];rfl
    .rw[if_neg g,if_neg (by rw[decide_eq_true_eq];exact g)]
   rw[e];by_cases g:kG ky p 0<kG ky p (n-1)
   .rw[if_pos g];exact⟨n,p,rfl,.refl _,I,by omega,t⟩
   .rw[if_neg g];have eq:Px ky p 0 n:=λi h1 h2=>by
     have x1:=t i (n-1) (!1) (!1);have x2:=t 0 i (!1) h2;omega
    have T:=cU p 0 n;have hs:=fz T;let⟨m',l,b1,b2,b3⟩:=xY (p:=kas_rev p 0 n) (n:=n) (nrem:=nrem) (!1) (!1) (λi j o U=>by
     rw[oM (!1) eq,oM (!1) eq];rcases Nat.lt_or_ge j n with r|r
     .rw[eq i (!1) (!1),eq j (!1) r];exact Int.le_refl _
     .have:j=n:=by omega
      subst this;rcases Nat.lt_or_ge i j with J|J
      .rw[eq i (!1) J];omega
      .have:i=j:=by omega
       subst this;exact Int.le_refl _)
    exact⟨m',l,b1,b2.trans T,b3⟩
  .rw[if_neg c2];refine xY (!1) hz λi j o U=>?_;have:n=1:=by omega
   subst this;rcases Nat.lt_or_ge i j with r|r
   .have e1:i=0:=by omega
    have e2:j=1:=by omega
    subst e1 e2;exact Int.le_of_lt C
   .have:i=j:=by omega
    subst this;exact Int.le_refl _
def oN(up:D4 ky p k):∀(f l r:Nat),l<=r->r<=k->r-l<=f->(∀i,i<l->kG ky p i<=kG ky p k)->(∀i,r<=i->i<k->kG ky p k<kG ky p i)->
  kRun (kC ky) (kas_place p k f l r)<=k/\(∀i,i<kRun (kC ky) (kas_place p k f l r)->kG ky p i<=kG ky p k)/\(∀i,kRun (kC ky) (kas_place p k f l r)<=i->i<k->kG ky p k<kG ky p i)
 |0,l,r,h1,h2,h3,a,b=>⟨by show l<=k;omega,a,λi hi hk=>b i (by have:l<=i:=hi;omega) hk⟩
 |f+1,l,r,h1,h2,h3,a,b=>by
  unfold kas_place;by_cases c:l≥r
  .rw[if_pos c];exact⟨by show l<=k;omega,a,λi hi hk=>b i (by have:l<=i:=hi;omega) hk⟩
  .rw[if_neg c];have e:kRun (kC ky) (KasT.ask (p.getD k 0) (p.getD ((l+r)/2) 0) λc=>if c=true then kas_place p k f l ((l+r)/2)else kas_place p k f ((l+r)/2+1) r)=if kG ky p k<kG ky p ((l+r)/2)then kRun (kC ky) (kas_place p k f l ((l+r)/2))else kRun (kC ky) (kas_place p k f ((l+r)/2+1) r):=by
    show kRun (kC ky) (if decide (kG ky p k<kG ky p ((l+r)/2))=true then kas_place p k f l ((l+r)/2)else kas_place p k f ((l+r)/2+1) r)=_;by_cases c3:kG ky p k<kG ky p ((l+r)/2)
    .rw[if_pos c3,if_pos (decide_eq_true c3)]
    .rw[if_neg c3,if_neg (by rw[decide_eq_true_eq];exact c3)]
   rw[e];by_cases c3:kG ky p k<kG ky p ((l+r)/2)
   .rw[if_pos c3];exact oN up f l ((l+r)/2) (!1) (!1) (!1) a λi hi hk=>by
     have:=up ((l+r)/2) i hi hk;omega
   .rw[if_neg c3];exact oN up f ((l+r)/2+1) r (!1) h2 (!1) (λi hi=>by
     have:=up i ((l+r)/2) (!1) (!1);omega) b
def BW:∀(f:Nat)(p:Array Nat)(k:Nat),D4 ky p k->k+f<=p.size->(kRun (kC ky) (kas_bin f p k)).Perm p/\D4 ky (kRun (kC ky) (kas_bin f p k)) (k+f)
 |0,p,k,h,_=>⟨.refl _,h⟩
 |f+1,p,k,h,hz=>by
  let⟨a1,a2,a3⟩:=oN h k 0 k (Nat.zero_le _) (VI _) (!1) (λi hi=>by omega) (λi h1 h2=>by omega);have e:kRun (kC ky) (kas_bin (f+1) p k)=kRun (kC ky) (kas_bin f (bubble p k (k-kRun (kC ky) (kas_place p k k 0 k))) (k+1)):=fy _;rw[e];generalize kRun (kC ky) (kas_place p k k 0 k)=l at a1 a2 a3;have hp:(bubble p k (k-l)).Perm p:=bubble_perm _ _ _;have hs:=fz hp;have at':∀i,kG ky (bubble p k (k-l)) i=if i=l then kG ky p k else if l<i/\i<=k then kG ky p (i-1)else kG ky p i:=λi=>by
   have z:=getElem?_bubble (xs:=p) (src:=k) (!1) (k-l) (!1) i;rw[show k-(k-l)=l by omega]at z;by_cases c1:i=l
   .rw[if_pos c1]at z⊢;exact oK z
   .rw[if_neg c1]at z⊢;by_cases c2:l<i/\i<=k
    .rw[if_pos c2]at z⊢;exact oK z
    .rw[if_neg c2]at z⊢;exact oK z
  let⟨b1,b2⟩:=BW f (bubble p k (k-l)) (k+1) (λi j hij hj=>by
   rw[at',at'];by_cases ci:i=l
   .rw[if_pos ci];by_cases cj:j=l
    .rw[if_pos cj];exact Int.le_refl _
    .rw[if_neg cj,if_pos (!1)];exact Int.le_of_lt (a3 (j-1) (!1) (!1))
   .rw[if_neg ci];by_cases ci2:l<i/\i<=k
    .rw[if_pos ci2,if_neg (!1),if_pos (!1)];exact h _ _ (!1) (!1)
    .rw[if_neg ci2];by_cases cj:j=l
     .rw[if_pos cj];exact a2 i (!1)
     .rw[if_neg cj];by_cases cj2:l<j/\j<=k
      .rw[if_pos cj2];exact h _ _ (!1) (!1)
      .rw[if_neg cj2];exact h _ _ hij (!1)) (!1)
  exact⟨b1.trans hp,by rw[show k+(f+1)=k+1+f by omega];exact b2⟩
def FE(h1:1<=n):(kRun (kC ky) (kas_sort n)).Perm (List.toArray (!20))/\D4 ky (kRun (kC ky) (kas_sort n)) n:=by
 let⟨m,p,e,g,J,I,l⟩:=BV (p:=List.toArray (!20)) h1 (by simp);have C:=fz g;have t:(List.toArray (!20)).size=n:=by simp
 unfold kas_sort;rw[fy,e];by_cases c:m<n
 .rw[if_pos c];have o:max m 1=m:=by omega
  rw[o];let⟨r,j⟩:=BW (n-m) p m l (!1);rw[show m+(n-m)=n by omega]at j;exact⟨r.trans g,j⟩
 .rw[if_neg c];have:m=n:=by omega
  subst this;exact⟨g,l⟩
end
def  kIn{α:Type}(n:Nat)(Q:α->Prop):KasT α->Prop
 |.ret a=>Q a
 |.ask i j k=>i<n/\j<n/\∀b,kIn n Q (k b)
def gC{Q Q'}(h:∀a,Q a->Q' a):∀t:KasT α,kIn n Q t->kIn n Q' t
 |.ret a,z=>h a z
 |.ask _ _ k,z=>⟨z.1,z.2.1,λb=>gC h (k b) (z.2.2 b)⟩
def gD{f:α->KasT β}:∀t:KasT α,kIn n (λa=>kIn n Q (f a)) t->kIn n Q (t.bind f)
 |.ret _,z=>z
 |.ask _ _ k,z=>⟨z.1,z.2.1,λb=>gD (k b) (z.2.2 b)⟩
def cV[Decidable c]{t u:KasT α}(h:kIn n Q t)(h':kIn n Q u):kIn n Q (if c then t else u):=by grind
def  kB(n:Nat)(p:Array Nat):Prop:=∀k,p.getD k 0<n
def jk(h0:0<n)(h:q.Perm p)(b:kB n p):kB n q:=λk=>by
 rw[Array.getD_eq_getD_getElem?];cases e:q[k]? with
 |none=>exact h0
 |some x=>
  let⟨j,g,e2⟩:=Array.getElem_of_mem (h.mem_iff.mp (Array.mem_of_getElem? e));have z:=b j;rw[Array.getD_eq_getD_getElem?,Array.getElem?_eq_getElem g,e2]at z;exact z
section
variable{n:Nat}
def wu(b:kB n p):∀(f m:Nat),kIn n (λ_=>True) (kas_asc p f m)
 |0,_=>trivial
 |f+1,m=>⟨b _,b _,λc=>cV trivial (wu b f (m+1))⟩
def nD(h0:0<n):∀(f:Nat)(p:Array Nat)(m q:Nat),kB n p->kIn n (λr=>kB n r.1) (kas_desc f p m q)
 |0,p,_,_,b=>b
 |f+1,p,m,q,b=>⟨b _,b _,λc=>cV (cV (nD h0 f _ _ _ (jk h0 (cU _ _ _) b)) (nD h0 f _ _ _ b)) ⟨b _,b _,λd=>cV b (nD h0 f _ _ _ b)⟩⟩
def xZ(h0:0<n)(b:kB n p)(m r:Nat):kIn n (λz=>kB n z.2) (kas_tail3 m r p):=
 gD _ (gC (λ_ _=>jk h0 (cU _ _ _) b) _ (wu (jk h0 (cU _ _ _) b) _ _))
def x8(h0:0<n)(b:kB n p)(m r:Nat):kIn n (λz=>kB n z.2) (kas_descPart m r p):=
 gD _ (gC (λz g=>cV (xZ h0 (jk h0 (cU _ _ _) g) _ _) (xZ h0 g _ _)) _ (nD h0 _ _ _ _ b))
def BX(h0:0<n)(b:kB n p)(r:Nat):kIn n (λz=>kB n z.2) (kas_count r p):=by
 refine gD _ (gC (λm _=>?_) _ (wu b _ _));refine cV ?_ (cV ⟨b _,b _,λc=>cV ?_ (x8 h0 (jk h0 (cU _ _ _) b) _ _)⟩ (x8 h0 b _ _))
 .exact b
 .exact b
def oO(b:kB n p)(k:Nat):∀(f l r:Nat),kIn n (λ_=>True) (kas_place p k f l r)
 |0,_,_=>trivial
 |f+1,l,r=>by
  unfold kas_place;exact cV trivial ⟨b _,b _,λc=>cV (oO b k f _ _) (oO b k f _ _)⟩
def BY(h0:0<n):∀(f:Nat)(p:Array Nat)(k:Nat),kB n p->kIn n (λ_=>True) (kas_bin f p k)
 |0,_,_,_=>trivial
 |f+1,p,k,b=>gD _ (gC (λl _=>BY h0 f _ _ (jk h0 (bubble_perm _ _ _) b)) _ (oO b k _ _ _))
def rT(h0:0<n):kIn n (λ_=>True) (kas_sort n):=by
 have b:kB n (List.toArray (!20)):=λk=>by
  by_cases h:k<n
  .simp[h]
  .simp[h,h0]
 refine gD _ (gC (λz g=>cV (BY h0 _ _ _ g) ?_) _ (BX h0 b n));exact trivial
end
def rV{ask}(ha:∀i j C,i<n->j<n->C (c i j) s->ask i j C s):
  ∀t:KasT α,kIn n (λ_=>True) t->Q (kRun c t) s->t.kasWp ask Q s
 |.ret _,_,h=>h
 |.ask i j k,z,h=>ha i j _ z.1 z.2.1 (rV ha (k (c i j)) (z.2.2 _) h)
end L2
namespace L2
open PySem PySem.W PyProof.Rows
def  ip(c:Nat->Nat->Bool)(vs:U9):U9:=if vs.length<2 then vs else(kRun c (kas_sort vs.length)).toList.map λi=>vs.getD i .none
structure SortBy(prog:Program)(w:World)(A:Around)(s:Shared)(a:Addr)(vs:U9)(κ:SortKind)(c:Nat->Nat->Bool):Prop where
 kd:∀h',(∀b o,b≠a->s.heap.get? b=!o->h'.get? b=!o)->2<=vs.length->∀(Q:SortKind->Shared->Prop),Q κ {s with heap:=h'}->wpAny (!6) A (keyKind' vs.toArray) Q (λ_ _=>False) {s with heap:=h'}
 cp:∀h',(∀b o,b≠a->s.heap.get? b=!o->h'.get? b=!o)->∀i j,i<vs.length->j<vs.length->∀(Q:Bool->Shared->Prop),Q (c i j) {s with heap:=h'}->wpAny (!6) A (keyLt' κ (vs.getD i .none) (vs.getD j .none)) Q (λ_ _=>False) {s with heap:=h'}
def BZ{prog:Program}{w:World}{A:Around}{E:U8}{s:Shared}(I:s.heap.get? a=!(seqObj "list" g.toArray n))(T:g.length<64)(B:SortBy prog w A s a g κ c)(h:P (.done (.ret .none)) {s with heap:=sortedHeap s.heap a g (ip c g).toArray}):wpAny (!6) A (Builtin.«list.sort» ⟨[.ref a],[]⟩) P E s:=by
 obtain⟨m,hm⟩:∃m,(s.heap.update a (Obj.mapSeq λ_=>#[])).get? a=!(seqObj "list" #[] m):=⟨_,get?_update_seq I λ_=>#[]⟩;have J:(((s.heap.update a (Obj.mapSeq λ_=>#[])).push (seqObj "tuple" g.toArray 0)).push (seqObj "list" #[] 0)).get? a=!_:=
  Vl _ (Vl _ hm)
 have sz:g.toArray.size=g.length:=rfl;have t:g.length<=sizeLine:=by rw[sizeLine_eq];omega
 rw[list_sort_plain];refine Vk (listItems_at I rfl (Vk (listUpdate_at I rfl ?_ (by rw[sz];exact t) (Nat.zero_le _))));refine Vk (seqEpoch_at hm rfl (Vk (wpAny_newTuple ?_ t)));refine Vk (wpAny_newList (wpAny_holding ?_) (Nat.zero_le _));dsimp only;rw[sz];by_cases q:g.length<2
 .rw[if_pos q,if_pos q];refine Vk (Vm ?_);refine Vk (Vm ?_);have e:(arrOf (SortSt.mk' general' (g.toArray.zip g.toArray) #[] 7 none)).map (·.2)=(ip c g).toArray:=by
   unfold ip;rw[if_pos q];show(g.toArray.zip g.toArray).map (·.2)=g.toArray;apply Array.toList_inj.mp;simp only[Array.toList_map,Array.toList_zip];exact List.map_snd_zip (VI _)
  dsimp only;rw[e];refine Vk (seqEpoch_at J rfl (Vk (listUpdate_at J rfl ?_ (Nat.zero_le _) (by unfold ip;rw[if_pos q];show g.length<=_;omega))));simp only[bne_self_eq_false,Bool.false_eq_true,if_false];exact Vm h
 .rw[if_neg q,if_neg q];have kp:∀b o,b≠a->s.heap.get? b=!o->(((s.heap.update a (Obj.mapSeq λ_=>#[])).push (seqObj "tuple" g.toArray 0)).push (seqObj "list" #[] 0)).get? b=!o:=λb o hb I=>
   Vl _ (Vl _ (by rw[Heap.get?_update_ne _ _ _ _ hb];exact I))
  refine Vk (VJ (B.kd _ kp (!1) (λr s'=>r=κ/\s'=_) ⟨rfl,rfl⟩) ?_ λ_ _ z=>z.elim);rintro r _ ⟨e0,rfl⟩;rw[e0];refine Vk (VJ (kat_run (Q:=λl s'=>(arrOf l).map (·.2)=(ip c g).toArray/\failedOf l=none/\(ip c g).length=g.length/\s'=_) rfl (!1) T
   (G:=λp s'=>p=kRun c _/\s'=_) (λp l s' a1 a2 a3 U=>⟨?_,a3,?_,U.2⟩) (rV (λi j C hi hj z=>B.cp _ kp i j hi hj C z) _ (rT (!1)) ⟨rfl,rfl⟩)) ?_ λ_ _ z=>z)
  .rw[kat_snds rfl a2,U.1];unfold ip;rw[if_neg q]
  .unfold ip;rw[if_neg q,length_map,<-U.1,Array.length_toList,a1]
  .rintro⟨⟨⟩,l⟩ _ ⟨e1,e2,e3,rfl⟩;rw[e1];refine Vk (seqEpoch_at J rfl (Vk (listUpdate_at J rfl ?_ (Nat.zero_le _) ?_)))
   .rw[e2];simp only[bne_self_eq_false,Bool.false_eq_true,if_false];exact Vm h
   .show(ip c g).length<=_;omega
def zJ(hl:s.heap.IsList l vs.toArray)(h64:vs.length<64)(B:∀h':Heap,(∀b o,s.heap.get? b=!o->h'.get? b=!o)->SortBy prog w A.in1.in1 {s with heap:=h'} (!13) vs κ c)(h:Q (.ref (!13)) {s with heap:=sortedAll s.heap vs (ip c vs).toArray}):wpAny (!6) A (call (.builtin "sorted") [.ref l]) Q E s:=by
 have z64:vs.length<=sizeLine:=by rw[sizeLine_eq];omega
 refine Calls.call_function_entry kind_sorted plain_sorted entry_sorted (args_sorted1 _) ?_;refine Vk (Vm (Vk (collect_list hl (Vk (wpAny_newList ?_ z64)) z64)));have e:((s.heap.push (seqObj "list" #[] 0)).update s.heap.objs.size (Obj.mapSeq (·++vs.toArray))).objs.size=s.heap.objs.size+1:=by rw[Heap.size_update,size_push']
 have hn:(((s.heap.push (seqObj "list" #[] 0)).update s.heap.objs.size (Obj.mapSeq (·++vs.toArray))).push (seqObj "list" vs.toArray 0)).get? (!13)=!(seqObj "list" vs.toArray 0):=by
  rw[<-e];exact Vo _ rfl
 have kp:∀b o,s.heap.get? b=!o->(((s.heap.push (seqObj "list" #[] 0)).update s.heap.objs.size (Obj.mapSeq (·++vs.toArray))).push (seqObj "list" vs.toArray 0)).get? b=!o:=λb o z=>by
  have lt:=Vn z;exact Vl _ (by rw[Heap.get?_update_ne _ _ _ _ (Nat.ne_of_lt lt)];exact Vl _ z)
 rw[e];refine Vk (wpAny_holding (wpAny_call_entry slot_list_sort ⟨_,hn,rfl⟩ entry_list_sort (BZ hn h64 (B _ kp) ⟨_,rfl,Vm ⟨_,rfl,h⟩⟩) (args_list_sort _)))
def wv:∀a:Vd,HT.lexLt a a=false
 |[]=>rfl
 |x::a=>by rw[HT.lexLt_cons,if_pos rfl];exact wv a
def rW:∀a b:Vd,HT.lexLt a b=true->HT.lexLt b a=false
 |[],[],_=>rfl
 |[],_::_,_=>rfl
 |_::_,[],h=>by cases h
 |x::a,y::b,h=>by
  rw[HT.lexLt_cons]at h⊢;by_cases q:x=y
  .rw[if_pos q]at h;rw[if_pos q.symm];exact rW a b h
  .rw[if_neg q]at h;rw[if_neg (Ne.symm q)];have:=Vt h;exact decide_eq_false (!1)
def oP:∀k j i:Vd,HT.lexLt k j=true->HT.lexLt i j=false->HT.lexLt k i=true
 |[],[],_,h,_=>by cases h
 |_::_,[],_,h,_=>by cases h
 |_,_::_,[],_,h=>by cases h
 |[],_::_,_::_,_,_=>rfl
 |x::k,y::j,z::i,h,g=>by
  rw[HT.lexLt_cons]at h g⊢;by_cases q:x=y
  .rw[if_pos q]at h;by_cases r:z=y
   .rw[if_pos r]at g;rw[if_pos (q.trans r.symm)];exact oP k j i h g
   .rw[if_neg r]at g;have:=of_decide_eq_false g;rw[if_neg (!1)];exact decide_eq_true (!1)
  .rw[if_neg q]at h;have h:=Vt h;by_cases r:z=y
   .rw[if_neg (!1)];exact decide_eq_true (!1)
   .rw[if_neg r]at g;have:=of_decide_eq_false g;rw[if_neg (!1)];exact decide_eq_true (!1)
def JS(h:HT.lexLt a b=true)(g:HT.lexLt b c=true):HT.lexLt a c=true:=oP a b c h (rW b c g)
def rX:∀a b:Vd,HT.lexLt a b=false->HT.lexLt b a=false->a=b
 |[],[],_,_=>rfl
 |[],_::_,h,_=>by cases h
 |_::_,[],_,h=>by cases h
 |x::a,y::b,h,g=>by
  rw[HT.lexLt_cons]at h g;by_cases q:x=y
  .rw[if_pos q]at h;rw[if_pos q.symm]at g;rw[q,rX a b h g]
  .rw[if_neg q]at h;rw[if_neg (Ne.symm q)]at g;have:=of_decide_eq_false h;have:=of_decide_eq_false g;omega
def JT{l:Vb}(h:∀x,p x=true->q x=true)(g:y∈l)(h1:q y=true)(h2:p y=false):l.countP p<l.countP q:=by
 induction l with
 |nil=>cases g
 |cons a l j=>
  have m:l.countP p<=l.countP q:=List.countP_mono_left λx _ z=>h x z;rcases mem_cons.mp g with rfl|g
  .rw[List.countP_cons,List.countP_cons,h1,h2];simp;omega
  .have:=j g;rw[List.countP_cons,List.countP_cons];have z:(if p a=true then 1 else 0)<=(if q a=true then 1 else 0):=by
    cases e:p a with
    |true=>rw[h a e];simp
    |false=>simp
   omega
def  rk(n:Nat)(f:Nat->Vd)(i:Nat):Int:=(((!20).countP λk=>HT.lexLt (f k) (f i):Nat):Int)
def HI(hi:i<n):HT.lexLt (f i) (f j)=kC (rk n f) i j:=by
 unfold kC rk;cases e:HT.lexLt (f i) (f j)with
 |true=>
  refine(decide_eq_true ?_).symm;have:=JT (λx h=>JS h e) (VG.mpr hi) e (wv _);omega
 |false=>
  refine(decide_eq_false ?_).symm;have:(!20).countP (λk=>HT.lexLt (f k) (f j))<=(!20).countP (λk=>HT.lexLt (f k) (f i)):=List.countP_mono_left λx _ h=>oP _ _ _ h e;omega
def oQ(h:∀i j,i<n->j<n->c i j=c' i j):∀t:PySem.W.KasT α,kIn n (λ_=>True) t->kRun c t=kRun c' t
 |.ret _,_=>rfl
 |.ask i j k,z=>by
  show kRun c (k (c i j))=kRun c' (k (c' i j));rw[h i j z.1 z.2.1];exact oQ h _ (z.2.2 _)
def  qa(f:Nat->Vd)(i j:Nat):Bool:=HT.lexLt (f i) (f j)
def dH(f:Nat->Vd)(t:1<=n):(kRun (qa f) (PySem.W.kas_sort n)).toList.Perm (!20)/\(kRun (qa f) (PySem.W.kas_sort n)).toList.Pairwise (λa b=>HT.lexLt (f b) (f a)=false):=by
 rw[oQ (c:=qa f) (λi j hi o=>HI hi) _ (rT t)];let⟨h1,h2⟩:=FE t;generalize kRun (kC (rk n f)) (PySem.W.kas_sort n)=p at h1 h2;have l:p.toList.Perm (!20):=by simpa using h1.toList
 refine⟨l,List.pairwise_iff_getElem.mpr λi j hi o r=>?_⟩;have C:p.toList.length=n:=by rw[l.length_eq,length_range]
 have z:=h2 i j (VF r) (!1);have e:∀k (g:k<p.toList.length),p.getD k 0=p.toList[k]:=λk g=>by
  have:k<p.size:=by omega
  simp[Array.getD,this]
 unfold kG at z;rw[e i hi,e j o]at z;have m:∀k (g:k<p.toList.length),p.toList[k]<n:=λk g=>VG.mp (l.mem_iff.mp (List.getElem_mem g));rw[HI (m j o)];exact decide_eq_false (!1)
def  lg:D->Option (Option Nat×List Int)
 |.int i=>!(none,[i])
 |.tup ds=>(a8 ds).bind λns=>!(!ns.length,ns)
 |_=>none
def  gh:Vg->Option (List (Option Nat)×List Int)
 |[]=>!([],[])
 |d::ds=>(lg d).bind λa=>(gh ds).bind λr=>!(a.1::r.1,a.2++r.2)
def  qI:D->Option (List (Option Nat)×List Int)
 |.tup ds=>gh ds
 |_=>none
def dA:∀{ds:Vg}{ns:Vd},a8 ds=!ns->ds=ns.map D.int
 |[],ns,h=>by cases h;rfl
 |d::ds,ns,h=>by
  cases d with
  |int i=>
   let⟨ms,e1,e2⟩:=VL (show(a8 ds).bind (λxs=>!(i::xs))=some ns from h);cases e2;rw[dA e1];rfl
  |_=>cases h
def zK(h:lg d=!(a,f))(g:lg e=!(a,f)):d=e:=by
 cases d with
 |int i=>
  cases h;cases e with
  |int j=>cases g;rfl
  |tup es=>let⟨l,_,z⟩:=VL g;cases z
  |_=>cases g
 |tup ds=>
  let⟨l,h1,h2⟩:=VL h;cases h2;cases e with
  |int j=>cases g
  |tup es=>
   let⟨o,g1,g2⟩:=VL g;injection g2 with g2;injection g2 with g3 g4;subst g4;rw[dA h1,dA g1]
  |_=>cases g
 |_=>cases h
def  Ur:Option Nat->Nat
 |none=>1
 |some n=>n
def jm(h:lg d=!(a,f)):f.length=Ur a:=by
 cases d with
 |int i=>cases h;rfl
 |tup ds=>let⟨g,h1,h2⟩:=VL h;cases h2;rfl
 |_=>cases h
def oR:∀{ds es:Vg}{sh:List (Option Nat)}{f:Vd},gh ds=!(sh,f)->gh es=!(sh,f)->ds=es
 |[],[],_,_,_,_=>rfl
 |[],e::es,_,_,h,g=>by
  cases h;let⟨a,_,g⟩:=VL g;let⟨r,_,g⟩:=VL g;cases g
 |d::ds,[],_,_,h,g=>by
  cases g;let⟨a,_,h⟩:=VL h;let⟨r,_,h⟩:=VL h;cases h
 |d::ds,e::es,sh,f,h,g=>by
  let⟨⟨a,x⟩,h1,h⟩:=VL h;let⟨⟨r,y⟩,h2,h⟩:=VL h;cases h;let⟨⟨a',x'⟩,g1,g⟩:=VL g;let⟨⟨r',y'⟩,g2,g⟩:=VL g;injection g with g;injection g with ga gb;injection ga with ga1 ga2;dsimp only at ga1 ga2 gb;subst ga1 ga2;let⟨q1,q2⟩:=List.append_inj gb ((jm g1).trans (jm h1).symm);subst q1 q2;rw[zK h1 g1,oR h2 g2]
def  flt(d:D):Vd:=match qI d with
 |some (_,f)=>f
 |none=>[]
def  cW(ds:Vg):Prop:=∃sh,sh≠[]/\∀d∈ds,∃f,qI d=!(sh,f)
instance (ds:Vg):Decidable (cW ds):=Classical.propDecidable _
def  qb(ds:Vg):Vg:=ds.mergeSort λa b=>not (HT.lexLt (flt b) (flt a))
def  uo:Vg->U7:=tw λd=>(kR d).bind λds=>if ds.length<64/\cW ds then !(qb ds)else none
def B0(h:cW ds)(o:a∈ds)(l:b∈ds)(e:flt a=flt b):a=b:=by
 let⟨sh,_,z⟩:=h;let⟨f,j⟩:=z a o;let⟨g,e2⟩:=z b l;unfold flt at e;rw[j,e2]at e;subst e;cases a with
 |tup as=>
  cases b with
  |tup p=>rw[oR (j) (e2)]
  |_=>cases e2
 |_=>cases j
def lW(ds:Vg):(qb ds).Perm ds:=List.mergeSort_perm _ _
def uq(ds:Vg):(qb ds).Pairwise λa b=>HT.lexLt (flt b) (flt a)=false:=by
 refine(List.pairwise_mergeSort (λa b c h1 h2=>?_) (λa b=>?_) ds).imp λh=>by simpa using h
 .simp only[Bool.not_eq_true']at h1 h2⊢;cases e:HT.lexLt (flt c) (flt a)with
  |false=>rfl
  |true=>rw[oP _ _ _ e h1]at h2;cases h2
 .cases e:HT.lexLt (flt b) (flt a)with
  |false=>rfl
  |true=>rw[rW _ _ e];rfl
def rY(h:cW ds)(h1:g.Perm ds)(h2:g.Pairwise λa b=>HT.lexLt (flt b) (flt a)=false):g=qb ds:=
 List.Perm.eq_of_pairwise (λa b l j x y=>B0 h (h1.mem_iff.mp l) ((lW ds).mem_iff.mp j) (rX _ _ y x)) h2 (uq ds) (h1.trans (lW ds).symm)
def bO{α:Type}(x:α):∀l:List α,(List.range l.length).map (λi=>l.getD i x)=l:=λl=>by
 apply List.ext_getElem
 .simp
 grind
def ur(h:cW ds)(g:1<=ds.length):(kRun (qa λi=>flt (ds.getD i .non)) (PySem.W.kas_sort ds.length)).toList.map (λi=>ds.getD i .non)=qb ds:=by
 let⟨h1,h2⟩:=dH (λi=>flt (ds.getD i .non)) g;refine rY h ?_ (List.pairwise_map.mpr h2);have:=h1.map λi=>ds.getD i .non;rwa [bO]at this
section
variable{X:Cx}{pins:U5}{σ:St}{H:Hp}{s:Shared}
def ww:∀{a b:Vd}(x y:Vd),a.length=b.length->HT.lexLt (a++x) (b++y)=if a=b then HT.lexLt x y else HT.lexLt a b
 |[],[],x,y,_=>by rw[if_pos rfl];rfl
 |[],_::_,_,_,h=>by cases h
 |_::_,[],_,_,h=>by cases h
 |u::a,v::b,x,y,h=>by
  rw[List.cons_append,List.cons_append,HT.lexLt_cons,HT.lexLt_cons,ww x y (Nat.succ.inj h)];by_cases q:u=v
  .rw[if_pos q,if_pos q];by_cases r:a=b
   .rw[if_pos r,if_pos (by rw[q,r])]
   .rw[if_neg r,if_neg (λz=>r (List.cons.inj z).2)]
  .rw[if_neg q,if_neg q,if_neg (λz=>q (List.cons.inj z).1)]
def ut:∀(a b:Vd),qD (a.map D.int) (b.map D.int)=decide (a=b)
 |[],[]=>by simp[qD]
 |[],_::_=>by simp[qD]
 |_::_,[]=>by simp[qD]
 |x::a,y::b=>by
  show((x==y)&&qD (a.map D.int) (b.map D.int))=_;rw[ut a b];by_cases q:x=y
  .by_cases r:a=b
   .simp[q,r]
   .simp[q,r]
  .simp[q]
def oS(h:lg d=!z):ke d=true/\mK d<=1:=by
 cases d with
 |int i=>exact⟨rfl,Nat.zero_le _⟩
 |tup ds=>
  let⟨g,h1,_⟩:=VL h;rw[dA h1];have:∀g:Vd,pV (g.map D.int)=true/\dU (g.map D.int)<=0:=λg=>by
   induction g with
   |nil=>exact⟨rfl,VI _⟩
   |cons n g j=>
    refine⟨?_,?_⟩
    .show(ke (.int n)&&pV (g.map D.int))=true;rw[j.1];rfl
    .show max (mK (.int n)) (dU (g.map D.int))<=0;have:mK (.int n)=0:=rfl;omega
  exact⟨(this g).1,by have:=(this g).2;show dU _+1<=1;omega⟩
 |_=>cases h
def B3(I:Inv X pins σ H s)(hu:A.units+1<cLine)(h1:lg d=!(a,f))(h2:lg e=!(a,g))(J:Is X.K H d x)(C:Is X.K H e y)(rx:RelV x p)(r:RelV y q):
  SeqAt.EqAt A s p q (decide (f=g))/\∀(b:Bool)(Q:Bool->Shared->Prop),(b=true->a=none)->Q (HT.lexLt f g) s->wpAny (!4) A (oneLt' b p q) Q (λ_ _=>False) s:=by
 have eq:=Bd I 1 A d e x y p q (oS h1).2 (!1) (oS h1).1 (oS h2).1 J C rx r
 cases d with
 |int i=>
  cases h1;cases e with
  |int j=>
   cases h2;refine⟨?_,λb Q hb T=>?_⟩
   .have z:m7 (.int i) (.int j)=decide ([i]=[j]):=by
     show(i==j)=_;by_cases c:i=j
     .simp[c]
     .simp[c]
    rw[<-z];exact eq
   .cases(J);cases(C);let⟨t,rfl⟩:=rx;let⟨u,rfl⟩:=r;have l:Q (decide (i<j)) s:=by
     have z:HT.lexLt [i] [j]=decide (i<j):=by
      rw[HT.lexLt_cons];by_cases c:i=j
      .rw[if_pos c];exact(decide_eq_false (!1)).symm
      .rw[if_neg c]
     rw[<-z];exact T
    cases b with
    |true=>exact oneLt_int l
    |false=>exact PySem.W.kat_one _ _ (lt_int l)
  |tup es=>let⟨ms,_,z⟩:=VL h2;cases z
  |_=>cases h2
 |tup ds=>
  let⟨ns,h3,o⟩:=VL h1;injection o with o;injection o with o h4';subst o h4';cases e with
  |int j=>cases h2
  |tup es=>
   let⟨ms,h5,U⟩:=VL h2;injection U with U;injection U with h7 h8;subst h8;refine⟨?_,λb Q hb T=>?_⟩
   .have z:m7 (.tup ds) (.tup es)=decide (ns=ms):=by
     show qD ds es=_;rw[dA h3,dA h5,ut]
    rw[<-z];exact eq
   .cases b with
    |true=>cases hb rfl
    |false=>
     let⟨a1,xs,rfl,t1,l1⟩:=J;let⟨a2,ys,rfl,t2,l2⟩:=C;rw[asInts_is h3 l1]at t1;rw[asInts_is h5 l2]at t2;cases rx;cases r;let⟨its,r1,p1,_⟩:=I.tuple t1;let⟨its2,r2,p2,_⟩:=I.tuple t2;exact PySem.W.kat_one _ _ (HT.lt_tupInts p1 p2 (xW r1) (xW r2) (!1) T)
  |_=>cases h2
 |_=>cases h1
def qJ(I:Inv X pins σ H s)(hu:A.units+1<cLine):∀{ds es:Vg}{sh:List (Option Nat)}{f g:Vd}{xs ys:List V}{ps qs:U9}(i:Nat),gh ds=!(sh,f)->gh es=!(sh,g)->IsL X.K H ds xs->IsL X.K H es ys->Vals xs ps->Vals ys qs->
  (b=true->i=0->sh.head?=!none)->fin=false->Q (HT.lexLt f g) s->PySem.W.KatLex X.prog X.w A b fin Q (ps.zip qs) i s
 |[],[],sh,f,g,xs,ys,ps,qs,i,h1,h2,l1,l2,r1,r2,hb,hf,hq=>by
  cases h1;cases h2;cases(show xs=[]from l1);cases(show ys=[]from l2);cases r1;cases r2;rw[hf];exact hq
 |[],e::es,sh,f,g,xs,ys,ps,qs,i,h1,h2,l1,l2,r1,r2,hb,hf,hq=>by
  cases h1;let⟨a,_,h2⟩:=VL h2;let⟨r,_,h2⟩:=VL h2;cases h2
 |d::ds,[],sh,f,g,xs,ys,ps,qs,i,h1,h2,l1,l2,r1,r2,hb,hf,hq=>by
  cases h2;let⟨a,_,h1⟩:=VL h1;let⟨r,_,h1⟩:=VL h1;cases h1
 |d::ds,e::es,sh,f,g,xs,ys,ps,qs,i,h1,h2,l1,l2,r1,r2,hb,hf,hq=>by
  let⟨⟨a,f1⟩,h3,h1⟩:=VL h1;let⟨⟨s1,f2⟩,h4,h1⟩:=VL h1;cases h1;let⟨⟨a',g1⟩,h5,h2⟩:=VL h2;let⟨⟨s2,g2⟩,h6,h2⟩:=VL h2;injection h2 with h2;injection h2 with h7 h8;injection h7 with h9 h10;dsimp only at h8 h9 h10;subst h8 h9 h10;let⟨x,xr,rfl,ix,l1⟩:=l1;let⟨y,yr,rfl,iy,l2⟩:=l2;cases r1 with
  |cons rx r1=>
   cases r2 with
   |cons ry r2=>
    let⟨c1,c2⟩:=B3 I hu h3 h5 ix iy rx ry;dsimp only at hq;rw[ww f2 g2 ((jm h3).trans (jm h5).symm)]at hq;rw[List.zip_cons_cons];refine PySem.W.kat_cons (c1 X.prog X.w _ _ ?_);by_cases q:f1=g1
    .rw[if_pos q]at hq;rw[decide_eq_true q];exact PySem.W.kat_yes (qJ I hu (i+1) h4 h6 l1 l2 r1 r2 (λ_ z=>absurd z (!1)) hf hq)
    .rw[if_neg q]at hq;rw[decide_eq_false q];refine PySem.W.kat_no (c2 _ _ (λz=>?_) hq);rw[and_eq_true,beq_iff_eq]at z;have:=hb z.1 z.2;injection this
end
section
variable{X:Cx}{a:Expr}{p pos:Pos}
def gE{as:List α}{bs:List β}(h:Paired F as bs)(hi:i<as.length)(x:α)(y:β):F (as.getD i x) (bs.getD i y):=by
 let⟨z,e,f⟩:=gQ h (getElem?_eq_getElem hi);grind
def dW{as:List α}{bs:List β}(h:Paired F as bs)(x:α)(y:β):∀{l:Vb},(∀i∈l,i<as.length)->Paired F (l.map λi=>as.getD i x) (l.map λi=>bs.getD i y)
 |[],_=>.nil
 |i::l,z=>.cons (gE h (z i Vr) x y) (dW h x y λj hj=>z j (Vs _ hj))
def oT(h:qI d=!z):∃ds,d=.tup ds/\gh ds=!z:=by
 cases d with
 |tup ds=>exact⟨ds,rfl,h⟩
 |_=>cases h
def  kindT(sh:List (Option Nat)):Bool:=decide (sh.head?=!none)
def x9{σ:St}(I:Inv X pins σ H s)(hu:A.units+1<cLine)(p:IsL X.K H ds xs)(r:Vals xs T)(hne:sh≠[])(hs:∀d∈ds,∃f,qI d=!(sh,f)){a:Addr}(ha:s.heap.objs.size<=a)(h1:Heap)(k1:∀b o,s.heap.get? b=!o->h1.get? b=!o):SortBy X.prog X.w A {s with heap:=h1} a T (tuples' (kindT sh)) (qa λi=>flt (ds.getD i .non)):=by
 have keep:∀h',(∀b o,b≠a->h1.get? b=!o->h'.get? b=!o)->Inv X pins σ H {s with heap:=h'}:=λh' k=>I.kept λb o q=>k b o (Vy (Vu (Vn q) ha)) (k1 b o q);have len1:=p.len;have len2:=r.length;refine⟨λh' k h2 Q U=>?_,λh' k i j hi hj Q U=>?_⟩
 .have J:=keep h' k;-- the first items
  have first:∀{ds:Vg}{xs:List V}{T:U9},IsL X.K H ds xs->Vals xs T->(∀d∈ds,∃f,qI d=!(sh,f))->∃fs,PySem.W.KatTups h' T fs/\fs.length=T.length/\∀v∈fs,∀M,PySem.W.Looks M h' (typeOf v) (if kindT sh then .type "int"else .type "tuple"):=by
   intro ds;induction ds with
   |nil=>
    intro xs T p r _;cases(p);cases r;exact⟨[],trivial,rfl,λ_ z=>nomatch z⟩
   |cons d ds ih=>
    intro xs T p r hs;let⟨x,xr,rfl,ix,p⟩:=p;cases r with
    |cons rx r=>
     let⟨fs,q1,q2,q3⟩:=ih p r λe he=>hs e (Vs _ he);let⟨f,e⟩:=hs d Vr;let⟨is,rfl,e⟩:=oT e;let⟨b,ys,rfl,t,l⟩:=ix;cases rx;let⟨its,rv,⟨o,p1,p2,n,p3⟩,_⟩:=J.tuple t;cases is with
     |nil=>cases e;exact absurd rfl hne
     |cons i0 is=>
      let⟨⟨a0,f1⟩,C,e⟩:=VL e;let⟨⟨s1,f2⟩,e2,e⟩:=VL e;cases e;let⟨y,yr,rfl,iy,l⟩:=l;cases rv with
      |@cons _ v _ vr ry rv=>
       refine⟨v::fs,⟨⟨b,o,_,n,rfl,p1,p2,p3,rfl⟩,q1⟩,by rw[length_cons,length_cons,q2],λv' hv M=>?_⟩;rcases mem_cons.mp hv with rfl|hv
       .cases i0 with
        |int i=>
         cases C;cases(iy);let⟨tk,rfl⟩:=ry;exact PySem.W.Looks.of_pure rfl
        |tup js=>
         let⟨ns,_,z⟩:=VL C;cases z;let⟨c,zs,rfl,t2,l2⟩:=iy;cases ry;let⟨its2,rv2,⟨o2,w1,w2,_⟩,_⟩:=J.tuple t2;rw[<-w2];exact(PySem.W.Looks.ld w1).andThen .now
        |_=>cases C
       .exact q3 v' hv M
  let⟨fs,q1,q2,q3⟩:=first p r hs
  refine PySem.W.kat_kind q1 (!1) (λv hv=>q3 v hv _) (by cases kindT sh<;>decide) ?_;have e:((if kindT sh then Value.type "int"else .type "tuple") !=Value.type "tuple")=kindT sh:=by cases kindT sh<;>decide
  rw[e];exact U
 .have J:=keep h' k;have hi':i<ds.length:=by omega
  have hj':j<ds.length:=by omega
  have ix:=gE p.paired hi' .non .non;have iy:=gE p.paired hj' .non .non;have rx:=gE r (i:=i) (!1) .non .none;have ry:=gE r (i:=j) (!1) .non .none;let⟨f,C⟩:=hs (ds.getD i .non) (by rw[List.getD_eq_getElem?_getD,getElem?_eq_getElem hi'];exact List.getElem_mem hi');let⟨g,e2⟩:=hs (ds.getD j .non) (by rw[List.getD_eq_getElem?_getD,getElem?_eq_getElem hj'];exact List.getElem_mem hj');have U:Q (HT.lexLt (flt (ds.getD i .non)) (flt (ds.getD j .non))) {s with heap:=h'}:=U;generalize ds.getD i .non=d at ix C U;generalize ds.getD j .non=e at iy e2 U;generalize xs.getD i .non=x at ix rx;generalize xs.getD j .non=y at iy ry;generalize T.getD i .none=u at rx;generalize T.getD j .none=v at ry;unfold flt at U;rw[C,e2]at U;let⟨as,rfl,C⟩:=oT C;let⟨bs,rfl,e2⟩:=oT e2;let⟨b1,x1,rfl,t1,l1⟩:=ix;let⟨b2,x2,rfl,t2,l2⟩:=iy;cases rx;cases ry;let⟨it1,rv1,⟨o1,p1,_,n1,p3⟩,_⟩:=J.tuple t1;let⟨it2,rv2,⟨o2,w1,_,n2,w3⟩,_⟩:=J.tuple t2;have sz:∀{ds:Vg}{sh:List (Option Nat)}{f:Vd},gh ds=!(sh,f)->ds.length=sh.length:=λ{ds}=>by
   induction ds with
   |nil=>intro sh f h;cases h;rfl
   |cons d ds ih=>
    intro sh f h;let⟨z,_,h⟩:=VL h;let⟨⟨r1,r2⟩,h2,h⟩:=VL h;cases h;rw[length_cons,length_cons,ih h2]
  have z1:it1.length=sh.length:=by rw[<-rv1.length,<-l1.len,sz C]
  have z2:it2.length=sh.length:=by rw[<-rv2.length,<-l2.len,sz e2]
  refine PySem.W.kat_lt p1 p3 w1 w3 (qJ J hu 0 C e2 l1 l2 rv1 rv2 (λhb _=>Vt hb) (decide_eq_false ?_) U);show¬it1.length<it2.length;omega
def  JU(K:Frag):List V->Hp->VK->Prop:=λvs H Q=>∃l ds xs,vs=[.ref l]/\SqL K H l xs/\IsL K H ds xs/\ds.length<64/\cW ds/\
 ∀(q:Addr)(ls:Vb),H q=none->(∀i∈ls,i<ds.length)->ls.map (λi=>ds.getD i .non)=qb ds->Q (.ref q) (aR H q (.lst (ls.map λi=>xs.getD i .non)))
def pw_1{α:Type}{R:α->α->Prop}:∀{l:List α},l.length<2->l.Pairwise R
 |[],_=>.nil
 |[_],_=>List.pairwise_singleton _ _
def wx{k:Nat}(hr:Room k X.A):fC X (.builtin "sorted") (JU X.K):=by
 intro pins s σ H xs us Q I r h;let⟨l,ds,ys,rfl,hx,C,h64,p,q⟩:=h;let⟨u,rfl,T⟩:=fE r;cases T;let⟨g,rv,pl,hz⟩:=I.list hx;have hl:=rv.length;have hd:=C.len;let⟨sh,t,j⟩:=id p;refine zJ (κ:=tuples' (kindT sh)) (c:=qa λi=>flt (ds.getD i .non)) pl.isList (!1) (λh' U=>x9 I (by have:=hr.un;show X.A.units+1+1+1<_;omega) C rv t j (Nat.le_succ _) h' U) ?_;obtain⟨ls,e1,e2,J⟩:∃ls:Vb,ip (qa λi=>flt (ds.getD i .non)) g=ls.map (λi=>g.getD i .none)/\(∀i∈ls,i<ds.length)/\ls.map (λi=>ds.getD i .non)=qb ds:=by
  unfold ip;by_cases c:g.length<2
  .rw[if_pos c];refine⟨List.range g.length,(bO _ _).symm,λi hi=>by have:=VG.mp hi;omega,?_⟩;rw[show g.length=ds.length by omega,bO];refine rY p (.refl _) ?_;exact pw_1 (!1)
  .rw[if_neg c];refine⟨_,rfl,λi hi=>?_,?_⟩
   .have:=VG.mp ((dH _ (!1)).1.mem_iff.mp hi);omega
   .rw[show g.length=ds.length by omega];exact ur p (!1)
 rw[e1];let⟨e,he⟩:=sortedAll_at s.heap g (ls.map λi=>g.getD i .none).toArray;have fr:H (!13)=none:=I.hok.fresh (Nat.le_succ _);have hln:(ls.map λi=>ys.getD i V.non).length<64:=by
  have:=congrArg List.length J;rw[length_map,(lW ds).length_eq]at this;rw[length_map];omega
 refine⟨.ref _,_,I.laid (t':=s.toks) (λb o q=>sortedAll_old q) (Nat.le_succ _) (o:=.lst (ls.map λi=>ys.getD i V.non)) ⟨?_,ls.map (λi=>g.getD i .none),e,dW rv .non .none (λi hi=>by have:=e2 i hi;omega),by simpa using he⟩,rfl,q _ ls fr e2 J⟩;have:(64:Nat)<=sizeLine:=by decide
 omega
def B4(hr:Room k X.A)(hg:Gl X "sorted")(hm:X.mg "sorted"=none)(ha:PX X [a] fa)(g:starEach [a] X.env=[(false,eval a X.env)]):
  PF X (.Call (.Name "sorted" p) [a] [] pos) (λY=>(fa Y).bind uo):=λO Y=>(nV (wx hr) hg hm wq (ha O Y) (!2) (!2) (by rw[g];rfl) rfl).imp λσ H Q ⟨E,ds,q,k⟩=>by
 let⟨as,e1,q⟩:=VL q
 refine⟨E,as,e1,λvs H1 C il=>?_⟩
 let⟨c,rfl,U⟩:=bc q
 let⟨xs,T,J⟩:=VL U
 let⟨⟨o,g⟩,I⟩:=ay J
 subst I
 let⟨v,rfl,h⟩:=t9 il
 let⟨l,ys,rfl,t,r⟩:=cc T h
 refine⟨l,xs,ys,rfl,msk_le.seq t,r.full,o,g,λb ls hb j e=>k b _ H1 C hb ?_⟩
 rw[<-e]
 exact IsL.of (dW r.paired .non .non j)
def  cX(ds:Vg):U7:=match k9 ds with
 |some r=>!r
 |none=>uo ds
def nE(h:k9 ds=!r):cX ds=!r:=by unfold cX;rw[h]
def FG(h:k9 ds=none)(g:uo ds=!r):cX ds=!r:=by unfold cX;rw[h];exact g
def B5(t:Room k X.A)(l:Gl X "sorted")(j:X.mg "sorted"=none)(o:PX X [a] fa)(g:starEach [a] X.env=[(false,eval a X.env)]):
  PF X (.Call (.Name "sorted" p) [a] [] pos) (λY=>(fa Y).bind cX):=λO Y=>by
 have h1:=FD (p:=p) (pos:=pos) l j o g O Y
 have h2:=B4 (p:=p) (pos:=pos) t l j o g O Y
 dsimp only at h1 h2⊢
 cases e:fa Y with
 |none=>rw[e]at h1;exact h1
 |some ds=>
  rw[e]at h1 h2;cases e2:k9 ds with
  |some r=>
   have z:(!ds).bind cX=(!ds).bind k9:=by show cX ds=k9 ds;rw[nE e2,e2]
   rw[z];exact h1
  |none=>
   have z:(!ds).bind cX=(!ds).bind uo:=by show cX ds=uo ds;unfold cX;rw[e2]
   rw[z];exact h2
end
section
variable{X:Cx}{a:Expr}{p p2 pos pos2:Pos}
def oU:∀(l:U9)(k:Int),(∀(i:Nat)(v:Value),l[i]?=!v->∃t,v=Value.int (k+(i:Int)) t)->Vals ((List.range l.length).map λ(i:Nat)=>V.int (k+(i:Int))) l
 |[],_,_=>.nil
 |v::l,k,h=>by
  rw[length_cons,List.range_succ_eq_map,List.map_cons,List.map_map];let⟨t,e⟩:=h 0 v rfl;refine .cons ⟨t,by simpa using e⟩ ?_;have:=oU l (k+1) λi w q=>by
   let⟨t,e⟩:=h (i+1) w (by simpa using q);exact⟨t,by rw[e];congr 1;omega⟩
  have e2:((List.range l.length).map λ(i:Nat)=>V.int (k+1+(i:Int)))=(List.range l.length).map ((λ(i:Nat)=>V.int (k+(i:Int)))∘Nat.succ):=by
   apply List.map_congr_left;intro i _;show V.int _=V.int _;congr 1;simp;omega
  rw[<-e2];exact this
def  Us(ta:TA):TE:=λσ H Q=>ta σ H λvs H1=>∃j:Int,vs=[.int j]/\HA j/\j<1000000/\∀q,H1 q=none->Q (.ref q) (aR H1 q (.lst ((List.range j.toNat).map λ(i:Nat)=>V.int (i:Int))))
def FH(hc:X.calm=true)(hg:Gl X "list")(hm:X.mg "list"=none)(U:Gl X "range")(J:X.mg "range"=none)(ha:PA X [a] ta)(hs:starEach [a] X.env=[(false,eval a X.env)]):
  PE X (.Call (.Name "list" p) [.Call (.Name "range" p2) [a] [] pos2] [] pos) (Us ta):=by
 intro pins s σ H Q I h
 refine wpAny_Call_Name_kw (dq I hg hm Na (PyProof.Rows.callWith_type1 ?_ rfl rfl))
 show wpAny _ _ (spliced ((false,eval (.Call (.Name "range" p2) [a] [] pos2) X.env)::[])) _ _ s
 refine Calls.spliced_cons ?_
 refine wpAny_Call_Name_kw (dq I U J boot_range (PyProof.Rows.callWith_type1 (bw (ha pos2 pins s σ H _ I h) λus l ⟨vs,H1,I1,r1,q1⟩=>?_) (by rw[hs];rfl) rfl))
 let⟨j,rfl,hj,hj2,q⟩:=q1
 let⟨u,rfl,ru⟩:=fE r1
 let⟨t,rfl⟩:=ru
 have r:=hj
 refine call_range_1 (Calls.spliced_nil ?_)
 have up:∀d o,l.heap.get? d=!o->(l.heap.push {cls:=.type "range",data:=.fields #[.int 0 l.toks,.int j t,.int 1 (l.toks+1)]}).get? d=!o:=λd o e=>Vl _ e
 have I2:Inv X pins σ H1 {l with heap:=l.heap.push {cls:=.type "range",data:=.fields #[.int 0 l.toks,.int j t,.int 1 _]},toks:=l.toks+1+1}:=I1.kept up
 have hn:Builtin.Range.rangeSize 0 j 1=(j.toNat:Nat):=by rw[rangeSize_one];split<;>omega
 refine call_list_range (I1.ok.hd hc) (IsRange.new ..) (small_one (!1) (!1) r.1 r.2) hn (!1) λg tk C c k T hi=>?_
 have fr:H1 (l.heap.push {cls:=.type "range",data:=.fields #[.int 0 l.toks,.int j t,.int 1 _]}).objs.size=none:=I2.hok.fresh (VI _)
 refine⟨.ref _,_,I2.laid (o:=.lst ((List.range j.toNat).map λ(i:Nat)=>V.int (i:Int))) k (VI _) ⟨?_,C.toList,c,?_,by simpa using T⟩,rfl,q _ fr⟩
 .rw[length_map,length_range,sizeLine_eq];omega
 .have:=oU C.toList 0 λi v e=>by
   let⟨t,z⟩:=hi.2 i v (by rw[<-Array.getElem?_toList];exact e);exact⟨t,by rw[z];congr 1;omega⟩
  rw[Array.length_toList,hi.1]at this;simpa using this
def  Py:Vg->U7:=tw λd=>(oz d).bind λj=>if HA j/\j<1000000 then !(m6 0 j.toNat)else none
def FI(hc:X.calm=true)(U:Gl X "list")(T:X.mg "list"=none)(l:Gl X "range")(g:X.mg "range"=none)(ha:PX X [a] fa)(J:starEach [a] X.env=[(false,eval a X.env)]):
  PF X (.Call (.Name "list" p) [.Call (.Name "range" p2) [a] [] pos2] [] pos) (λY=>(fa Y).bind Py):=λO Y=>(FH hc U T l g (ha O Y) J).imp λσ H Q ⟨E,ds,q,k⟩=>by
 let⟨as,e1,q⟩:=VL q
 refine⟨E,as,e1,λvs H1 o I=>?_⟩
 let⟨c,rfl,C⟩:=bc q
 let⟨j,t,r⟩:=VL C
 let⟨h1,h2⟩:=ay r
 subst h2
 let⟨v,rfl,h⟩:=t9 I
 cases intD_some t
 refine⟨j,by rw[show v=.int j from h],h1.1,h1.2,λb hb=>k b _ H1 o hb ?_⟩
 have e:m6 0 j.toNat=((List.range j.toNat).map λ(i:Nat)=>(i:Int)).map D.int:=by unfold m6;rw[List.map_map];apply List.map_congr_left;intro i _;simp
 have e2:((List.range j.toNat).map λ(i:Nat)=>V.int (i:Int))=((List.range j.toNat).map λ(i:Nat)=>(i:Int)).map V.int:=by rw[List.map_map];rfl
 rw[e,e2]
 exact oJ _
end
def  HJ:List V->Hp->VK->Prop:=λxs H Q=>∃b:Bool,xs=[.bl b]/\Q (.int (if b then 1 else 0)) H
def call_intB{X:Cx}:fC X (.type "int") HJ:=by
 intro pins s σ H xs us Q I r h;let⟨b,rfl,q⟩:=h;let⟨u,rfl,ru⟩:=fE r;cases(ru);refine call_int_bool ?_;exact⟨.int _,H,I.kept λb o ho=>ho,⟨_,rfl⟩,q⟩
def  uu:Vg->Vi:=tw λd=>d.asB.bind λb=>!(.int (if b then 1 else 0))
def rn_intB{X:Cx}:EM X.K HJ uu:=λO H xs ds d Q hd l e k=>by
 let⟨c,rfl,e⟩:=bc e;let⟨b,e1,e2⟩:=VL e;cases e2;cases asB_some e1;let⟨v,rfl,h⟩:=t9 l;cases(h);exact⟨b,rfl,k _ H (Same.refl _) rfl⟩
def  jC(k:Nat){α:Type}(l:List α)(x:α):List α:=l.take k++x::l.drop k
def DeepL.appR{K}(h2:DeepL K M H es ys C):∀{ds:Vg}{xs:List V}{A:List Addr},DeepL K M H ds xs A->DeepL K M H (ds++es) (xs++ys) (A++C)
 |[],xs,A,h=>by let⟨rfl,rfl⟩:=h;exact h2
 |d::ds,xs,A,⟨x,r,A1,A2,e1,e2,g1,g2⟩=>by
  subst e1 e2;exact⟨x,r++ys,A1,A2++C,rfl,List.append_assoc ..,g1,DeepL.appR h2 g2⟩
def DeepL.cutAt{K}:∀{ds:Vg}{xs:List V}{A:List Addr}(k:Nat),DeepL K M H ds xs A->∃A1 A2,A=A1++A2/\DeepL K M H (ds.take k) (xs.take k) A1/\DeepL K M H (ds.drop k) (xs.drop k) A2
 |ds,xs,A,0,h=>⟨[],A,rfl,⟨rfl,rfl⟩,h⟩
 |[],xs,A,k+1,h=>by let⟨rfl,rfl⟩:=h;exact⟨[],[],rfl,⟨rfl,rfl⟩,⟨rfl,rfl⟩⟩
 |d::ds,xs,A,k+1,⟨x,r,A1,A2,e1,e2,g1,g2⟩=>by
  subst e1 e2;let⟨B1,B2,e,q1,q2⟩:=DeepL.cutAt k g2;subst e;exact⟨A1++B1,B2,(List.append_assoc ..).symm,⟨x,_,A1,B1,rfl,rfl,g1,q1⟩,q2⟩
def Nj(k:Nat):Pu (jC k):=λ{K M H ds xs A j d v} h q t=>by
 let⟨r,g,rfl,p,o⟩:=DeepL.cutAt k h;have l:DeepL K M H (d::ds.drop k) (v::xs.drop k) (j++g):=⟨v,_,j,g,rfl,rfl,q,o⟩;refine⟨r++(j++g),DeepL.appR l p,?_,λb C=>?_⟩;all_goals grind
def IsL.takeD{K}:∀{ds:Vg}{xs:List V}(k:Nat),IsL K M ds xs->IsL K M (ds.take k) (xs.take k)/\IsL K M (ds.drop k) (xs.drop k)
 |ds,xs,0,h=>⟨rfl,h⟩
 |[],xs,k+1,h=>by cases(show xs=[]from h);exact⟨rfl,rfl⟩
 |d::ds,xs,k+1,⟨x,r,e,g1,g2⟩=>by
  subst e;let⟨q1,q2⟩:=IsL.takeD k g2;exact⟨⟨x,_,rfl,g1,q1⟩,q2⟩
def Nk(k:Nat):Pv (jC k):=λh q=>(IsL.takeD k h).1.app ⟨_,_,rfl,q,(IsL.takeD k h).2⟩
def Vals.ins(k:Nat)(r:Vals xs g)(j:RelV y u):Vals (jC k xs y) (jC k g u):=(r.take k).append (.cons j (r.drop k))
def  FJ:V->List V->Hp->VK->Prop:=λx vs H Q=>∃(l:Addr)(xs:List V)(i:Int)(k:Nat)(y:V),x=.ref l/\vs=[.int i,y]/\i=(k:Int)/\H l=!(.lst xs)/\k<=xs.length/\xs.length<sizeLine/\Q .non (aR H l (.lst (jC k xs y)))
def FK(g:U9)(x:Int)(k:Nat)(u:Value)(j:x=(k:Int))(l:k<=g.length):(g.toArray.extract 0 (if x<0 then(x+((g.toArray.size:Nat):Int)).toNat else min x.toNat g.toArray.size)).push u++g.toArray.extract (if x<0 then(x+((g.toArray.size:Nat):Int)).toNat else min x.toNat g.toArray.size)=(jC k g u).toArray:=by grind [jC]
def zL:QE X "list.insert" FJ:=by
 intro pins s σ H x T v U Q I rx rv h;let⟨l,xs,i,k,y,rfl,rfl,hi,j,hk,hz,q⟩:=h;cases rx;cases rv with
 |cons C p=>
 let⟨u,rfl,o⟩:=(show Vals [y] _ from p).one;let⟨t,rfl⟩:=C;let⟨z,g,n,r,hl,e⟩:=I.lstM j;have J:Builtin.List.listFitsIndex i=true:=by
  have:sizeLine<2^63:=by decide
  unfold Builtin.List.listFitsIndex;simp only[and_eq_true,decide_eq_true_eq];omega
 refine call_meets F.slot_list_insert ⟨_,e,rfl⟩ F.entry_list_insert (F.args_list_insert_3 _ _ _) (AutoSeq1.list_insert_list_int_val_1 l g.toArray n i t u (by simp[J]) (by rw[size_toArray];omega)) ⟨e,?_⟩;refine⟨.non,_,I.lset j e ?_ (r.ins k o) ?_,rfl,q⟩
 .exact FK g i k u hi (!1)
 .unfold jC;rw[length_append,length_cons,List.length_take,List.length_drop];omega
noncomputable def  FL(n:Nat)(d:D):Option Nat:=match d with
 |.int i=>if 0<=i/\i<=(n:Int)then !i.toNat else none
 |_=>none
def zM(h:FL n d=!k):d=.int (k:Int)/\k<=n:=by
 unfold FL at h;grind
def  B6(i:Nat)(fk R:U0):U1:=λY=>(ownL Y i).bind λw=>(fk (di Y)).bind λy=>(FL w.2.length y).bind λk=>(vq (R (di Y))).bind λd=>
 if w.2.length+1<big then !(.nx (Y.set i (!(newCat w.1 (.deep,d),.lst (jC k w.2 d)))))else none
def zN{X:Cx}{e:Expr}{pos:Pos}(i:Nat)(hk:PP X C fk)(h:PP X e R)(hN:X.N[i]?=!x)(hv:tq X.env.scope x)(hd:(!7)=false)(t:(!15)=false)(l:starEach [C,e] X.env=(false,eval C X.env)::starEach [e] X.env)(g:starEach [e] X.env=(false,eval e X.env)::starEach [] X.env)(p:(apos.endLine==cpos.line)=true):
  PR X (.Expr (.Call (.Attribute (.Name x px) "insert" apos) [C,e] [] cpos) pos) (B6 i fk R):=λB O Y=>
 (je (tT PySem.F.plainAttrs_list PySem.F.slot_list_insert PySem.F.type_list_insert zL (cM hN hv hd t) (dG (hk O _) (dG (h O _) pa_nil g) l) rfl (by rw[l,g];rfl) p l (by rw[g];rfl))).imp λEn σ H ⟨E,o,q,k⟩=>by
 let⟨⟨c,ds⟩,q1,q⟩:=VL q
 let⟨y,q2,q⟩:=VL q
 let⟨j,q3,q⟩:=VL q
 let⟨d,q4,q⟩:=VL q
 let⟨hz,q⟩:=ay q
 subst q
 let⟨h0,r⟩:=bX q1
 let⟨I,p5,p6⟩:=VL q4
 let⟨lf,p7⟩:=ay p6
 subst p7
 let⟨ey,hj⟩:=zM q3
 subst ey
 let⟨a,xs0,e1,r3,_⟩:=E.ownAt h0 r
 refine⟨.ref a,e1,.inl ⟨rfl,_,SqL.of r3⟩,E.viewS,_,q2,λyv H1 T iy=>?_⟩
 cases(iy)
 have E1:=E.grow T
 refine⟨E1.viewS,I,p5,λv H2 J iv=>?_⟩
 have E2:=E1.grow J
 have E3:=E2.moreS iv
 have ex:extS I=(.deep,I):=by unfold extS;rw[if_pos lf]
 rw[ex]at E3
 let⟨a',xs,e2,r4,U,O2,E4,s4⟩:=E3.change (jC j) (Nj j) (Nk j) h0 r
 rw[e1]at e2
 cases e2
 exact⟨a,xs,_,j,v,rfl,rfl,rfl,r4,by rw[<-U];exact hj,by rw[kb,<-U];exact Nat.lt_of_succ_lt hz,k σ _ O2 (T.msk.trans (J.msk.trans s4)) E4⟩
def PS.ex{X:Cx}{e}{g:Type}{t:g->TS}(h:∀z,PS X e (t z)):PS X e (λD σ H=>∃z,t z D σ H):=λpins s σ H D I ⟨z,q⟩=>h z pins s σ H D I q
def JV{X:Cx}{st}(is:Vb)(h:PR X st F):PR X st (λY=>F (frzS is Y)):=λB O Y=>(PS.ex λg=>h B g _).imp λl σ H ⟨E,out,q,k⟩=>by
 let⟨g,j,le⟩:=E.frzS is;exact⟨g,j,out,q,k.mono le⟩
end L2
namespace L2
open PySem PySem.Spec PyProof.Rows
def EnvOk.lastSh{K}(E:EnvOk K B O (σ++[!v]) H (Y++[!s])):∃O',EnvOk K B O' σ H Y/\Same (msk O H) (msk O' H)/\Is K (msk O' H) s.2 v:=by
 have hlen:σ.length=Y.length:=by have:=E.len;rw[length_append,length_append]at this;exact Nat.add_right_cancel this
 let⟨O',E',le⟩:=E.frz1 Y.length;have e:L2.frz1 Y.length (Y++[!s])=Y++[!(.sh,s.2)]:=by
  unfold L2.frz1;rw[getElem?_append_right (le_refl _),Nat.sub_self];show(Y++[!s]).set Y.length (!(.sh,s.2))=_;rw[List.set_append_right _ _ (le_refl _),Nat.sub_self];rfl
 rw[e]at E';refine⟨O',E'.drop,le,?_⟩;let⟨v',e1,i1⟩:=E'.viewS.sh Y.length s.2 (by
  unfold di;rw[List.map_append,getElem?_append_right (by rw[length_map];exact VI _),length_map,Nat.sub_self];rfl)
 grind
def  Nl(i:Nat)(g:U3):U1:=λY=>(ownL Y i).bind λ_=>(g Y).bind λz=>(ownL z.2 i).bind λw=>(kR z.1.2).bind λes=>if w.2.length+es.length<big then !(.nx (z.2.set i (!(extC w.1 es,.lst (w.2++es)))))else none
def wy(i:Nat)(h:pW X e g)(hN:X.N[i]?=!x)(hv:tq X.env.scope x)(hd:(!7)=false)(r:(!15)=false)(j:starEach [e] X.env=(false,eval e X.env)::starEach [] X.env)(p:(apos.endLine==cpos.line)=true):PR X (.Expr (.Call (.Attribute (.Name x px) "extend" apos) [e] [] cpos) pos) (Nl i g):=λB O Y=>
 (je (tT PySem.F.plainAttrs_list PySem.F.slot_list_extend PySem.F.type_list_extend rP (cM hN hv hd r) (dG (h B O Y).1 pa_nil j) rfl (by rw[j];rfl) p j rfl)).imp λEn σ H ⟨E,o,q,k⟩=>by
 let⟨⟨c0,ds0⟩,q1,q⟩:=VL q;let⟨⟨s,Y'⟩,q2,q⟩:=VL q;let⟨⟨c,ds⟩,q3,q⟩:=VL q;let⟨es,q4,q⟩:=VL q;let⟨hz,q⟩:=ay q;subst q;let⟨h0,I⟩:=bX q1;let⟨h1,C⟩:=bX q3;let⟨a,T,J,r3,_⟩:=E.ownAt h0 I;refine⟨.ref a,J,.inl ⟨rfl,_,SqL.of r3⟩,E,s,Y',q2,λv H1 O1 s1 E1=>?_⟩;let⟨O2,E2,le,is⟩:=E1.lastSh;let⟨m,zs,rfl,t,l⟩:=cc q4 is;let⟨a',xs,e2,r4,hl,O3,E3,U⟩:=E2.extend h1 C l;rw[J]at e2;cases e2;exact⟨a,m,xs,zs,rfl,rfl,r4,msk_le.seq t,by rw[<-hl,<-l.len,kb];exact VF hz,k σ _ O3 ((s1.trans le).trans U) E3⟩
end L2
namespace L2
open PySem PySem.Spec PyProof.Rows
end L2
namespace L2
open PySem PySem.Spec PyProof.Rows
def  mnZ:Vd->Int
 |[]=>0
 |a::r=>r.foldl (λm y=>if y<m then y else m) a
def SS:∀(r:Vd)(a:Int),let m:=r.foldl (λm y=>if y<m then y else m) a;(m=a\/m∈r)/\m<=a/\∀y∈r,m<=y
 |[],a=>⟨.inl rfl,Int.le_refl _,λy h=>nomatch h⟩
 |b::r,a=>by
  let⟨h1,h2,h3⟩:=SS r (if b<a then b else a);refine⟨?_,?_,λy hy=>?_⟩
  .rcases h1 with h|h
   .rw[List.foldl_cons,h];split
    .exact .inr Vr
    .exact .inl rfl
   .exact .inr (Vs _ h)
  .rw[List.foldl_cons];split at h2<;>split<;>omega
  .rcases mem_cons.mp hy with rfl|hy
   .rw[List.foldl_cons];split at h2<;>split<;>omega
   .exact h3 y hy
def B7{ns:Vd}(h:ns≠[]):mnZ ns∈ns/\∀y∈ns,mnZ ns<=y:=by
 cases ns with
 |nil=>exact absurd rfl h
 |cons a r=>
  let⟨h1,h2,h3⟩:=SS r a;refine⟨?_,λy hy=>?_⟩
  .rcases h1 with h|h
   .exact mem_cons.mpr (.inl h)
   .exact Vs _ h
  .rcases mem_cons.mp hy with rfl|hy
   .exact h2
   .exact h3 y hy
def JW{ns:Vd}{m:Int}(h1:m∈ns)(h2:∀y∈ns,m<=y):m=mnZ ns:=by
 let⟨a,b⟩:=B7 (ns:=ns) (λz=>by subst z;cases h1);have:=h2 _ a;have:=b _ h1;omega
def uv{ns:Vd}(hn:ns≠[]):ns.getD (argBest (λi j=>decide (ns.getD i 0<ns.getD j 0)) (ns.length-1)) 0=mnZ ns:=by
 have hp:=List.length_pos_iff.mpr hn;have hnum:∀i,(h:i<ns.length)->ns.getD i 0=ns[i]:=λi h=>by rw[List.getD_eq_getElem?_getD,getElem?_eq_getElem h];rfl
 let⟨b1,b2⟩:=argBest_lt (λi=>ns.getD i 0) (ns.length-1);refine JW ?_ λy hy=>?_
 .rw[hnum _ (!1)];exact List.getElem_mem _
 .let⟨j,hj,rfl⟩:=List.getElem_of_mem hy;have:=b2 j (!1);rw[hnum j hj]at this;exact this
section
variable{X:Cx}
def  SU(K:Frag):List V->Hp->VK->Prop:=λxs H Q=>(∃i j,xs=[.int i,.int j]/\Q (.int (if j<i then j else i)) H)\/∃l ns,xs=[.ref l]/\SqL K H l (ns.map V.int)/\ns≠[]/\Q (.int (mnZ ns)) H
def oV:∀{ns:Vd}{us:U9},Vals (ns.map V.int) us->us.length=ns.length/\∀i,(h:i<ns.length)->∃t,us[i]?=!(.int ns[i] t)
 |[],us,r=>by cases r;exact⟨rfl,λi h=>by cases h⟩
 |n::ns,us,r=>by
  cases r with
  |cons r1 r2=>
   let⟨t,rfl⟩:=r1;let⟨l,h⟩:=oV r2;refine⟨by rw[length_cons,length_cons,l],λi hi=>?_⟩;cases i with
   |zero=>exact⟨t,rfl⟩
   |succ i=>exact h i (by rw[length_cons]at hi;omega)
def HK{h:Heap}{o:Obj}{a b:Addr}(hlt:a<h.objs.size)(hb:b∈[h.objs.size,a]):b<(h.push o).objs.size:=by
 rw[Heap.size_push];rcases mem_cons.mp hb with rfl|hb
 .exact Nat.lt_succ_self _
 .rw[mem_singleton.mp hb];exact Nat.lt_succ_of_lt hlt
def rZ{ns:Vd}{us:U9}(len:us.length=ns.length)(at_:∀i,(h:i<ns.length)->∃t,us[i]?=!(.int ns[i] t)){i:Nat}{v:Value}(h:us[i]?=!v):∃t,v=.int (ns.getD i 0) t:=by
 have hi:i<ns.length:=by rw[<-len];exact(Vq.mp h).1
 let⟨t,e⟩:=at_ i hi;rw[h]at e;cases e;exact⟨t,by rw[List.getD_eq_getElem?_getD,getElem?_eq_getElem hi];rfl⟩
def uw{h h':Heap}{ob:Obj}{b:Addr}{o:Obj}(kp:∀b o,b ∉ [h.objs.size]->(h.push ob).get? b=!o->h'.get? b=!o)(e:h.get? b=!o):h'.get? b=!o:=
 kp b o (λhm=>by rw[mem_singleton.mp hm]at e;exact absurd (Vn e) (VD _)) (Vl _ e)
def call_minA(hc:X.calm=true):fC X (.builtin "min") (SU X.K):=by
 intro pins s σ H xs us Q I r h;rcases h with⟨i,j,rfl,q⟩|⟨l,ns,rfl,hl,hn,q⟩
 .exact y8 hc pins s σ H _ us Q I r ⟨i,j,rfl,q⟩
 .let⟨u,rfl,ru⟩:=fE r;cases ru;let⟨its,rv,pl,hz⟩:=I.list hl;let⟨len,at_⟩:=oV rv;have hlt:l<s.heap.objs.size:=by let⟨_,e,_⟩:=pl.isList;exact Vn e
  have hp:=List.length_pos_iff.mpr hn;refine call_min_walk (wpAny_pyIter_list pl.isList ?_);refine⟨_,_,_,_,_,_,_,rfl,Walks.list (A:=X.A.in1) (I.ok.hd hc) s.heap.objs.size l (Vy hlt) its.toArray,⟨⟨_,Vo _ rfl,rfl,rfl⟩,pl.isList.push _⟩,λb hb=>?_,by rw[size_toArray,len];exact hp,CmpOf.ints_lt (λi=>ns.getD i 0) (λi v hv=>?_),λv h' tk hP kp=>?_⟩
  .exact HK hlt hb
  .rw[List.getElem?_toArray]at hv;exact rZ len at_ hv
  .rw[List.getElem?_toArray,size_toArray,len]at hP;let⟨t,e⟩:=rZ len at_ hP;rw[uv hn]at e;exact⟨.int (mnZ ns),H,I.kept λb o e=>uw kp e,⟨t,e⟩,q⟩
def  minD':Vg->Vi
 |[.int i,.int j]=>!(.int (if j<i then j else i))
 |[.lst ds]=>(a8 ds).bind λns=>if ns.isEmpty then none else !(.int (mnZ ns))
 |_=>none
def rn_minA:EM X.K (SU X.K) minD':=λO H xs ds d Q hd l e k=>by
 unfold minD' at e;split at e
 .cases e;let⟨u,v,rfl,iu,iv⟩:=QN l;cases(show u=.int _ from iu);cases(show v=.int _ from iv);exact .inl ⟨_,_,rfl,k _ H (Same.refl _) rfl⟩
 .let⟨ns,e1,e2⟩:=VL e;let⟨u,rfl,p,ys,rfl,hq,il⟩:=t9 l;split at e2
  .cases e2
  .rename_i hn;cases e2;have z:=asInts_is e1 il;subst z;exact .inr ⟨p,ns,rfl,msk_le.seq hq,λz=>hn (by rw[z];rfl),k _ H (Same.refl _) rfl⟩
 .cases e
end
section
variable{prog:Program}{w:World}{A:Around}{R:Result->Shared->Prop}{I:Addr}{fp wr:List Addr}{n:Nat}{P:Nat->Value->Prop}{St:Nat->Heap->Prop}{kw:List (Str×Value)}
def nF:(toString "min"++toString ".loop":String)="min.loop":=by decide
def Nm(W:Walks prog w A.in1 I fp wr n P St)(bt:Nat->Nat->Bool)(hcmp:CmpOf prog w A.in1 .Lt P bt)(S:Addr)(hSf:S ∉ fp):∀(k j:Nat)(s:Shared)(vb:Value)(c:Nat),n-(j+1)=k->j+1<=n->St (j+1) s.heap->P (argBest bt j) vb->
  s.heap.get? S=some {cls:=.type "list",data:=.seq #[vb,vb] c}->(∀(v:Value)(h':Heap)(tk:Nat),P (argBest bt (n-1)) v->(∀b o,b ∉ wr->b≠S->s.heap.get? b=!o->h'.get? b=!o)->R (.ok (.ret v)) {s with heap:=h',toks:=tk})->
  codeAny (!6) A (.builtin "min.loop" {pos:=[.ref I,.none,.ref S],kw:=kw}) R s:=by
 have hSw:S ∉ wr:=λh=>hSf (W.sub S h)
 intro k
 induction k with
 |zero=>
  intro j s vb c hk hj hst hPb hS hR;have hin:j+1=n:=by omega
  refine codeAny_builtin F.entry_min_loop ?_;rw[Around.under_plainId F.plain_min_loop];refine Vk (wpAny_seqItems hS rfl ?_);refine Vk (wpAny_tryCatch (W.done s _ _ (hin▸hst) λh' tk hk'=>?_));have hS':=hk' S _ hSw hS;refine Vk (wpAny_updateSeq hS' rfl (Vk (wpAny_letGo (Vm (hR vb _ _ (by rw[<-hin];exact hPb) λb o hbw hbS e=>(Heap.get?_update_other h' _ (Ne.symm hbS)).trans (hk' b o hbw e))))))
 |succ k ih=>
  intro j s vb c hk hj hst hPb hS hR;have hlt:j+1<n:=by omega
  refine codeAny_builtin F.entry_min_loop ?_;rw[Around.under_plainId F.plain_min_loop];refine Vk (wpAny_seqItems hS rfl ?_);refine Vk (wpAny_tryCatch (W.item (j+1) s _ _ hlt hst λv h' tk hP hst' hk'=>?_));have hS':=hk' S _ hSw hS;refine Vk (Vm ?_);dsimp only;refine Vk (wpAny_tryCatch (wpAny_holding (Vk (hcmp (j+1) (argBest bt j) v vb _ _ _ hP hPb (Vk (wpAny_holding (wpAny_truthy_bool (Vk (wpAny_letGo (Vm ?_))))))))));have hA:argBest bt (j+1)=if bt (j+1) (argBest bt j)=true then j+1 else argBest bt j:=rfl;cases hb:bt (j+1) (argBest bt j)with
  |false=>
   rw[hb,if_neg Bool.false_ne_true]at hA;refine Vk (wpAny_letGo ?_);rw[nF];exact Vm ⟨plainId_quiet F.plain_min_loop _,ih (j+1) _ vb c (!1) hlt hst' (by rw[hA];exact hPb) hS' λv' h'' tk'' hP' hk''=>hR v' h'' tk'' hP' λb o hbw hbS e=>hk'' b o hbw hbS (hk' b o hbw e)⟩
  |true=>
   rw[hb,if_pos rfl]at hA;refine Vk (wpAny_updateSeq hS' rfl (Vk (wpAny_letGo ?_)));rw[nF];exact Vm ⟨plainId_quiet F.plain_min_loop _,ih (j+1) _ v _ (!1) hlt (W.frame (j+1+1) h' _ hst' λb hbf o e=>(Heap.get?_update_other h' _ (by rintro rfl;exact hSf hbf)).trans e) (by rw[hA];exact hP) (Heap.get?_update_self _ hS' rfl) λv' h'' tk'' hP' hk''=>hR v' h'' tk'' hP' λb o hbw hbS e=>hk'' b o hbw hbS ((Heap.get?_update_other h' _ (Ne.symm hbS)).trans (hk' b o hbw e))⟩
def Q3(W:Walks prog w A.in1 I fp wr n P St)(bt:Nat->Nat->Bool)(hcmp:CmpOf prog w A.in1 .Lt P bt)(S:Addr)(hSf:S ∉ fp){d:Value}{s:Shared}{c:Nat}(hst:St 0 s.heap)(hS:s.heap.get? S=some {cls:=.type "list",data:=.seq #[] c})
  (hR:∀(v:Value)(h':Heap)(tk:Nat),(if n=0 then v=d else P (argBest bt (n-1)) v)->(∀b o,b ∉ wr->b≠S->s.heap.get? b=!o->h'.get? b=!o)->R (.ok (.ret v)) {s with heap:=h',toks:=tk}):
  codeAny (!6) A (.builtin "min.loop" {pos:=[.ref I,.none,.ref S],kw:=[(Str.ofString "default",d)]}) R s:=by
 have hSw:S ∉ wr:=λh=>hSf (W.sub S h)
 refine codeAny_builtin F.entry_min_loop ?_
 rw[Around.under_plainId F.plain_min_loop]
 refine Vk (wpAny_seqItems hS rfl ?_)
 by_cases hn:n=0
 .subst hn;refine Vk (wpAny_tryCatch (W.done s _ _ hst λh' tk hk'=>?_));refine Vk (wpAny_rule ?_);exact Vm (hR d h' tk (by rw[if_pos rfl]) λb o hbw _ e=>hk' b o hbw e)
 .refine Vk (wpAny_tryCatch (W.item 0 s _ _ (!1) hst λv h' tk hP hst' hk'=>?_));have hS':=hk' S _ hSw hS;refine Vk (Vm ?_);dsimp only;refine Vk (wpAny_updateSeq hS' rfl ?_);rw[nF];exact Vm ⟨plainId_quiet F.plain_min_loop _,Nm W bt hcmp S hSf (n-(0+1)) 0 _ v _ rfl (!1) (W.frame (0+1) h' _ hst' λb hbf o e=>(Heap.get?_update_other h' _ (by rintro rfl;exact hSf hbf)).trans e) hP (Heap.get?_update_self _ hS' rfl) λv' h'' tk'' hP' hk''=>hR v' h'' tk'' (by rw[if_neg hn];exact hP') λb o hbw hbS e=>hk'' b o hbw hbS ((Heap.get?_update_other h' _ (Ne.symm hbS)).trans (hk' b o hbw e))⟩
def FM(x d:Value):checkBuiltinCall "min" {pos:=[x],kw:=[(Str.ofString "default",d)]}=pure ():=rfl
def r0{prog:Program}{w:World}{A:Around}{E:U8}{s:Shared}{x d:Value}{Q:U8}
  (h:wpAny (!6) A.in1 (pyIter x) (λit s₂=>∃I fp wr n P St bt,it=.ref I/\Walks prog w A.in1 I fp wr n P St/\St 0 s₂.heap/\(∀b∈fp,b<s₂.heap.objs.size)/\CmpOf prog w A.in1 .Lt P bt/\
   ∀(v:Value)(h':Heap)(tk:Nat),(if n=0 then v=d else P (argBest bt (n-1)) v)->(∀b o,b ∉ wr->s₂.heap.get? b=!o->h'.get? b=!o)->Q v {s₂ with heap:=h',toks:=tk}) E s):
  wpAny (!6) A (call (.builtin "min") [x] [(Str.ofString "default",d)]) Q E s:=by
 refine wpAny_call (codeAny_call_builtin F.plain_min F.entry_min ?_)
 rw[FM]
 refine Vm ?_
 unfold Builtin.min
 refine Vk (VA (show _=pure _ from rfl) ?_)
 refine Vk (Vm ?_)
 refine Vk (VJ h (λit s₂ h₂=>?_) (λ_ _ z=>z))
 let⟨I,fp,wr,n,P,St,bt,rfl,W,hst,hfp,hcmp,hQ⟩:=h₂
 refine Vk (wpAny_newObj_type ?_)
 rw[nF]
 refine Vm ⟨plainId_quiet F.plain_min_loop _,Q3 W bt hcmp s₂.heap.objs.size (λhm=>VD _ (hfp _ hm)) (W.frame 0 s₂.heap _ hst λb hb o e=>Vl _ e) (Vo _ rfl) λv h' tk hv hk=>hQ v h' tk hv λb o hbw e=>hk b o hbw (λz=>?_) (Vl _ e)⟩
 rw[z]at e;exact absurd (Vn e) (VD _)
end
def  B8(d0:D):Vg->Vi:=tw λd=>(kR d).bind λds=>(a8 ds).bind λns=>!(if ns.isEmpty then d0 else .int (mnZ ns))
def FN{X:Cx}{e:Expr}{fa:UZ}{p pos kp p2:Pos}{k2:Nat}(hc:X.calm=true)(hg:Gl X "min")(hm:X.mg "min"=none)(ha:PX X [e] fa)(hs:starEach [e] X.env=[(false,eval e X.env)]):
  PP X (.Call (.Name "min" p) [e] [⟨some "default",.Constant .none k2 p2,kp⟩] pos) (λY=>(fa Y).bind (B8 .non)):=by
 intro O Y pins s σ H Q I ⟨E,d9,q,k'⟩
 let⟨as,e1,q⟩:=VL q
 let⟨d,rfl,q2⟩:=bc q
 let⟨ds,q3,q4⟩:=VL q2
 let⟨ns,q5,q6⟩:=VL q4
 refine wpAny_Call_Name_kw (dq I hg hm b_min ?_ (!2) (!2))
 refine callWith_kw (bw (ha O Y pos pins s σ H (λvs H1=>Same H H1/\IsL X.K (msk O H1) [d] vs) I ⟨E,[d],e1,λvs H1 s1 il=>⟨s1,il⟩⟩) λus s1 h1=>?_) (by rw[hs];rfl) (by rw[hs];rfl)
 let⟨vs,H1,I1,r1,sm1,il⟩:=h1
 let⟨v,rfl,h⟩:=t9 il
 let⟨l,ys,rfl,t,l2⟩:=cc q3 h
 cases asInts_is q5 l2
 let⟨u,rfl,ru⟩:=fE r1
 cases ru
 refine kws_cons (Vm (kws_nil ?_))
 show wpAny (!4) X.A (call (.builtin "min") [.ref l] [(Str.ofString "default",.none)]) _ _ s1
 let⟨its,rv,pl,hz⟩:=I1.list (msk_le.seq t)
 let⟨len,at_⟩:=oV rv
 have hlt:l<s1.heap.objs.size:=by let⟨_,e,_⟩:=pl.isList;exact Vn e
 refine r0 (wpAny_pyIter_list pl.isList ?_)
 refine⟨_,_,_,_,_,_,_,rfl,Walks.list (A:=X.A.in1) (I1.ok.hd hc) s1.heap.objs.size l (Vy hlt) its.toArray,⟨⟨_,Vo _ rfl,rfl,rfl⟩,pl.isList.push _⟩,λb hb=>?_,CmpOf.ints_lt (λi=>ns.getD i 0) (λi v hv=>?_),λv h' tk hP kp=>?_⟩
 .exact HK hlt hb
 .rw[List.getElem?_toArray]at hv;exact rZ len at_ hv
 .rw[size_toArray,len]at hP;have I2:Inv X pins σ H1 {s1 with heap:=h',toks:=tk}:=I1.kept λb o e=>uw kp e;by_cases hn:ns=[]
  .subst hn;cases q6;exact⟨.non,H1,I2,(show v=Value.none from hP),k' .non H1 sm1 rfl⟩
  .rw[if_neg (by simpa using hn),List.getElem?_toArray]at hP;let⟨t,e⟩:=rZ len at_ hP;rw[uv hn]at e;have q7:D.int (mnZ ns)=d9:=by
    have:ns.isEmpty=false:=by cases ns with
     |nil=>exact absurd rfl hn
     |cons _ _=>rfl
    rw[this]at q6;injection q6
   subst q7;exact⟨.int (mnZ ns),H1,I2,⟨t,e⟩,k' _ H1 sm1 rfl⟩
def  FO(c:U2)(F:U1):Nat->U1
 |0,_=>none
 |n+1,Y=>(c (vw Y)).bind λb=>if b=true then(F Y).bind λo=>match o with
  |.nx Y'=>FO c F n Y'
  |.ct Y'=>FO c F n Y'
  |.bk Y'=>!(.nx Y')
  |.rt s=>!(.rt s)else !(.nx Y)
def  LI(c:U2)(F:U1):U1:=FO c F 400
section
variable{X:Cx}{pos:Pos}
def PT.ex{c:Expr}{ι:Type}{t:ι->TT}(h:∀z,PT X c (t z)):PT X c (λσ H Q=>∃z,t z σ H Q):=λpins s σ H D I ⟨z,q⟩=>h z pins s σ H D I q
def B9{c:Expr}{body:List Stmt}{fc F}(hp:PassesOwn (!4) X.A X.env X.xe)(hc:PQ X c fc)(hb:An X body F):PR X (.While c body [] pos) (LI fc F):=λB O Y=>
 (Ay hp (PT.ex λz:Vv=>hc mL z) (PSs.ex λz:(Ve)×Ev=>hb B z.1 z.2)).imp λEn σ H ⟨E,o,q,k⟩=>by
 refine⟨λm σ' H'=>∃O' Y',FO fc F m Y'=!o/\EnvOk X.K B O' σ' H' Y'/\Same _ (msk O' H'),⟨400,O,Y,q,E,Same.refl _⟩,?_⟩;rintro m σ1 H1 ⟨O1,Y1,q1,E1,s1⟩;cases m with
 |zero=>cases q1
 |succ n=>
  let⟨b,q2,q3⟩:=VL (show((fc (vw Y1)).bind λb=>if b=true then(F Y1).bind λo=>match o with
   |.nx Y'=>FO fc F n Y'
   |.ct Y'=>FO fc F n Y'
   |.bk Y'=>!_
   |.rt s=>!(.rt s)else !_)=some o from q1)
  refine⟨vw Y1,E1.view,b,q2,λH2 s2=>?_⟩;cases b with
  |false=>
   cases q3;exact k σ1 H2 O1 (s1.trans s2.msk) (E1.grow s2)
  |true=>
   let⟨o1,q4,q5⟩:=VL q3;refine⟨λσ' H'=>∃O' Y',FO fc F n Y'=!o/\EnvOk X.K B O' σ' H' Y'/\Same _ _,λσ' H' h=>⟨n,Nat.lt_succ_self n,h⟩,(O1,Y1),E1.grow s2,o1,q4,?_⟩;have s3:=s1.trans s2.msk;cases o1 with
   |nx Y2=>exactλσ' H' O' s' E'=>⟨O',Y2,q5,E',s3.trans s'⟩
   |ct Y2=>exactλσ' H' O' s' E'=>⟨O',Y2,q5,E',s3.trans s'⟩
   |bk Y2=>
    cases q5;exactλσ' H' O' s' E'=>k σ' H' O' (s3.trans s') E'
   |rt s=>
    cases q5;exactλv H' r=>k v H' r
end
section
variable{X:Cx}{a b:Expr}{pos:Pos}
def  Cc(K:Frag):R2:=λx y H Q=>∃a b ys,x=.ref a/\y=.ref b/\SqT K H a []/\SqT K H b ys/\Q (.ref b) H
def Cd:OpR X (binaryOp .Add) (Cc X.K):=by
 intro pins s σ H x y v u Q I rx T h;let⟨a,b,ys,rfl,rfl,ha,hb,q⟩:=h;cases rx;cases T;let⟨its,U,p1,_⟩:=I.tuple ha;let⟨r,r2,p2,_⟩:=I.tuple hb;have hn:=U.nil_iff.mpr rfl;subst hn;let⟨⟨cls,dd,data,J⟩,t,hc,n,hd⟩:=id p1;let⟨⟨C,p,data2,j⟩,g,o,n2,l⟩:=id p2;subst hc hd o l;exact concat_meets ⟨_,t,rfl⟩ ⟨_,g,rfl⟩ noFill_tuple_add seq_tuple_add PySem.F.slot_tuple_add PySem.F.entry_tuple_add (PySem.F.args_tuple_add_2 _ _) (tuple_addW0 a b _ _ n n2 dd p J j rfl) ⟨t,g,.ref b,H,I,rfl,q⟩
def  SV(K:Frag):R2:=λx y H Q=>Hv K x y H Q\/Cc K x y H Q
def Nn:OpR X (binaryOp .Add) (SV X.K):=λpins s σ H x y v u Q I rx g h=>h.elim (Eu pins s σ H x y v u Q I rx g) (Cd pins s σ H x y v u Q I rx g)
def  Q4:D->D->Vi
 |.tup a,.tup b=>if a.length+b.length<big then !(.tup (a++b))else none
 |_,_=>none
def Q5{K}:jU K (SV K) Q4:=λO H x y dx dy d Q hd ix iy e k=>by
 cases dx with
 |tup as=>
  cases dy with
  |tup bs=>
   let⟨hz,e⟩:=ay (e);subst e;let⟨p,l,rfl,t,I⟩:=ix;let⟨q,j,rfl,r,C⟩:=iy;have g:=I.len;have o:=C.len;cases as with
   |nil=>
    have J:=List.length_eq_zero_iff.mp (by rw[<-g];rfl);subst J;exact .inr ⟨p,q,j,rfl,rfl,msk_le.seqT t,msk_le.seqT r,k _ H (Same.refl _) ⟨q,j,rfl,r,C⟩⟩
   |cons a as=>
    have J:l≠[]:=λz=>by rw[z]at g;cases g
    refine .inl ⟨p,q,l,j,rfl,rfl,msk_le.seqT t,msk_le.seqT r,J,by rw[<-g,<-o];exact VF hz,λz=>?_,λz c T=>?_⟩
    .subst z;have hb:=List.length_eq_zero_iff.mp (by rw[o];rfl);subst hb;rw[List.append_nil]at k;exact k _ H (Same.refl _) ⟨p,l,rfl,t,I⟩
    .have U:=gy hd T;have le:Same (msk O H) (msk O (aR H c (.tup (l++j)))):=by rw[nt U];exact Same.new (by rw[aN U];exact T)
     exact k _ _ (Same.new T) ⟨c,l++j,rfl,.of (by rw[aN U,al]),IsL.mono le _ _ (I.app C)⟩
  |_=>cases e
 |_=>cases e
def  av:D->D->Vi
 |.int i,.int j=>!(.int (i+j))
 |.tup a,.tup b=>if a.length+b.length<big then !(.tup (a++b))else none
 |_,_=>none
def JY(p:PP X a fa)(o:PP X b j):PP X (.BinOp a .Add b pos) (aa av fa j):=λO Y=>(EI p o O Y).by2 (om Nn Q5 p o O Y) λσ H Q ⟨E,d,q,k⟩=>by
 let⟨x,r,q⟩:=VL q;let⟨y,e2,q⟩:=VL q;have l:∀g:D->D->Vi,aa g fa j Y=g x y:=λg=>by show(fa Y).bind _=_;rw[r];show(j Y).bind _=_;rw[e2];rfl
 cases x<;>cases y<;>first
  |exact .inl ⟨E,d,by rw[l];exact q,k⟩
  |exact .inr ⟨E,d,by rw[l];exact q,k⟩
end
end L2
namespace L2
open PySem PySem.Spec PyProof.Rows
structure Gb where
 fn:Str->Option (Nat×(UY))
 cn:Str->Vi
 no:Str->Bool
 fl:Str->Str->Bool
 mt:Str->MT
 ini:Str->Option (Nat×(Vg->Option (List (Str×D))))
structure Sn where
 N:Vc
 nm:List (Str×NameKind)
 k:Nat
 G:Gb
structure GbOk(P:Program)(w:World)(K:Frag)(mg:Str->Va)(base:Heap)(G:Gb):Prop where
 fn:∀x k f,G.fn x=!(k,f)->Df P w K mg base x k f
 cn:∀x d,G.cn x=!d->Cn K mg x d
 no:∀x,G.no x=true->mg x=none
 fl:∀C m Ca,G.fl C m=true->nsIn K mainGlobals C=!(!(.ref Ca))->Cls K Ca/\NoAttr K Ca m
 mt:∀m C k f,G.mt m C=!(k,f)->Mf P w K mg base C m k f
 ini:∀C k g,G.ini C=!(k,g)->Mkf P w K mg base C k g
structure SnOk(X:Cx)(S:Sn):Prop where
 g:GbOk X.prog X.w X.K X.mg X.base S.G
 N:X.N=S.N
 nd:S.N.Nodup
 calm:X.calm=true
 room:Room S.k X.A
 loc:∀x,S.nm.lookup x=some .local->X.env.scope.names.lookup x=some .local
 cel:∀x,S.nm.lookup x=some .cell->X.env.scope.names.lookup x=some .cell
 fre:∀x,S.nm.lookup x=some .free->X.env.scope.names.lookup x=some .cell\/X.env.scope.names.lookup x=some .free
 glo:∀x,S.nm.lookup x=some .globalImplicit->X.env.kindOf x=some .globalImplicit
def  cC(S:Sn)(x:Str):Option Nat:=if gd x&&xR (S.nm.lookup x)then rL S.N x else none
def  nH(S:Sn)(x:Str):Bool:=gd x&&decide (S.nm.lookup x=some .globalImplicit)
def  No(S:Sn)(x:Str):U0:=match cC S x with
 |some i=>λY=>bx Y i
 |none=>if nH S x then(match S.G.cn x with
  |some d=>λ_=>!d
  |none=>if S.G.no x then(match rM x with|some n=>λ_=>!(.ty n)|none=>λ_=>none)elseλ_=>none)elseλ_=>none
def pp_no:PP X e (λ_=>none):=λO Y=>(rK O Y).1
def SnOk.vis(o:SnOk X S)(h:xR (S.nm.lookup x)=true):tq X.env.scope x:=by
 cases e:S.nm.lookup x with
 |none=>rw[e]at h;cases h
 |some k=>
  rw[e]at h;cases k with
  |«local»=>exact .inl (o.loc x e)
  |cell=>exact .inr (.inl (o.cel x e))
  |free=>
   rcases o.fre x e with q|q
   .exact .inr (.inl q)
   .exact .inr (.inr q)
  |globalExplicit=>cases h
  |globalImplicit=>cases h
def bP(o:SnOk X S)(h:cC S x=!i):gd x=true/\tq X.env.scope x/\X.N[i]?=!x/\xR (S.nm.lookup x)=true:=by
 unfold cC at h;split at h
 .rename_i c;rw[and_eq_true]at c;exact⟨c.1,o.vis c.2,by rw[o.N];exact gB h,c.2⟩
 .cases h
def aX(o:SnOk X S)(h:nH S x=true):gd x=true/\Gl X x:=by
 unfold nH at h;rw[and_eq_true]at h;exact⟨h.1,o.glo x (Vt h.2)⟩
def wz{X:Cx}{S:Sn}{pos:Pos}(o:SnOk X S)(x:Str):PP X (.Name x pos) (No S x):=by
 unfold No;split
 .rename_i i e;let⟨h1,h2,p,_⟩:=bP o e;let⟨a,b,c⟩:=cA h1;exact oj i p h2 a b
 .split
  .rename_i e;let⟨h1,h2⟩:=aX o e;let⟨a,b,c⟩:=cA h1;split
   .rename_i d hd;exact Bg (o.g.cn x d hd) h2 a
   .split
    .rename_i j;split
     .rename_i n l;exact Mw h2 (o.g.no x j) (wg l) c a
     .exact pp_no
    .exact pp_no
  .exact pp_no
noncomputable def  aG:Expr->Bool
 |.Starred _ _=>false
 |_=>true
def star1(h:aG e=true):starEach (e::es) env=(false,eval e env)::starEach es env:=by
 cases e<;>first|rfl|cases h
def yc:∀{es:Vh},es.all aG=true->(backTo pos (starEach es env)).any (·.1)=false
 |[],_=>rfl
 |e::es,h=>by
  rw[List.all_cons,and_eq_true]at h;rw[star1 h.1];show(false||(backTo pos (starEach es env)).any (·.1))=false;rw[yc h.2];rfl
def  Q6:Operator->Option (D->D->Vi)
 |.Add=>!av
 |.Sub=>!cb
 |.Mult=>!aL
 |.FloorDiv=>!cO
 |.Mod=>!aU
 |.Pow=>!lP
 |_=>none
def  Np(op:Operator)(fa fb:U0):U0:=match Q6 op with
 |some g=>aa g fa fb
 |none=>λ_=>none
def  lh:Expr->Bool
 |.Set _ _ _=>false
 |_=>true
def noSet_mark(h:lh b=true):behindInMarks op b=false:=by
 cases b<;>first|rfl|cases h
def gU(h:lh iter=true):∀x,foldedSetIterable iter env x=pure x:=by
 intro x;cases iter<;>first|rfl|cases h
def  cmpG:CmpOp->Option (D->D->Vi)
 |.Lt=>!oq
 |.LtE=>!ot
 |.Gt=>!nw
 |.GtE=>!LF
 |.Eq=>!(!19)
 |.NotEq=>!(aB true)
 |.In=>!Pt
 |.NotIn=>!vV
 |.Is=>!(oB false)
 |.IsNot=>!(oB true)
def  zO(op:CmpOp)(b:Expr)(fa fb:U0):U0:=match cmpG op with
 |some g=>if lh b then aa g fa fb elseλ_=>none
 |none=>λ_=>none
section
variable{X:Cx}{S:Sn}{a b c:Expr}{pos:Pos}
def Nq(op:Operator){fa fb}(ha:PP X a fa)(hb:PP X b fb):PP X (.BinOp a op b pos) (Np op fa fb):=by
 cases op<;>first
  |exact JY ha hb
  |exact IT ha hb
  |exact IU ha hb
  |exact IV ha hb
  |exact IW ha hb
  |exact IX ha hb
  |exact pp_no
def Nr(o:SnOk X S)(op:CmpOp){fa fb}(ha:PP X a fa)(hb:PP X b fb):PP X (.Compare a [op] [b] pos) (zO op b fa fb):=by
 unfold zO;cases op<;>dsimp only[cmpG]<;>(try split)<;>first
  |exact pp_no
  |exact MH (Vw (Nat.le_add_right _ _) (iX o.room)) ha hb
  |exact MI ha hb
  |exact MJ (Vw (Nat.le_add_right _ _) (iX o.room)) ha hb
  |exact MK ha hb
  |exact MU o.room ha hb
  |exact MV o.room ha hb
  |(rename_i h;exact pp_cmp op_in_seq r_in ha hb (noSet_mark h))
  |(rename_i h;exact pp_cmp op_notIn_seq r_notIn ha hb (noSet_mark h))
  |(rename_i h;exact pp_cmp op_isN r_isN ha hb (noSet_mark h))
  |(rename_i h;exact pp_cmp op_notN r_notN ha hb (noSet_mark h))
def JZ(o:SnOk X S)(op:CmpOp){fa fb}(ha:PP X a fa)(hb:PP X b fb):PQ X (.Compare a [op] [b] pos) (ai (zO op b fa fb)):=by
 have no:PQ X (.Compare a [op] [b] pos) (ai λ_=>none):=λO Y pins s σ H Q I ⟨_,_,q,_⟩=>by cases q
 unfold zO;cases op<;>dsimp only[cmpG]<;>(try split)<;>first
  |exact no
  |exact ML (Vw (Nat.le_add_right _ _) (iX o.room)) ha hb
  |exact MM ha hb
  |exact MN (Vw (Nat.le_add_right _ _) (iX o.room)) ha hb
  |exact MO ha hb
  |exact MW o.room ha hb
  |exact MX o.room ha hb
  |(rename_i h;exact pq_cmp op_in_seq r_in ha hb (noSet_mark h))
  |(rename_i h;exact pq_cmp op_notIn_seq r_notIn ha hb (noSet_mark h))
  |(rename_i h;exact pq_cmp op_isN r_isN ha hb (noSet_mark h))
  |(rename_i h;exact pq_cmp op_notN r_notN ha hb (noSet_mark h))
end
def  Ce(x:Str):Option (Vg->Vi):=if x=("len":Str)then !eB else if x=("isinstance":Str)then !fO else if x=("all":Str)then !jB else if x=("tuple":Str)then !cQ else if x=("sum":Str)then !vT else if x=("min":Str)then !minD' else if x=("int":Str)then !uu else none
def  Cf(S:Sn)(x:Str):Vg->Vi:=if nH S x then(match S.G.fn x with
 |some (k,g)=>if k<=S.k thenλds=>cx (g ds)elseλ_=>none
 |none=>match S.G.ini x with
  |some (k,g)=>if k+1<=S.k thenλds=>Fl x (g ds)elseλ_=>none
  |none=>if S.G.no x then(match Ce x with|some g=>g|none=>λ_=>none)elseλ_=>none)elseλ_=>none
def  Cg(S:Sn)(x:Str):Vg->Vi:=if nH S x then(match S.G.fn x with
 |some (k,g)=>if k<=S.k thenλds=>qF (g ds)elseλ_=>none
 |none=>λ_=>none)elseλ_=>none
section
variable{X:Cx}{S:Sn}{e:Expr}{es:Vh}{p pos:Pos}
def yd{α g:Type}(o:Option α):(o.bind λ_=>(none:Option g))=none:=by cases o<;>rfl
def fJ{fa:UZ}:PP X e (λY=>(fa Y).bind λ_=>none):=λO Y pins s σ H Q I ⟨_,_,q,_⟩=>by dsimp only at q;rw[yd]at q;cases q
def k_call(o:SnOk X S)(x:Str){fa}(ha:PX X (e::es) fa)(hst:(e::es).all aG=true):PP X (!18) (λY=>(fa Y).bind (Cf S x)):=by
 rw[List.all_cons,and_eq_true]at hst;have h1:starEach (e::es) X.env=(false,eval e X.env)::starEach es X.env:=star1 hst.1;have h2:∀pos,(!14).any (·.1)=false:=λpos=>yc hst.2;unfold Cf;split
 .rename_i hg;let⟨ok,gl⟩:=aX o hg;let⟨n1,n2,n3⟩:=cA ok;split
  .rename_i k g hf;split
   .rename_i hk;exact Fh (o.g.fn x k g hf) (o.room.mono hk) gl ha n1 h1 (h2 _)
   .exact fJ
  .split
   .rename_i k g hf;split
    .rename_i hk;exact Fm (o.g.ini x k g hf) (o.room.mono hk) gl ha n1 h1 (h2 _)
    .exact fJ
   .split
    .rename_i hn;have hm:=o.g.no x hn;split
     .rename_i g hb;unfold Ce at hb;split at hb
      .rename_i q;cases hb;subst q;exact pp_callB call_len_seq rn_len gl hm PySem.boot_len ha n3 n1 h1 (h2 _)
      .split at hb
       .rename_i q;cases hb;subst q;exact pp_callB call_isi rn_isi gl hm (!17) ha n3 n1 h1 (h2 _)
       .split at hb
        .rename_i q;cases hb;subst q;exact pp_callB (call_all o.calm) rn_all gl hm (!17) ha n3 n1 h1 (h2 _)
        .split at hb
         .rename_i q;cases hb;subst q;exact pp_callTy call_tuple_of rn_tuple gl hm (!17) ha n3 n1 h1 (h2 _)
         .split at hb
          .rename_i q;cases hb;subst q;exact pp_callB (call_sumL o.calm) rn_sum gl hm b_sum ha n3 n1 h1 (h2 _)
          .split at hb
           .rename_i q;cases hb;subst q;exact pp_callB (call_minA o.calm) rn_minA gl hm b_min ha n3 n1 h1 (h2 _)
           .split at hb
            .rename_i q;cases hb;subst q;exact pp_callTy call_intB rn_intB gl hm (!17) ha n3 n1 h1 (h2 _)
            .cases hb
     .exact fJ
    .exact fJ
 .exact fJ
def k_callR(o:SnOk X S)(x:Str)(I:PX X (e::es) fa)(j:(e::es).all aG=true):ug X (!18) (λY=>(fa Y).bind (Cg S x)):=by
 rw[List.all_cons,and_eq_true]at j;have h1:starEach (e::es) X.env=(false,eval e X.env)::starEach es X.env:=star1 j.1;have h2:∀pos,(!14).any (·.1)=false:=λpos=>yc j.2;have no:ug X (!18) (λY=>(fa Y).bind λ_=>none):=λY=>by dsimp only;rw[yd];exact uh Y
 unfold Cg;split
 .rename_i t;let⟨ok,J⟩:=aX o t;let⟨l,U,T⟩:=cA ok;split
  .rename_i k g C;split
   .rename_i r;exact Fi (o.g.fn x k g C) (o.room.mono r) J I l h1 (h2 _)
   .exact no
  .exact no
 .exact no
end
def ux(e a:Expr)(f:Str)(p:Pos)(l:Nat)(env:Env):swapsWith e (!(.Attribute a f p)) l env=pure false:=by
 cases e<;>rfl
def uy{K}:∀{fd:List (Str×D)}{fs:List (Str×V)},fs.map (·.1)=fd.map (·.1)->IsL K M (fd.map (·.2)) (fs.map (·.2))->fd.lookup h=!d->∃v,fs.lookup h=!v/\Is K M d v
 |[],_,_,_,q=>by cases q
 |_::_,[],e,_,_=>by simp at e
 |(g,c)::fd,(g',u)::fs,e,⟨x,r,z,i,l⟩,q=>by
  have e1:g'=g:=by simp at e;exact e.1
  have e2:fs.map (·.1)=fd.map (·.1):=by simp at e;simpa using e.2
  subst e1;have z':u::fs.map (·.2)=x::r:=z;cases z';rw[List.lookup_cons]at q;cases hb:h==g' with
  |true=>
   rw[hb]at q;cases q;exact⟨u,by rw[List.lookup_cons,hb],i⟩
  |false=>
   rw[hb]at q;let⟨v,h1,h2⟩:=uy e2 l q;exact⟨v,by rw[List.lookup_cons,hb];exact h1,h2⟩
def  Ch(x:Addr)(i:Nat)(g h:Str)(ff:UY)(G:vt):vt:=λY fs=>match iB Y i with
 |some (.sh,.adr a)=>if a=x/\fs.length<900 then((fs.lookup h).bind λd=>(ff [d]).bind λs=>G Y (oI g s.2 fs))else none
 |_=>none
section
variable{X:Cx}{Ca x:Addr}{rest:List Stmt}{pos:Pos}
def FP(i:Nat)(F:Df X.prog X.w X.K X.mg X.base fn k ff)(hr:Room k X.A)(hg:Gl X fn)(T:(fn==("__debug__":Str))=false)(h2:D3 X Ca x rest G)(hN:X.N[i]?=!self)(l:tq X.env.scope self)(hd:(self==("__debug__":Str))=false)(t:(self==("__classdict__":Str))=false)(c:Cls X.K Ca)(na:NoAttr X.K Ca g)(nb:NoAttr X.K Ca h):D3 X Ca x (.Assign [.Attribute (.Name self px) g pos'] (.Call (.Name fn p) [.Attribute (.Name self px2) h apos] [] cpos) pos::rest) (Ch x i g h ff G):=λB O Y dx fd=>by
 let⟨fa,fdt,ps,hm,hk,I,Gf⟩:=F.ex;refine(kM (AK (cM hN l hd t) (nq Gf hr hg hm hk I .nil qw (dG (AJ (cM hN l hd t) rfl) pa_nil) T rfl rfl) (ux _ _ _ _ _ _)) (PSs.ex λz:Bs×(Ve)×Ev×List _=>h2 z.1 z.2.1 z.2.2.1 dx z.2.2.2)).imp λEn σ H ⟨E,hx,⟨fs,a1,U,a3⟩,C,q,k⟩=>?_;have j:(match iB Y i with|some (.sh,.adr a)=>if a=x/\fd.length<900 then((fd.lookup h).bind λd=>(ff [d]).bind λs=>G Y _)else none|_=>none)=!C:=q;split at j
 .rename_i a ha;split at j
  .rename_i hc;let⟨rfl,hl⟩:=hc;let⟨d,q1,j⟩:=VL j;let⟨s,q2,j⟩:=VL j;let⟨v,hv,iv⟩:=uy U a3 q1;let⟨F1,f1,_⟩:=E.fp;let⟨w,ew,ow⟩:=f1 i _ (dv ha);cases(ow.2);refine⟨.ref a,ew,a,Ca,dx,fs,v,rfl,E.same a _ a1,c,nb,hv,?_⟩;refine⟨O,[d],s,E.lis,⟨v,[],rfl,iv,rfl⟩,q2,λy H1 r=>?_⟩;let⟨s1,iy⟩:=r.is E.lis;have E1:=E.grow s1;have hlen:fs.length=fd.length:=by have:=congrArg List.length U;simpa using this
   refine⟨.ref a,ew,a,Ca,dx,fs,rfl,E1.same a _ a1,c,na,by omega,?_⟩;let⟨E3,me⟩:=E1.store hx a1;let⟨b1,b2⟩:=rN iy U (IsL.mono s1.msk _ _ a3);refine⟨⟨⟨aR B.H a (.ins Ca dx _),B.O⟩,O,Y,oI g s.2 fd⟩,E3,hx,⟨_,al,b1,by rw[me];exact b2⟩,C,j,λJ H' O' fs' k1 k2 k3 k4 k5=>k J H' O' fs' (λb o I h=>k1 b o I (by show aR B.H a _ b=!o;rw[ag I];exact h)) k2 k3 k4 k5⟩
  .cases j
 .cases j
end
noncomputable def  wA(N:Vc)(nm:List (Str×NameKind)):Vb:=(List.range N.length).filter λi=>match N[i]? with|some x=>decide (nm.lookup x=some .local)|none=>false
def uz(h:N[i]?=!x)(h2:nm.lookup x=some .local):i∈wA N nm:=by grind [wA]
def  Ci(S:Sn)(x:Str):Option Nat:=if S.nm.lookup x=some .local then rL S.N x else none
mutual
noncomputable def  Nt(S:Sn):Nat->Expr->D->Vv->Option Vv
 |0=>λ_ _ _=>none
 |n+1=>λe=>match e with
  |.Name x _=>(match Ci S x with|some i=>gNm i|none=>λ_ _=>none)
  |.Tuple ts _ _=>if ts.all aG then kc ts.length (FQ S n ts)elseλ_ _=>none
  |_=>λ_ _=>none
noncomputable def  FQ(S:Sn):Nat->Vh->Vg->Vv->Option Vv
 |0=>λ_ _ _=>none
 |n+1=>λes=>match es with
  |[]=>bd
  |t::ts=>if aG t then ao (Nt S n t) (FQ S n ts)elseλ_ _=>none
end
def  r6(S:Sn)(x:Str):Option Nat:=if S.nm.lookup x=some .local\/S.nm.lookup x=some .cell then rL S.N x else none
mutual
noncomputable def  D5(S:Sn):Nat->Expr->D->Ev->Option Ev
 |0=>λ_ _ _=>none
 |n+1=>λe=>match e with
  |.Name x _=>(match r6 S x with|some i=>dk i|none=>λ_ _=>none)
  |.Tuple ts _ _=>if ts.all aG then zu ts.length (FR S n ts)elseλ_ _=>none
  |_=>λ_ _=>none
noncomputable def  FR(S:Sn):Nat->Vh->Vg->Ev->Option Ev
 |0=>λ_ _ _=>none
 |n+1=>λes=>match es with
  |[]=>lU
  |t::ts=>if aG t then b8 (D5 S n t) (FR S n ts)elseλ_ _=>none
end
section
variable{X:Cx}{S:Sn}
def asg1(h:aG t=true):(assignEach (t::g) env).map (·.2)=assign t env::(assignEach g env).map (·.2):=by
 cases t<;>first|rfl|cases h
def asgLen:∀{ts:Vh},(assignEach ts env).length=ts.length
 |[]=>rfl
 |t::ts=>by cases t<;>exact congrArg (·+1) (asgLen (ts:=ts))
def Cj:∀{ts:Vh},ts.all aG=true->(assignEach ts env).findIdx? (·.1)=none
 |[],_=>rfl
 |t::ts,h=>by
  rw[List.all_cons,and_eq_true]at h;have ih:=Cj (env:=env) h.2;have:assignEach (t::ts) env=(false,assign t env)::assignEach ts env:=by
   have h1:=h.1;cases t<;>first|rfl|cases h1
  rw[this,List.findIdx?_cons];simp[ih]
def ye:Jg X ks e (λ_ _=>none):=λO Y d pins s σ H v u Q I r ⟨_,_,_,q,_⟩=>by cases q
def Ck:zn X ks e (λ_ _=>none):=λO Y d pins s σ H v u Q I r ⟨_,_,_,q,_⟩=>by cases q
def yg:Fa X e (λ_ _=>none):=λB O Y d pins s σ H v u Q I r ⟨_,_,_,q,_⟩=>by cases q
def Cm:zt X e (λ_ _=>none):=λB O Y d pins s σ H v u Q I r ⟨_,_,_,q,_⟩=>by cases q
def wB(h:Ci S x=!i):S.nm.lookup x=some .local/\S.N[i]?=!x:=by
 unfold Ci at h;split at h
 .exact⟨by assumption,gB h⟩
 .cases h
def uA(h:r6 S x=!i):(S.nm.lookup x=some .local\/S.nm.lookup x=some .cell)/\S.N[i]?=!x:=by
 unfold r6 at h;split at h
 .exact⟨by assumption,gB h⟩
 .cases h
def HL(o:SnOk X S):∀n,(∀e,Jg X (wA S.N S.nm) e (Nt S n e))/\∀es,zn X (wA S.N S.nm) es (FQ S n es):=by
 intro n;induction n with
 |zero=>exact⟨λe=>ye,λes=>Ck⟩
 |succ n g=>
  refine⟨λe=>?_,λes=>?_⟩
  .unfold Nt;split
   .split
    .rename_i i hi;let⟨h1,h2⟩:=wB hi;exact ES (by rw[o.N];exact o.nd) (by rw[o.N];exact h2) (.inl (o.loc _ h1)) (uz h2 h1) (.inr (o.loc _ h1))
    .exact ye
   .split
    .rename_i h;exact Jh o.calm (g.2 _) asgLen (Cj h)
    .exact ye
   .exact ye
  .unfold FQ;split
   .exact ET
   .split
    .rename_i h;exact gsd_cons (g.1 _) (g.2 _) (asg1 h)
    .exact Ck
def yh(o:SnOk X S)(l:∀x,X.fn x=true):∀n,(∀e,Fa X e (D5 S n e))/\∀es,zt X es (FR S n es):=by
 intro n;induction n with
 |zero=>exact⟨λe=>yg,λes=>Cm⟩
 |succ n g=>
  refine⟨λe=>?_,λes=>?_⟩
  .unfold D5;split
   .split
    .rename_i i hi;let⟨h1,h2⟩:=uA hi;have j:Eg X.env.scope _:=h1.elim (λh=>.inl (o.loc _ h)) (λh=>.inr (o.cel _ h));exact Fb (by rw[o.N];exact o.nd) (by rw[o.N];exact h2) j (.inl (l _))
    .exact yg
   .split
    .rename_i h;exact Jw o.calm (g.2 _) asgLen (Cj h)
    .exact yg
   .exact yg
  .unfold FR;split
   .exact Fc
   .split
    .rename_i h;exact gse_cons (g.1 _) (g.2 _) (asg1 h)
    .exact Cm
noncomputable def  li(S:Sn)(sc:Scope):Bool:=decide (sc.kind=.function)&&sc.names.all λy=>not (decide (y.2=.cell))&&(not (decide (y.2=.local))||decide (sc.names.lookup y.1=some .local))&&
 (not (decide (y.2=.free))||decide (S.nm.lookup y.1=some .cell)||decide (S.nm.lookup y.1=some .free))
def wC(o:SnOk X S)(h:li S l=true):CSc X l (wA S.N l.names):=by
 unfold li at h;rw[and_eq_true]at h;have t:=Vt h.1;have j:=List.all_eq_true.mp h.2;refine⟨t,λy g z=>?_,λy g z=>?_,λy g z=>?_,λi x p r=>uz (by rw[<-o.N];exact p) r⟩
 .have:=j y g;simp[z]at this
 .have:=j y g;simp[z]at this;exact this
 .have:=j y g;simp[z]at this;rcases this with q|q
  .exact .inl (o.cel _ q)
  .exact o.fre _ q
def mO{f:Str → NameKind → NameKind}:∀{l:List (Str × NameKind)},(l.map fun y=>(y.1,f y.1 y.2)).lookup x = (l.lookup x).map (f x)
  | []=>rfl
  | (n,k) :: l=>by
    rw [List.map_cons,List.lookup_cons,List.lookup_cons]
    cases h:x == n with
    | true => have : x = n := by simpa using h
              subst this; rfl
    | false=>exact mO
def gV:(relabel g env).names.lookup x=(g.names.lookup x).map λk=>if(k==NameKind.free&&env.scope.kind==.function&&env.kindOf x==some .cell)then NameKind.cell else k:=by
 have e:(relabel g env).names=g.names.map λy=>(y.1,if(y.2==NameKind.free&&env.scope.kind==ScopeKind.function&&env.kindOf y.1==!NameKind.cell)then NameKind.cell else y.2):=by
  apply List.map_congr_left;rintro⟨n,k⟩ _;dsimp only;split<;>rfl
 rw[e];exact mO (f:=λn k=>if(k==NameKind.free&&env.scope.kind==ScopeKind.function&&env.kindOf n==!NameKind.cell)then NameKind.cell else k)
def uB(o:SnOk X S){j:Scope}(h:li S j=true)(C:Addr)(s:Shared)(H:Hp)(fp:List Addr):SnOk (n6 X j C s H fp) {S with nm:=j.names} where
 g:=o.g
 N:=o.N
 nd:=o.nd
 calm:=o.calm
 room:=o.room
 loc:=λx q=>by
  show(relabel j X.env).names.lookup x=_;rw[gV,show j.names.lookup x=some .local from q];rfl
 cel:=λx q=>by
  exfalso;have l:=q;exact(wC o h).nocell _ (PySem.mem_of_lookup l) rfl
 fre:=λx q=>by
  show(relabel j X.env).names.lookup x=_\/(relabel j X.env).names.lookup x=_;rw[gV,show j.names.lookup x=some .free from q];dsimp only[Option.map];split
  .exact .inl rfl
  .exact .inr rfl
 glo:=λx q=>by
  show(relabel j X.env).names.lookup x=_;rw[gV,show j.names.lookup x=some .globalImplicit from q];rfl
end
noncomputable def  Co:Const->U0
 |.int i=>λ_=>!(.int i)
 |.bool b=>λ_=>!(.bl b)
 |.none=>λ_=>some .non
 |.str x=>λ_=>!(.str x)
 |_=>λ_=>none
def  af{α:Type}:Vv->Option α:=λ_=>none
noncomputable def  Cp:Expr->Bool
 |.UnaryOp .Not _ _=>false
 |.BoolOp _ _ _=>false
 |.IfExp _ _ _ _=>false
 |.Compare _ _ _ _=>false
 |_=>true
def plainT_ok(h:Cp e=true):∀whole,isTrue e env whole=(do let v<-whole;standAt e.pos;holding [v] (truthy v)):=by
 intro whole;cases e with
 |UnaryOp op a pos=>cases op<;>first|rfl|cases h
 |BoolOp _ _ _=>cases h
 |IfExp _ _ _ _=>cases h
 |Compare _ _ _ _=>cases h
 |_=>rfl
noncomputable def  uC:Expr->Bool
 |.Slice _ _ _ _=>false
 |_=>true
def noSl_ok(h:uC b=true):nr b:=by
 intro o i;cases b<;>first|rfl|cases h
def  Nu:Expr->Bool
 |.BinOp _ _ _ _=>true
 |_=>false
def  Ut:Expr->Bool
 |.ListComp _ _ _ _=>true
 |.List (.List _ _::_) _=>true
 |.Subscript _ k _=>not (uC k)
 |_=>false
def  Uu:Expr->Bool
 |.BinOp _ op b _=>(match op with
  |.Add=>Ut b
  |_=>false)
 |_=>false
def  Nv:Expr->Bool
 |.Tuple _ _ _=>true
 |_=>false
def  HM(S:Sn)(m:Str)(apos pos:Pos)(args:Vh):Bool:=args.all aG&&decide (args.length<30)&&(apos.endLine==pos.line)
noncomputable def  Cq:Expr->Option (Str×Expr)
 |.Call f as ks _=>(match f,as,ks with
  |.Name g _,[b],[]=>!(g,b)
  |_,_,_=>none)
 |_=>none
def wE(h:Cq e=!(g,b)):∃p q,e=.Call (.Name g p) [b] [] q:=by
 unfold Cq at h;grind
def  J0(S:Sn)(f:Str):Vh->Option Expr
 |[a]=>(match Cq a with
  |some (g,b)=>if f=("tuple":Str)/\g=("reversed":Str)/\nH S f=true/\S.G.no f=true/\nH S g=true/\S.G.no g=true/\aG b=true then !b else none
  |none=>none)
 |_=>none
def zP(h:J0 S f as=!b):∃p q,as=[.Call (.Name "reversed" p) [b] [] q]/\f=("tuple":Str)/\nH S "tuple"=true/\S.G.no "tuple"=true/\nH S "reversed"=true/\S.G.no "reversed"=true/\aG b=true:=by
 unfold J0 at h;split at h
 .split at h
  .rename_i g l j;split at h
   .rename_i k;cases h;let⟨p,q,rfl⟩:=wE j;let⟨rfl,rfl,k⟩:=k;exact⟨p,q,rfl,rfl,k⟩
   .cases h
  .cases h
 .cases h
def  J2(S:Sn):Expr->Vh->List Keyword->Option Expr
 |.Name f _,[a],[k]=>(match k.value with
  |.Constant .none _ _=>if f=("min":Str)/\k.arg=!("default":Str)/\nH S f=true/\S.G.no f=true/\aG a=true then !a else none
  |_=>none)
 |_,_,_=>none
def zQ{S:Sn}{f a:Expr}{as:Vh}{ks:List Keyword}(h:J2 S f as ks=!a):∃p k2 p2 kp,f=.Name "min" p/\as=[a]/\ks=[⟨some "default",.Constant .none k2 p2,kp⟩]/\nH S "min"=true/\S.G.no "min"=true/\aG a=true:=by
 unfold J2 at h;split at h
 .rename_i f p a k;let⟨k1,k2,k3⟩:=k;split at h
  .rename_i j q e;let⟨⟨rfl,e2,h1,h2,h3⟩,rfl⟩:=ay h;cases e;cases e2;exact⟨_,_,_,_,rfl,rfl,rfl,h1,h2,h3⟩
  .cases h
 .cases h
mutual
noncomputable def  rd:Nat->Sn->Expr->U0
 |0=>λ_ _=>af
 |n+1=>λS e=>match e with
  |.Constant c _ _=>Co c
  |.Name x _=>No S x
  |.BinOp a op b _=>if Uu e thenλY=>(rf n S e Y).map D.lst else Np op (rd n S a) (rd n S b)
  |.UnaryOp op a _=>(match op with
   |.Not=>EJ (rd n S a)
   |.USub=>λY=>(rd n S a Y).bind uf
   |_=>af)
  |.BoolOp op vs p=>rl n S op vs p
  |.Compare a ops bs _=>(match ops,bs with
   |[op],[b]=>zO op b (rd n S a) (rd n S b)
   |[.LtE,.LtE],[b,c]=>if lh c then ez ot ot (rd n S a) (rd n S b) (rd n S c)else af
   |_,_=>af)
  |.IfExp c a b _=>EK (rq n S c) (rd n S a) (rd n S b)
  |.Tuple es _ _=>λY=>(bM (rx n S es Y)).bind λds=>!(.tup ds)
  |.Attribute o m _=>(match o with
   |.Name x _=>λY=>(No S x Y).bind (m8 S.G.fl m)
   |_=>af)
  |.Subscript a b _=>(match b with
   |.Slice lo hi none _=>aW (rH (rd n S a) (ro n S lo) (ro n S hi)) λY=>(kW (rd n S a) (ro n S lo) (ro n S hi) Y).map D.lst
   |b=>if uC b then aa ak (rd n S a) (rd n S b)else af)
  |.Call f as ks pos=>(match ks with
   |[]=>(match f with
    |.Name f _=>(match as with
     |[]=>af
     |a::as=>match J0 S f (a::as)with
      |some b=>λY=>(rx n S [b] Y).bind JN
      |none=>aW (if(a::as).all aG thenλY=>(rx n S (a::as) Y).bind (Cf S f)else af) λY=>(rf n S e Y).map D.lst)
    |.Attribute o m apos=>(match o with
     |.Name x _=>(match as with
      |[]=>if HM S m apos pos []thenλY=>cx (kY (No S x) (λ_=>![]) (S.G.mt m) S.k m Y)else af
      |_=>af)
     |_=>af)
    |_=>af)
   |_=>(match J2 S f as ks with
    |some a=>λY=>(rx n S [a] Y).bind (B8 .non)
    |none=>af))
  |_=>λY=>(rf n S e Y).map D.lst
noncomputable def  rl:Nat->Sn->BoolOp->Vh->Pos->U0
 |0=>λ_ _ _ _=>af
 |n+1=>λS op vs p=>match op,vs with
  |_,[a]=>rd n S a
  |.And,a::b::r=>jA (rd n S a) (rl n S .And (b::r) p)
  |.Or,a::b::r=>MP (rd n S a) (rl n S .Or (b::r) p)
  |_,_=>af
noncomputable def  rq:Nat->Sn->Expr->U2
 |0=>λ_ _=>af
 |n+1=>λS e=>match e with
  |.UnaryOp op a _=>(match op with
   |.Not=>cP (rq n S a)
   |_=>af)
  |.BoolOp op vs p=>rb n S op vs p
  |.Compare a ops bs _=>(match ops,bs with
   |[op],[b]=>ai (zO op b (rd n S a) (rd n S b))
   |[.LtE,.LtE],[b,c]=>if lh c then ai (ez ot ot (rd n S a) (rd n S b) (rd n S c))else af
   |_,_=>af)
  |e=>if Cp e thenλY=>(rd n S e Y).bind t5 else af
noncomputable def  rb:Nat->Sn->BoolOp->Vh->Pos->U2
 |0=>λ_ _ _ _=>af
 |n+1=>λS op vs p=>match op,vs with
  |.And,[a]=>rq n S a
  |.Or,[a]=>rq n S a
  |.And,a::b::r=>tZ (rq n S a) (rb n S .And (b::r) p)
  |.Or,a::b::r=>t4 (rq n S a) (rb n S .Or (b::r) p)
  |_,_=>af
noncomputable def  rx:Nat->Sn->Vh->UZ
 |0=>λ_ _=>af
 |n+1=>λS es=>match es with
  |[]=>λ_=>![]
  |a::as=>if aG a then ac (rd n S a) (rx n S as)else af
noncomputable def  ro:Nat->Sn->Option Expr->Vv->Option (Vj)
 |0=>λ_ _=>af
 |n+1=>λS e=>match e with
  |none=>λ_=>!none
  |some e=>au (rd n S e)
noncomputable def  rf:Nat->Sn->Expr->UZ
 |0=>λ_ _=>af
 |n+1=>λS e=>match e with
  |.List es _=>λY=>bM (rx n S es Y)
  |.ListComp elt gs sc _=>(match gs with
   |[g]=>if li S sc&&lh g.iter&&decide (g.is_async=0)then
    ae (wA S.N sc.names) (rj n S g.target g.iter) (Nt {S with nm:=sc.names} n g.target) (rqs n {S with nm:=sc.names} g.ifs) (rd n {S with nm:=sc.names} elt)else af
   |_=>af)
  |.Subscript a b _=>(match b with
   |.Slice lo hi none _=>kW (rd n S a) (ro n S lo) (ro n S hi)
   |_=>af)
  |.BinOp a op b _=>(match op with
   |.Add=>bI (if Nu a then aW (rd n S a) (λY=>(rf n S a Y).map D.lst)else rd n S a) (rd n S b)
   |_=>af)
  |.Call f as ks _=>(match ks with
   |[]=>(match f with
    |.Name f _=>(match as with
     |[a]=>if f=("list":Str)/\nH S f=true/\S.G.no f=true/\aG a=true then aW (rv n S a) (λY=>(rx n S [a] Y).bind mI)
   else if f=("sorted":Str)/\nH S f=true/\S.G.no f=true/\aG a=true thenλY=>(rx n S [a] Y).bind cX else af
     |_=>af)
    |_=>af)
   |_=>af)
  |_=>af
noncomputable def  rv:Nat->Sn->Expr->UZ
 |0=>λ_ _=>af
 |n+1=>λS e=>match e with
  |.Call (.Name f _) [a] [] _=>if f=("range":Str)/\nH S f=true/\S.G.no f=true/\nH S "list"=true/\S.G.no "list"=true/\aG a=true thenλY=>(rx n S [a] Y).bind Py else af
  |_=>af
noncomputable def  rqs:Nat->Sn->Vh->U2
 |0=>λ_ _=>af
 |n+1=>λS es=>match es with
  |[]=>λ_=>!true
  |[c]=>rq n S c
  |_=>af
noncomputable def  rj:Nat->Sn->Expr->Expr->UZ
 |0=>λ_ _ _=>af
 |n+1=>λS tg e=>aW (match e with
  |.Call (.Name f _) [a] [] _=>if f=("range":Str)/\nH S f=true/\S.G.no f=true/\aG a=true thenλY=>(rx n S [a] Y).bind kT
   else if f=("enumerate":Str)/\nH S f=true/\S.G.no f=true/\aG a=true/\Nv tg=true thenλY=>(rx n S [a] Y).bind xS
   else if f=("reversed":Str)/\nH S f=true/\S.G.no f=true/\aG a=true thenλY=>(rx n S [a] Y).bind Pw else af
  |.Call (.Name f _) [a,b] [] _=>if f=("zip":Str)/\nH S f=true/\S.G.no f=true/\aG a=true/\aG b=true/\Nv tg=true thenλY=>(rx n S [a,b] Y).bind zq else af
  |_=>af) λY=>(rd n S e Y).bind seqD
end
section
variable{X:Cx}{S:Sn}{e:Expr}{es:Vh}{pos:Pos}
def PP.u(h:PP X e f)(g:gS e=false):PPu X e f:=λO Y=>(h O Y).pu g
def PPu.p(h:PPu X e f):PP X e f:=λO Y=>(h O Y).1
def PF.u(h:PF X e f)(g:gS e=false):PFu X e f:=λO Y=>(h O Y).pu g
def uD:PQ X e af:=λO Y pins s σ H Q I ⟨_,_,q,_⟩=>by cases q
def Cr:PWQ X e af:=λO Y g pins s σ H Q I ⟨_,_,q,_⟩=>by cases q
def HN:PX X es af:=λO Y pos pins s σ H Q I ⟨_,_,q,_⟩=>by cases q
def Cs:Ji X es af:=λO Y pins s σ H Q I ⟨_,_,q,_⟩=>by cases q
def yi:PJ X tg e af:=λO Y pins s σ H R I ⟨_,_,q,_⟩=>by cases q
def J3{e}:EY X e af:=λO Y pins s σ H Q I ⟨_,_,q,_⟩=>by cases q
def Nw(h1:PJ X tg e f)(h2:PJ X tg e g):PJ X tg e (aW f g):=λO Y pins s σ H R I ⟨E,ds,q,k⟩=>by
 rcases or_some q with q|q
 .exact h1 O Y pins s σ H R I ⟨E,ds,q,k⟩
 .exact h2 O Y pins s σ H R I ⟨E,ds,q,k⟩
def FS{K}(h:tP K O Y (o.map D.lst) σ H Q):Mv K O Y o σ H Q:=by
 let⟨E,d,e,k⟩:=h;cases o with
 |none=>cases e
 |some ds=>
  cases e;refine⟨E,ds,rfl,λp xs H' s g l=>?_⟩;have j:=(E.grow s).fresh g;exact k _ _ (s.trans (Same.new g)) ⟨p,xs,rfl,.of (by rw[aN j,al]),IsL.mono (Same.new g).msk _ _ l⟩
def PFu.pp(h:PFu X e f):PPu X e (λY=>(f Y).map D.lst):=λO Y=>(h O Y).imp λσ H Q q=>FS q
def J5(h1:PFu X e f)(h2:PFu X e g):PFu X e (aW f g):=λO Y=>(h1 O Y).by2 (h2 O Y) λσ H Q ⟨E,ds,q,k⟩=>by
 rcases or_some q with q|q;all_goals grind
def Ct(r:X.calm=true)(C:CSc X scope ks)(hi:PJ X tg iter I)(o:∀C s H fp,Jg (!12) ks tg g)(j:∀C s H fp,Ji (!12) ifs t)(p:∀C s H fp,PP (!12) elt J)(l:∀x,foldedSetIterable iter X.env x=pure x):PFu X (!9) (ae ks I g t J):=λO Y=>
 (xM r C (hi O Y) (λC s H fp=>PG.ex λz:(Ve)×Vv×D=>o C s H fp z.1 z.2.1 z.2.2) (λC s H fp=>PTs.ex λz:(Ve)×Vv=>j C s H fp z.1 z.2) (λC s H fp=>PE.ex λz:(Ve)×Vv=>p C s H fp z.1 z.2) l).imp λσ H Q h=>Bc h
def FT(r:X.calm=true)(C:CSc X scope ks)(hi:PJ X tg iter I)(o:∀C s H fp,Jg (!12) ks tg g)(j:∀C s H fp,Ji (!12) ifs t)(p:∀C s H fp,ug (!12) elt J)(l:∀x,foldedSetIterable iter X.env x=pure x):ug X (!9) (λY=>(ae ks I g t J Y).bind λds=>!(.lst ds)):=λY=>
 (xM r C (hi mL Y) (λC s H fp=>PG.ex λz:(Ve)×Vv×D=>o C s H fp z.1 z.2.1 z.2.2) (λC s H fp=>PTs.ex λz:(Ve)×Vv=>j C s H fp z.1 z.2) (λC s H fp=>PE.ex λz:Vv=>(p C s H fp z).1) l).imp λσ H Q h=>vY h
def FU(c:Const):PP X (.Constant c j pos) (Co c):=by
 cases c<;>first|exact pp_int|exact pp_bl|exact pp_non|exact pp_str|exact pp_no
structure Snd(n:Nat):Prop where
 rd:∀X S,SnOk X S->∀e,PPu X e (rd n S e)
 rl:∀X S,SnOk X S->∀op vs p,PP X (.BoolOp op vs p) (rl n S op vs p)
 rq:∀X S,SnOk X S->∀e,PQ X e (rq n S e)
 rb:∀X S,SnOk X S->∀op vs p,PWQ X (.BoolOp op vs p) (rb n S op vs p)
 rx:∀X S,SnOk X S->∀es,PX X es (rx n S es)
 ro:∀X S,SnOk X S->∀e,EY X e (ro n S e)
 rf:∀X S,SnOk X S->∀e,PFu X e (rf n S e)
 rv:∀X S,SnOk X S->∀e p q,PFu X (.Call (.Name "list" p) [e] [] q) (rv n S e)
 rqs:∀X S,SnOk X S->∀es,Ji X es (rqs n S es)
 rj:∀X S,SnOk X S->∀tg e,PJ X tg e (rj n S tg e)
def lastM(h:lh c=true):lastMarks [.LtE,.LtE] [b,c]=false:=noSet_mark h
def Q7(n:Nat)(I:Snd n)(o:SnOk X S)(e:Expr):PPu X e (rd (n+1) S e):=by
 have P:=λe=>(I.rd X S o e).p;have no:PPu X e af:=rK;unfold L2.rd;split
 .exact(FU _).u rfl
 .exact(wz o _).u rfl
 .split
  .exact(I.rf X S o _).pp
  .exact(Nq _ (P _) (P _)).u rfl
 .split
  .exact(I0 (P _)).u rfl
  .exact(Jn (P _)).u rfl
  .exact no
 .exact(I.rl X S o _ _ _).u rfl
 .split
  .exact(Nr o _ (P _) (P _)).u rfl
  .split
   .rename_i h;exact(pp_lele (P _) (P _) (P _) (lastM h)).u rfl
   .exact no
  .exact no
 .exact(MR (I.rq X S o _) (P _) (P _)).u rfl
 .exact(A7 (I.rx X S o _)).u rfl
 .split
  .exact(JC (wz o _) (λC Ca h1 h2=>o.g.fl C _ Ca h1 h2) rfl).u rfl
  .exact no
 .split
  .exact vX ((Jp (P _) (I.ro X S o _) (I.ro X S o _)).u rfl) ((Br (P _) (I.ro X S o _) (I.ro X S o _)).u rfl).pp
  .split
   .rename_i h;exact(pp_ix (P _) (P _) (noSl_ok h)).u rfl
   .exact no
 .split
  .split
   .split
    .exact no
    .split
     .rename_i b hb;let⟨_,_,he,rfl,h1,h2,h3,h4,h5⟩:=zP hb;cases he;let⟨ok,gl⟩:=aX o h1;let⟨ok2,gl2⟩:=aX o h3;exact(JO o.calm gl (o.g.no _ h2) gl2 (o.g.no _ h4) (I.rx X S o _) (star1 h5)).u rfl
     .refine vX ?_ (I.rf X S o _).pp;split
      .rename_i h;exact(k_call o _ (I.rx X S o _) h).u rfl
      .exact rK
   .split
    .split
     .split
      .rename_i h;unfold HM at h;rw[and_eq_true,and_eq_true]at h;exactλO Y=>(JE (zx (wz o _) (λC k f q=>o.g.mt _ C k f q) o.room h.2 O Y)).pu rfl
      .exact no
     .exact no
    .exact no
   .exact no
  .split
   .rename_i a hk;let⟨_,_,_,_,rfl,rfl,rfl,h1,h2,h3⟩:=zQ hk;let⟨ok,gl⟩:=aX o h1;exact(FN o.calm gl (o.g.no _ h2) (I.rx X S o _) (star1 h3)).u rfl
   .exact no
 .exact(I.rf X S o _).pp
def Q8(n:Nat)(I:Snd n)(o:SnOk X S)(op:BoolOp)(vs:Vh)(p:Pos):PP X (.BoolOp op vs p) (rl (n+1) S op vs p):=by
 have P:=λe=>(I.rd X S o e).p;unfold L2.rl;split
 .exact IY (P _)
 .exact IZ (P _) (I.rl X S o _ _ _)
 .exact MQ (P _) (I.rl X S o _ _ _)
 .exact pp_no
def Q9(n:Nat)(I:Snd n)(o:SnOk X S)(e:Expr):PQ X e (rq (n+1) S e):=by
 have P:=λe=>(I.rd X S o e).p;unfold L2.rq;split
 .split
  .exact Ja (I.rq X S o _)
  .exact uD
 .exact(I.rb X S o _ _ _).pq
 .split
  .exact JZ o _ (P _) (P _)
  .split
   .rename_i h;exact pq_lele (P _) (P _) (P _) (lastM h)
   .exact uD
  .exact uD
 .split
  .rename_i h;exact pq_val (P _) (plainT_ok h)
  .exact uD
def Ra(n:Nat)(I:Snd n)(o:SnOk X S)(op:BoolOp)(g:Vh)(p:Pos):PWQ X (.BoolOp op g p) (rb (n+1) S op g p):=by
 unfold L2.rb;split
 .exact pw_and1D (I.rq X S o _)
 .exact pw_or1D (I.rq X S o _)
 .exact pw_andD (I.rq X S o _) (I.rb X S o _ _ _)
 .exact pw_orD (I.rq X S o _) (I.rb X S o _ _ _)
 .exact Cr
def Rb(n:Nat)(I:Snd n)(o:SnOk X S)(es:Vh):PX X es (rx (n+1) S es):=by
 unfold L2.rx;split
 .exact vQ
 .split
  .rename_i h;exact px_cons (I.rd X S o _).p (I.rx X S o _) (star1 h)
  .exact HN
def Rc(n:Nat)(I:Snd n)(o:SnOk X S)(e:Option Expr):EY X e (ro (n+1) S e):=by
 unfold L2.ro;split
 .exact Bp
 .exact Bq (I.rd X S o _).p
def Nx(n:Nat)(I:Snd n)(o:SnOk X S)(es:Vh):Ji X es (rqs (n+1) S es):=by
 unfold L2.rqs;split
 .exact EU
 .exact EV (I.rq X S o _)
 .exact Cs
def J6:bootBuiltins "list"=!(.type "list"):=by decide+kernel
def Re(n:Nat)(I:Snd n)(o:SnOk X S)(e:Expr):PFu X e (rf (n+1) S e):=by
 have P:=λe=>(I.rd X S o e).p;unfold L2.rf;split
 .exact(Jb (I.rx X S o _)).u rfl
 .split
  .rename_i g;split
   .rename_i h;rw[and_eq_true,and_eq_true]at h;let⟨tg,iter,ifs,as⟩:=g;have t:as=0:=Vt h.2;subst t;have j:=uB o h.1.1;exact Ct o.calm (wC o h.1.1) (I.rj X S o _ _) (λC s H fp=>(HL (j C s H fp) n).1 tg) (λC s H fp=>I.rqs _ _ (j C s H fp) _) (λC s H fp=>(I.rd _ _ (j C s H fp) _).p) (gU h.1.2)
   .exact du
  .exact du
 .split
  .exact(Br (P _) (I.ro X S o _) (I.ro X S o _)).u rfl
  .exact du
 .split
  .refine(JK ?_ (P _)).u rfl;split
   .exact(vX (I.rd X S o _) (I.rf X S o _).pp).p
   .exact P _
  .exact du
 .split
  .split
   .split
    .split
     .rename_i h;let⟨rfl,h1,h2,l⟩:=h;let⟨ok,r⟩:=aX o h1;exact J5 (I.rv X S o _ _ _) ((EN r (o.g.no _ h2) J6 (I.rx X S o _) (star1 l)).u rfl)
     .split
      .rename_i h;let⟨rfl,h1,h2,l⟩:=h;let⟨ok,r⟩:=aX o h1;exact(B5 o.room r (o.g.no _ h2) (I.rx X S o _) (star1 l)).u rfl
      .exact du
    .exact du
   .exact du
  .exact du
 .exact du
def Rf(n:Nat)(I:Snd n)(o:SnOk X S)(e:Expr)(p q:Pos):PFu X (.Call (.Name "list" p) [e] [] q) (rv (n+1) S e):=by
 unfold L2.rv;split
 .split
  .rename_i h;let⟨rfl,h1,h2,C,t,r⟩:=h;let⟨ok,J⟩:=aX o h1;let⟨l,j⟩:=aX o C;exact(FI o.calm j (o.g.no _ t) J (o.g.no _ h2) (I.rx X S o _) (star1 r)).u rfl
  .exact du
 .exact du
def Rg(n:Nat)(I:Snd n)(o:SnOk X S)(tg e:Expr):PJ X tg e (rj (n+1) S tg e):=by
 unfold L2.rj;refine Nw ?_ (Jf (I.rd X S o _).p);split
 .split
  .rename_i h;let⟨rfl,h1,h2,h3⟩:=h;let⟨ok,gl⟩:=aX o h1;exact zm gl (o.g.no _ h2) (I.rx X S o _) (star1 h3)
  .split
   .rename_i h;let⟨rfl,h1,h2,h3,h4⟩:=h;let⟨ok,gl⟩:=aX o h1;cases tg<;>first
     |exact JJ gl (o.g.no _ h2) (I.rx X S o _) (star1 h3)
     |cases h4
   .split
    .rename_i h;let⟨rfl,h1,h2,h3⟩:=h;let⟨ok,gl⟩:=aX o h1;exact Nf gl (o.g.no _ h2) (I.rx X S o _) (star1 h3)
    .exact yi
 .split
  .rename_i h;let⟨rfl,h1,h2,h3,h4,h5⟩:=h;let⟨ok,gl⟩:=aX o h1;cases tg<;>first
    |exact Jm gl (o.g.no _ h2) (I.rx X S o _) (by rw[star1 h3,star1 h4];rfl) (star1 h4)
    |cases h5
  .exact yi
 .exact yi
def sound:∀n,Snd n
 |0=>⟨λ_ _ _ _=>rK,λ_ _ _ _ _ _=>pp_no,λ_ _ _ _=>uD,λ_ _ _ _ _ _=>Cr,λ_ _ _ _=>HN,λ_ _ _ _=>J3,λ_ _ _ _=>du,λ_ _ _ _ _ _=>du,λ_ _ _ _=>Cs,λ_ _ _ _ _=>yi⟩
 |n+1=>⟨λX S o e=>Q7 n (sound n) o e,λX S o op vs p=>Q8 n (sound n) o op vs p,λX S o e=>Q9 n (sound n) o e,λX S o op vs p=>Ra n (sound n) o op vs p,λX S o es=>Rb n (sound n) o es,λX S o e=>Rc n (sound n) o e,
  λX S o e=>Re n (sound n) o e,λX S o e p q=>Rf n (sound n) o e p q,λX S o es=>Nx n (sound n) o es,λX S o tg e=>Rg n (sound n) o tg e⟩
end
mutual
noncomputable def  fr:Nat->Sn->Expr->U0
 |0=>λ_ _=>af
 |n+1=>λS e=>aW (λY=>vq (rd n S e Y)) (aW (λY=>iA (rf n S e Y)) (match e with
  |.List es _=>λY=>(bM (Ny n S es Y)).bind λds=>!(.lst ds)
  |.Tuple es _ _=>λY=>(bM (Ny n S es Y)).bind λds=>!(.tup ds)
  |.Dict [] [] _=>λ_=>!(.dct [] [])
  |.ListComp elt [g] sc _=>if li S sc&&lh g.iter&&decide (g.is_async=0)then
   λY=>(ae (wA S.N sc.names) (rj n S g.target g.iter) (Nt {S with nm:=sc.names} n g.target) (rqs n {S with nm:=sc.names} g.ifs) (fr n {S with nm:=sc.names} elt) Y).bind λds=>!(.lst ds)else af
  |.Call (.Name f _) (a::as) [] _=>if(a::as).all aG thenλY=>(rx n S (a::as) Y).bind (Cg S f)else af
  |_=>af))
noncomputable def  Ny:Nat->Sn->Vh->UZ
 |0=>λ_ _=>af
 |n+1=>λS es=>match es with
  |[]=>λ_=>![]
  |a::as=>if aG a then ac (fr n S a) (Ny n S as)else af
end
def Cu:vW X es af:=λY pos pins s σ H Q I ⟨_,_,q,_⟩=>by cases q
def Rh:∀n,(∀X S,SnOk X S->∀e,ug X e (fr n S e))/\∀X S,SnOk X S->∀es,vW X es (Ny n S es):=by
 intro n;induction n with
 |zero=>exact⟨λX S o e=>uh,λX S o es=>Cu⟩
 |succ n j=>
  refine⟨λX S o e=>?_,λX S o es=>?_⟩
  .unfold fr;refine HC (M1 ((sound n).rd X S o e)) (HC (Bt ((sound n).rf X S o e)) ?_);split
   .exact Js (j.2 X S o _)
   .exact Jt (j.2 X S o _)
   .exact JQ
   .rename_i elt g t p;split
    .rename_i h;rw[and_eq_true,and_eq_true]at h;let⟨tg,iter,ifs,as⟩:=g;have r:=Vt h.2;subst r;have l:=uB o h.1.1;exact FT o.calm (wC o h.1.1) ((sound n).rj X S o _ _) (λC s H fp=>(HL (l C s H fp) n).1 tg) (λC s H fp=>(sound n).rqs _ _ (l C s H fp) _) (λC s H fp=>j.1 _ _ (l C s H fp) _) (gU h.1.2)
    .exact uh
   .split
    .rename_i h;exact k_callR o _ ((sound n).rx X S o _) h
    .exact uh
   .exact uh
  .unfold Ny;split
   .exact E6
   .split
    .rename_i h;exact frs_cons (j.1 X S o _) (j.2 X S o _) (star1 h)
    .exact Cu
def  ev(n:Nat)(S:Sn)(e:Expr):U3:=aW (kX (fr n S e)) (aW (oE (rf n S e)) (aW (ui (rd n S e)) (Bu (rd n S e))))
def s_ev(n:Nat)(o:SnOk X S)(e:Expr):pW X e (ev n S e):=xN (HE ((Rh n).1 X S o e)) (xN (Bv ((sound n).rf X S o e)) (xN (HF ((sound n).rd X S o e)) (M2 ((sound n).rd X S o e))))
structure TnOk(X:Cx)(S:Sn):Prop where
 s:SnOk X S
 fn:∀x,X.fn x=true
 nox:X.xe=λ_ _=>False
 nm:X.env.scope.names=S.nm
def  yj(S:Sn)(x:Str):Option Nat:=if gd x&&(decide (S.nm.lookup x=some .local)||decide (S.nm.lookup x=some .cell))then rL S.N x else none
def  noO':U1:=λ_=>none
def  HP:Expr->Bool
 |.Constant (.str _) _ _=>true
 |_=>false
noncomputable def  dB:Expr->Option Str
 |.Name x _=>!x
 |_=>none
noncomputable def  wF:Expr->Bool
 |.Call _ _ _ _=>true
 |.Name _ _=>true
 |.Subscript _ _ _=>true
 |_=>false
def  Ri(n:Nat)(S:Sn):Option Expr->U1
 |none=>λ_=>!(.rt (.deep,.non))
 |some e=>match dB e with
  |some x=>(match cC S x with|some i=>λY=>(iB Y i).bind λs=>!(.rt s)|none=>eC (ev n S e))
  |none=>eC (ev n S e)
def  Nz:Expr->Option (Str×Expr)
 |.Subscript o k _=>(dB o).bind λy=>!(y,k)
 |_=>none
def  Rj(S:Sn)(i:Nat):Expr->Option (Expr×List Expr×(UY))
 |.Call g (a::as) [] _=>(dB g).bind λf=>(Nz a).bind λz=>(S.G.fn f).bind λw=>if nH S f=true/\w.1<=S.k/\cC S z.1=!i/\uC z.2=true/\as.all aG=true then !(z.2,as,w.2)else none
 |_=>none
def  J7(n:Nat)(S:Sn)(i:Nat)(k e:Expr):U1:=match Rj S i e with
 |some (j,as,f)=>fI i (rd n S k) (BD i (rd n S j) (rx n S as) f)
 |none=>aW (fI i (rd n S k) (ev n S e)) (BS i (rd n S k) (rd n S e))
def  Cv(n:Nat)(S:Sn)(t e:Expr):U1:=match t with
 |.Name x _=>(match yj S x with|some i=>aw i (ev n S e)|none=>noO')
 |.Subscript o k _=>(match dB o with
  |some x=>if uC k&&not (gS e) then(match cC S x with|some i=>J7 n S i k e|none=>noO')else noO'
  |none=>noO')
 |.Tuple ts k p=>if wF e then aW (Fe (rd n S e) (D5 S n (.Tuple ts k p))) (Jy (rd n S e) (D5 S n (.Tuple ts k p)))else noO'
 |_=>noO'
def  SW(n:Nat)(S:Sn)(ts:Vh)(e:Expr):U1:=match ts with
 |[t]=>Cv n S t e
 |_=>noO'
def  m9(i j:Nat)(g:U3)(R:U0):U1:=aW (gA i g) (gA i λY=>ui R (frzS [j] Y))
def  Uv:Expr->Bool
 |.ListComp (.List _ _) _ _ _=>true
 |_=>false
def  Pz:Expr->Option (Expr×Expr×Expr)
 |.IfExp c a b _=>!(c,a,b)
 |_=>none
def  PB(n:Nat)(S:Sn)(e:Expr):U3:=match(dB e).bind (cC S)with
 |some j=>JB j
 |none=>ev n S e
def  Rk(ts:Vh):Option Str:=match ts with
 |[_,b]=>(dB b).bind λy=>if y=("part":Str)then !y else none
 |_=>none
def  NA:Expr->Option Str
 |.Tuple ts _ _=>Rk ts
 |e=>dB e
def  J8(n:Nat)(S:Sn)(i:Nat)(m:Str)(e:Expr):U1:=if m=("append":Str)then(match(NA e).bind (cC S)with
 |some j=>m9 i j (ev n S e) (rd n S e)
 |none=>match Pz e with
  |some (c,a,b)=>gA i (BC (rq n S c) (PB n S a) (PB n S b))
  |none=>gA i (ev n S e))else if m=("extend":Str)then(if Uv e then aW (lV i (rd n S e)) (Nl i (ev n S e))else lV i (rd n S e))else noO'
def  Rl(n:Nat)(S:Sn)(o:Expr)(m:Str)(e:Expr):U1:=match o with
 |.Name x _=>(match cC S x with|some i=>J8 n S i m e|none=>noO')
 |_=>noO'
noncomputable def  ym:Expr->Option (Expr×Str×Pos×Expr×Pos)
 |.Call (.Attribute o m apos) [e] [] cpos=>!(o,m,apos,e,cpos)
 |_=>none
noncomputable def  FV:Expr->Option (Expr×Pos×Expr×Expr×Pos)
 |.Call (.Attribute o m apos) [a,b] [] cpos=>if m=("insert":Str)then !(o,apos,a,b,cpos)else none
 |_=>none
def  Rm(n:Nat)(S:Sn)(o a b:Expr):U1:=match o with
 |.Name x _=>(match cC S x with|some i=>B6 i (rd n S a) (rd n S b)|none=>noO')
 |_=>noO'
def  Rn(n:Nat)(S:Sn)(e:Expr):U1:=match FV e with
 |some (o,apos,a,b,cpos)=>if aG a&&aG b&&(apos.endLine==cpos.line)then Rm n S o a b else noO'
 |none=>if gS e then noO' else jW (rd n S e)
def  Ro(n:Nat)(S:Sn)(e:Expr):U1:=if HP e thenλY=>!(.nx Y)else match ym e with
 |some (o,m,apos,a,cpos)=>if aG a&&(apos.endLine==cpos.line)then Rl n S o m a else noO'
 |none=>Rn n S e
noncomputable def  NB:List Stmt->Bool
 |.Assign [.Name _ _] (.Subscript _ _ _) _::_=>true
 |[.Expr (.Call (.Attribute (.Name _ _) _ _) [_] [] _) _]=>true
 |[.For _ _ _ _ _]=>true
 |_=>false
def  Rp(S:Sn)(iter:Expr)(body:List Stmt):Option Nat:=if NB body then(dB iter).bind (cC S)else none
mutual
noncomputable def  ex:Nat->Sn->Stmt->U1
 |0=>λ_ _=>noO'
 |n+1=>λS st=>match st with
  |.Return v _=>Ri n S v
  |.Assign ts e _=>SW n S ts e
  |.If c a b _=>dj (rq n S c) (Ao n S a) (Ao n S b)
  |.For tg iter body els _=>if els.isEmpty&&lh iter then(match Rp S iter body with
   |some i=>aW (gT (rj n S tg iter) (D5 S n tg) (Ao n S body)) (aW (λY=>gT (rj n S tg iter) (D5 S n tg) (Ao n S body) (frzS [i] Y)) (zv (rj n S tg iter) (D5 S n tg) (Ao n S body)))
   |none=>aW (gT (rj n S tg iter) (D5 S n tg) (Ao n S body)) (zv (rj n S tg iter) (D5 S n tg) (Ao n S body)))else noO'
  |.While c body els _=>if els.isEmpty then LI (rq n S c) (Ao n S body)else noO'
  |.Pass _=>λY=>!(.nx Y)
  |.Expr e _=>Ro n S e
  |_=>noO'
noncomputable def  Ao:Nat->Sn->List Stmt->U1
 |0=>λ_ _=>noO'
 |n+1=>λS st=>match st with
  |[]=>λY=>!(.nx Y)
  |s::r=>ab (ex n S s) (Ao n S r)
end
section
variable{X:Cx}{S:Sn}
def wG(o:TnOk X S)(h:yj S x=!i):gd x=true/\Eg X.env.scope x/\X.N[i]?=!x:=by
 unfold yj at h;split at h
 .rename_i c;rw[and_eq_true,Bool.or_eq_true]at c;refine⟨c.1,?_,by rw[o.s.N];exact gB h⟩;rcases c.2 with c|c
  .exact .inl (o.s.loc _ (Vt c))
  .exact .inr (o.s.cel _ (Vt c))
 .cases h
def swaps_name(e:Expr)(x:Str)(p:Pos)(l:Nat)(env:Env):swapsWith e (!(.Name x p)) l env=pure false\/(swapsWith e (!(.Name x p)) l env=pure true/\env.scope.names.lookup x=some .local):=by
 have key:∀(g o j:Bool),(pure (g&&(env.kindOf x==some .local)&&o&&j):Sem Bool)=pure false\/((pure (g&&(env.kindOf x==some .local)&&o&&j):Sem Bool)=pure true/\env.scope.names.lookup x=some .local):=λg o j=>by
  cases C:(env.kindOf x==!NameKind.local)with
  |false=>left;cases g<;>rfl
  |true=>
   have t:env.scope.names.lookup x=some .local:=by
    have r:env.kindOf x=some .local:=by simpa using C
    exact r
   cases g<;>cases o<;>cases j<;>first|exact .inl rfl|exact .inr ⟨rfl,t⟩
 cases e<;>first
  |exact .inl rfl
  |exact key _ _ _
def cE{st}:PR X st noO':=By
def kh(h:gd x=true):(!7)=false/\(!15)=false:=⟨(cA h).1,(cA h).2.1⟩
def wH(h:uC o=true):∀v,assign (.Subscript (.Name x p) o g) env v=(do
  let j<-holding [v] (eval (.Name x p) env)
  let l<-holding [v,j] (eval o env)
  standAt g
  holding [v,j,l] (setItem j l v)
  release [v,j,l] []):=by
 intro v
 cases o<;>first|rfl|cases h
def lj(h:gS e=false):swapsWithSole [t] e l env=pure false:=by
 exact oC h _ _ _
def r9:swappedStores [.Subscript (.Name x j) l g] e env=pure none:=by
 cases e<;>rfl
def uE(h:wF e=true):swappedStores [t] e env=pure none:=by
 cases e<;>first|rfl|(cases t<;>rfl)|cases h
def oW(h:wF e=true):gS e=false:=by
 cases e<;>first|rfl|cases h
def cF(h:dB e=!x):∃p,e=.Name x p:=by
 cases e<;>first|(cases h;exact⟨_,rfl⟩)|cases h
def wI(h:HP e=true):∃x k p,e=.Constant (.str x) k p:=by
 cases e with
 |Constant c k p=>cases c<;>first|exact⟨_,_,_,rfl⟩|cases h
 |_=>cases h
def wJ(h:ym e=!(o,m,ap,a,cp)):e=.Call (.Attribute o m ap) [a] [] cp:=by
 unfold ym at h;grind
def NC(n:Nat)(o:TnOk X S)(v:Option Expr){pos:Pos}:PR X (.Return v pos) (Ri n S v):=by
 cases v with
 |none=>exact E8
 |some e=>
  unfold Ri;dsimp only;cases h:dB e with
  |none=>exact wa (s_ev n o.s _)
  |some x=>
   let⟨p,rfl⟩:=cF h;dsimp only;cases hi:cC S x with
   |none=>exact wa (s_ev n o.s _)
   |some i=>
    let⟨h1,h2,h3,_⟩:=bP o.s hi;let⟨a,b⟩:=kh h1;exact wb i h3 h2 a b
def Cw{i:Nat}{e:Expr}{j:Expr}{as:Vh}{f:UY}(h:Rj S i e=!(j,as,f)):∃g p y py sp cp k,e=.Call (.Name g p) (.Subscript (.Name y py) j sp::as) [] cp/\S.G.fn g=!(k,f)/\nH S g=true/\k<=S.k/\cC S y=!i/\uC j=true/\as.all aG=true:=by
 unfold Rj at h;split at h
 .let⟨g,h1,h⟩:=VL h;let⟨⟨y,j'⟩,h2,h⟩:=VL h;let⟨⟨k,f'⟩,h3,h⟩:=VL h;let⟨⟨c1,c2,c3,c4,c5⟩,h⟩:=ay h;cases h;let⟨p,rfl⟩:=cF h1;unfold Nz at h2;split at h2
  .let⟨_,h4,h5⟩:=VL h2;let⟨py,rfl⟩:=cF h4;cases h5;exact⟨_,_,_,_,_,_,_,rfl,h3,c1,c2,c3,c4,c5⟩
  .cases h2
 .cases h
def J9(n:Nat)(o:TnOk X S){i:Nat}{x:Str}{px p pos:Pos}{k e:Expr}(hi:cC S x=!i)(hk:uC k=true)(hc:gS e=false):PR X (.Assign [.Subscript (.Name x px) k p] e pos) (J7 n S i k e):=by
 have P:=λe=>((sound n).rd X S o.s e).p;let⟨h1,h2,h3,_⟩:=bP o.s hi;let⟨a,b⟩:=kh h1;unfold J7;split
 .rename_i j as f hq;let⟨g,q,y,py,sp,cp,kk,rfl,c0,c1,c2,c3,c4,c5⟩:=Cw hq;let⟨y1,y2,y3,_⟩:=bP o.s c3;let⟨ya,yb⟩:=kh y1;let⟨ok,gl⟩:=aX o.s c1;let⟨n1,n2,n3⟩:=cA ok;exact BB i (M8 i (o.s.g.fn _ kk f c0) (o.s.room.mono c2) gl n1 (P _) (noSl_ok c4) ((sound n).rx X S o.s _) y3 y2 ya yb rfl (yc c5)) (P _) h3 h2 a b (wH hk) (lj hc) r9 (asg1 rfl)
 .exact mM (BB i (s_ev n o.s _) (P _) h3 h2 a b (wH hk) (lj hc) r9 (asg1 rfl)) (JR i (P _) (P _) h3 h2 a b (wH hk) (lj hc) r9 (asg1 rfl))
def Ka(n:Nat)(o:TnOk X S)(t e:Expr){pos:Pos}:PR X (.Assign [t] e pos) (Cv n S t e):=by
 have P:=λe=>((sound n).rd X S o.s e).p;cases t with
 |Name x p=>
  unfold Cv;dsimp only;cases hi:yj S x with
  |none=>exact cE
  |some i=>
   let⟨h1,h2,h3⟩:=wG o hi;exact Jv (by rw[o.s.N];exact o.s.nd) h3 h2 (s_ev n o.s _) (.inl (o.fn _)) (swaps_name _ _ _ _ _)
 |Subscript ob k p=>
  unfold Cv;dsimp only;cases hn:dB ob with
  |none=>exact cE
  |some x=>
   let⟨px,rfl⟩:=cF hn;dsimp only;split
   .rename_i h;rw[and_eq_true]at h;cases hi:cC S x with
    |none=>exact cE
    |some i=>
     exact J9 n o hi h.1 (by simpa using h.2)
   .exact cE
 |Tuple ts k p=>
  unfold Cv;dsimp only;split
  .rename_i h;exact mM (Ff (P _) ((yh o.s o.fn n).1 _) (lj (oW h)) (uE h) (asg1 rfl)) (Fg (P _) ((yh o.s o.fn n).1 _) (lj (oW h)) (uE h) (asg1 rfl))
  .exact cE
 |_=>exact cE
def ND(n:Nat)(o:TnOk X S)(g:Vh)(e:Expr):PR X (.Assign g e pos) (SW n S g e):=by
 cases g with
 |nil=>exact cE
 |cons t r=>cases r with
  |nil=>exact Ka n o t e
  |cons _ _=>exact cE
def Cy{e c a b:Expr}(h:Pz e=!(c,a,b)):∃p,e=.IfExp c a b p:=by
 unfold Pz at h;split at h
 .cases h;exact⟨_,rfl⟩
 .cases h
def HQ(n:Nat)(o:TnOk X S)(e:Expr):pW X e (PB n S e):=by
 unfold PB;cases hn:(dB e).bind (cC S)with
 |none=>exact s_ev n o.s e
 |some j=>
  let⟨x,e1,hi⟩:=VL hn;let⟨px,rfl⟩:=cF e1;let⟨h1,h2,h3,_⟩:=bP o.s hi;let⟨a,b⟩:=kh h1;exact M6 j h3 h2 a b
def Kb(n:Nat)(o:TnOk X S){i:Nat}{x:Str}{px ap cp pos:Pos}(m:Str)(e:Expr)(hi:cC S x=!i)(hs:aG e=true)(hl:(ap.endLine==cp.line)=true):PR X (.Expr (.Call (.Attribute (.Name x px) m ap) [e] [] cp) pos) (J8 n S i m e):=by
 let⟨h1,h2,h3,_⟩:=bP o.s hi;let⟨a,b⟩:=kh h1;unfold J8;split
 .rename_i hm;subst hm;split
  .exact mM (ji i (s_ev n o.s _) h3 h2 a b (star1 hs) hl) (ji i (JP _ (HF ((sound n).rd X S o.s e))) h3 h2 a b (star1 hs) hl)
  .cases hi:Pz e with
   |none=>exact ji i (s_ev n o.s _) h3 h2 a b (star1 hs) hl
   |some z=>
    let⟨c,u,v⟩:=z;let⟨_,rfl⟩:=Cy hi;exact ji i (M7 ((sound n).rq X S o.s _) (HQ n o u) (HQ n o v)) h3 h2 a b (star1 hs) hl
 .split
  .rename_i hm;subst hm;have F:=zC (pos:=pos) (px:=px) i ((sound n).rd X S o.s e).p h3 h2 a b (star1 hs) hl;split
   .exact mM F (wy i (s_ev n o.s _) h3 h2 a b (star1 hs) hl)
   .exact F
  .exact cE
def NE(n:Nat)(o:TnOk X S){ap cp pos:Pos}(ob:Expr)(m:Str)(e:Expr)(hs:aG e=true)(hl:(ap.endLine==cp.line)=true):PR X (.Expr (.Call (.Attribute ob m ap) [e] [] cp) pos) (Rl n S ob m e):=by
 cases ob with
 |Name x p=>
  unfold Rl;dsimp only;cases hi:cC S x with
  |none=>exact cE
  |some i=>exact Kb n o m e hi hs hl
 |_=>exact cE
def zR(h:FV e=!(o,ap,a,b,cp)):e=.Call (.Attribute o "insert" ap) [a,b] [] cp:=by
 unfold FV at h;grind
def NF(n:Nat)(o:TnOk X S)(g a b:Expr)(r:aG a=true)(l:aG b=true)(j:(ap.endLine==C.line)=true):PR X (.Expr (.Call (.Attribute g "insert" ap) [a,b] [] C) pos) (Rm n S g a b):=by
 have P:=λe=>((sound n).rd X S o.s e).p;cases g with
 |Name x p=>
  unfold Rm;dsimp only;cases hi:cC S x with
  |none=>exact cE
  |some i=>
   let⟨h1,h2,t,_⟩:=bP o.s hi;let⟨c,d⟩:=kh h1;exact zN i (P _) (P _) t h2 c d (star1 r) (star1 l) j
 |_=>exact cE
def NG(n:Nat)(o:TnOk X S)(e:Expr):PR X (.Expr e pos) (Rn n S e):=by
 unfold Rn;cases hm:FV e with
 |some z=>
  let⟨ob,ap,a,b,cp⟩:=z;have:=zR hm;subst this;dsimp only;split
  .rename_i h;rw[and_eq_true,and_eq_true]at h;exact NF n o ob a b h.1.1 h.1.2 h.2
  .exact cE
 |none=>
  dsimp only;split
  .exact cE
  .rename_i h;exact E9 ((sound n).rd X S o.s e).p (oC (by simpa using h) _ _ _)
def NH(n:Nat)(o:TnOk X S)(e:Expr):PR X (.Expr e pos) (Ro n S e):=by
 unfold Ro;split
 .rename_i h;let⟨x,k,p,rfl⟩:=wI h;exact Ju
 .cases j:ym e with
  |some z=>
   let⟨g,m,ap,a,l⟩:=z;have:=wJ j;subst this;dsimp only;split
   .rename_i h;rw[and_eq_true]at h;exact NE n o g m a h.1 h.2
   .exact cE
  |none=>exact NG n o e
def FW:∀n,(∀X S,TnOk X S->∀st,PR X st (ex n S st))/\∀X S,TnOk X S->∀st,An X st (Ao n S st):=by
 intro n;induction n with
 |zero=>exact⟨λX S o e=>cE,λX S o es=>Bx⟩
 |succ n ih=>
  refine⟨λX S o st=>?_,λX S o st=>?_⟩
  .have pass:PassesOwn (!4) X.A X.env X.xe:=by rw[o.nox];exact PassesOwn.never
   unfold ex;cases st with
   |Return v p=>exact NC n o v
   |Assign ts e p=>exact ND n o ts e
   |If c a b p=>exact M3 ((sound n).rq X S o.s _) (ih.2 X S o _) (ih.2 X S o _)
   |For tg iter body els p=>
    dsimp only;split
    .rename_i h;rw[and_eq_true]at h;cases els with
     |nil=>
      have F1:=Jx (pos:=p) pass o.s.calm ((sound n).rj X S o.s tg iter) ((yh o.s o.fn n).1 _) (ih.2 X S o body) (gU h.2);have F2:=Fd (pos:=p) pass o.s.calm ((sound n).rj X S o.s tg iter) ((yh o.s o.fn n).1 _) (ih.2 X S o body) (gU h.2);split
      .exact mM F1 (mM (JV _ F1) F2)
      .exact mM F1 F2
     |cons _ _=>cases h.1
    .exact cE
   |While c body els p=>
    dsimp only;split
    .rename_i h;cases els with
     |nil=>exact B9 pass ((sound n).rq X S o.s _) (ih.2 X S o body)
     |cons _ _=>cases h
    .exact cE
   |Pass p=>exact E7
   |Expr e p=>exact NH n o e
   |_=>exact cE
  .unfold Ao;cases st with
   |nil=>exact Bw
   |cons s r=>exact xO (ih.1 X S o _) (ih.2 X S o _)
end
def  Cz:Expr->Option (Str×Str×Str)
 |.Call (.Name f _) [a] [] _=>(match a with|.Attribute o h _=>(dB o).bind λy=>!(f,y,h)|_=>none)
 |_=>none
def wK(q:Cz e=!(f,y,h)):∃p g ap j,e=.Call (.Name f p) [.Attribute (.Name y g) h ap] [] j:=by
 unfold Cz at q;split at q
 .split at q
  .let⟨z,h1,h2⟩:=VL q;let⟨p,rfl⟩:=cF h1;cases h2;exact⟨_,_,_,_,rfl⟩
  .cases q
 .cases q
def  Kc:vt:=λ_ _=>none
def  NI(S:Sn)(x:Addr)(i:Nat)(fl:Str->Bool)(y g f y2 h:Str)(G:vt):vt:=if y2=y/\fl h=true/\nH S f=true then(match S.G.fn f with
 |some (k,ff)=>if k<=S.k then Ch x i g h ff G else Kc
 |none=>Kc)else Kc
def  D6:Nat->Sn->Addr->(Str->Bool)->List Stmt->vt
 |0=>λ_ _ _ _=>Kc
 |n+1=>λS x fl st=>match st with
  |[]=>BE
  |.Assign [.Attribute (.Name y _) f _] e _::r=>if fl f then(match cC S y with
   |some i=>(match Cz e with
    |some (g,y2,h)=>NI S x i fl y f g y2 h (D6 n S x fl r)
    |none=>uj x i f (ev n S e) (D6 n S x fl r))
   |none=>Kc)else Kc
  |s::r=>stI (ex n S s) (D6 n S x fl r)
def NJ(o:TnOk X S)(c:Cls X.K Ca)(j:∀f,fl f=true->NoAttr X.K Ca f):∀n st,D3 X Ca x st (D6 n S x fl st):=by
 have no:∀st,D3 X Ca x st Kc:=λst B O Y dx fd pins s σ H D I ⟨_,_,_,_,q,_⟩=>by cases q
 intro n;induction n with
 |zero=>exactλst=>no st
 |succ n l=>
  intro st;unfold D6;split
  .exact JF
  .split
   .rename_i h;split
    .rename_i i hi;let⟨h1,h2,r,_⟩:=bP o.s hi;let⟨a,b⟩:=kh h1;split
     .rename_i g y2 hh C;let⟨p,px,ap,cp,rfl⟩:=wK C;unfold NI;split
      .rename_i U;let⟨rfl,c2,c3⟩:=U;let⟨ok,gl⟩:=aX o.s c3;let⟨t,n2,n3⟩:=cA ok;split
       .rename_i k ff T;split
        .rename_i J;exact FP i (o.s.g.fn _ k ff T) (o.s.room.mono J) gl t (l _) r h2 a b c (j _ h) (j _ c2)
        .exact no _
       .exact no _
      .exact no _
     .exact JG i (s_ev n o.s _) (l _) r h2 a b (ux _ _ _ _ _ _) c (j _ h)
    .exact no _
   .exact no _
  .exact Fo ((FW n).1 X S o _) (l _)
mutual
noncomputable def  Uw(S:Sn)(i0:Nat):Nat->Expr->D->Ev->Option Ev
 |0=>λ_ _ _=>none
 |n+1=>λe=>match e with
  |.Name x _=>(match r6 S x with|some i=>if i=i0 thenλ_ _=>none else dk i|none=>λ_ _=>none)
  |.Tuple ts _ _=>if ts.all aG then zu ts.length (NK S i0 n ts)elseλ_ _=>none
  |_=>λ_ _=>none
noncomputable def  NK(S:Sn)(i0:Nat):Nat->Vh->Vg->Ev->Option Ev
 |0=>λ_ _ _=>none
 |n+1=>λes=>match es with
  |[]=>lU
  |t::ts=>if aG t then b8 (Uw S i0 n t) (NK S i0 n ts)elseλ_ _=>none
end
end L2
namespace L2
open PySem PySem.Spec PyProof.Rows
def  cI(i:Int):U0:=λ_=>!(.int i)
def  cB(b:Bool):U0:=λ_=>!(.bl b)
def  cN:U0:=λ_=>some .non
def  cS(x:Str):U0:=λ_=>!(.str x)
def  cD(d:D):U0:=λ_=>!d
def  cT(n:String):U0:=λ_=>!(.ty n)
def  va(i:Nat):U0:=λY=>bx Y i
def  ng(a:U0):U0:=λY=>(a Y).bind uf
def  ax:UZ:=λ_=>![]
def  bQ(xs:UZ):U0:=λY=>(bM (xs Y)).bind λds=>!(.tup ds)
def  ku(fl:Str->Str->Bool)(m:Str)(o:U0):U0:=λY=>(o Y).bind (m8 fl m)
def  ca(a:U0)(lo hi:Vv->Option (Vj)):U0:=aW (rH a lo hi) λY=>(kW a lo hi Y).map D.lst
def  cG:Vv->Option (Vj):=λ_=>!none
def  aQ(L:UZ):U0:=λY=>(L Y).map D.lst
def  bz(f:UY)(xs:UZ):U0:=aW (λY=>(xs Y).bind λds=>cx (f ds)) (aQ af)
def  bn(f:Vg->Vi)(xs:UZ):U0:=aW (λY=>(xs Y).bind f) (aQ af)
noncomputable def  oX:Vg->Vi:=λ_=>none
def  Kd(C:Str)(g:Vg->Option (List (Str×D)))(xs:UZ):U0:=aW (λY=>(xs Y).bind λds=>Fl C (g ds)) (aQ af)
def  wL(o:U0)(xs:UZ)(mt:MT)(k:Nat)(m:Str):U0:=λY=>cx (kY o xs mt k m Y)
def  cJ(xs:UZ):UZ:=λY=>bM (xs Y)
def  l1F(xs:UZ):UZ:=λY=>(xs Y).bind mI
def  liF(xs:UZ):U0:=aW (λY=>(xs Y).bind oX) (aQ (l1F xs))
def  wM(xs:UZ):UZ:=λY=>(xs Y).bind cX
def  PC(xs:UZ):UZ:=λY=>(xs Y).bind Py
def  NM(xs:UZ):UZ:=λY=>(xs Y).bind Pw
def  Ux(xs:UZ):U0:=λY=>(xs Y).bind JN
def  SX(xs:UZ):U0:=λY=>(xs Y).bind (B8 .non)
def  LJ(xs:UZ):UZ:=λY=>(xs Y).bind xS
def  D7(xs:UZ)(L:UZ):U0:=aW (λY=>(xs Y).bind oX) (aQ L)
def  mP(a:U0):U2:=λY=>(a Y).bind t5
def  tQ:U2:=λ_=>!true
def  jX(sp:UZ)(R:U0):UZ:=aW sp λY=>(R Y).bind seqD
def  NO(xs:UZ):UZ:=λY=>(xs Y).bind kT
def  Ke(xs:UZ):UZ:=λY=>(xs Y).bind zq
def  frX(R:U0)(L:UZ)(Sp:U0):U0:=aW (λY=>vq (R Y)) (aW (λY=>iA (L Y)) Sp)
def  bb(R:U0)(L:UZ)(Sp:U0):U3:=aW (kX (frX R L Sp)) (aW (oE L) (aW (ui R) (Bu R)))
def  CA(F:UZ):U0:=λY=>(bM (F Y)).bind λds=>!(.lst ds)
def  vx(F:UZ):U0:=λY=>(bM (F Y)).bind λds=>!(.tup ds)
def  fCo(ks:Vb)(J:UZ)(tg:D->Vv->Option Vv)(t:U2)(F:U0):U0:=λY=>(ae ks J tg t F Y).bind λds=>!(.lst ds)
def  HR(f:UY)(xs:UZ):U0:=λY=>(xs Y).bind λds=>qF (f ds)
def  fNo(xs:UZ):U0:=λY=>(xs Y).bind oX
def  uF(i:Nat):U1:=λY=>(iB Y i).bind λs=>!(.rt s)
def  aE:U1:=λY=>!(.nx Y)
def  PD(R:U0)(g:D->Ev->Option Ev):U1:=aW (Fe R g) (Jy R g)
def  iq(J:UZ)(tg:D->Ev->Option Ev)(F:U1):U1:=aW (gT J tg F) (zv J tg F)
def  CB(i:Nat)(J:UZ)(tg:D->Ev->Option Ev)(F:U1):U1:=aW (gT J tg F) (aW (λY=>gT J tg F (frzS [i] Y)) (zv J tg F))
def  Uy:U0:=λ_=>!(.dct [] [])
def  uG(i:Nat)(k:U0)(g:U3)(R:U0):U1:=aW (fI i k g) (BS i k R)
def  aT(K:Frag)(x:Str)(st:Stmt):Prop:=∃(f:Addr)(oc:Value)(od an:Option Addr)(osl:Array (Va))(kV doc pm cdv ct:Value),nsIn K mainGlobals x=!(!(.ref f))/\
 K.lookup f=!⟨oc,od,.func (PySem.W.fnOf x x (bJ st) (aO st) (ah st) .none kV doc pm an cdv ct),osl⟩/\PySem.W.codeIn K cdv x=true/\PySem.W.keepIn K (.ref f)=true
def  jD(K:Frag)(C m qual:Str)(st:Stmt):Prop:=∃(Ca f:Addr)(oc:Value)(od an:Option Addr)(osl:Array (Va))(kV doc pm cdv ct:Value),nsIn K mainGlobals C=!(!(.ref Ca))/\findIn K (.ref Ca) m=!(!(.ref f))/\PySem.W.isFn K (.ref f)=true/\
 K.lookup f=!⟨oc,od,.func (PySem.W.fnOf m qual (bJ st) (aO st) (ah st) .none kV doc pm an cdv ct),osl⟩/\PySem.W.codeIn K cdv qual=true/\PySem.W.keepIn K (.ref f)=true
structure TCls(K:Frag)(C:Str):Prop where
 ex:∃Ca:Addr,nsIn K mainGlobals C=!(!(.ref Ca))/\Cls K Ca/\PySem.W.makesIn K Ca=true/\PySem.W.keepIn K (.ref Ca)=true
section
variable{P:Program}{w:World}{K:Frag}{mg:Str->Va}{base:Heap}
abbrev se(N:Vc)(st:Stmt)(k:Nat)(G:Gb):Sn:=⟨N,(ah st).names,k,G⟩
def uH{G:Gb}(g:GbOk P w K mg base G){N ps:Vc}{st:Stmt}{k:Nat}{j:Str}{f:Addr}(S:FnScope N ps (ah st))(o:Value)(A:Around)(l:List Env)(s:Shared)(H:Hp)(E:XK)(p:Room k (A.deeper (envOfC j (ah st) s.heap.objs.size f o))):
  TnOk (nU rB P w K mg base N j (ah st) f o A l s H E).nox (se N st k G) where
 s:=⟨g,rfl,S.nd,rfl,p,λ_ h=>h,λ_ h=>h,λ_ h=>.inr h,λ_ h=>h⟩
 fn:=λ_=>rfl
 nox:=rfl
 nm:=rfl
def  D8(n k:Nat)(N ps:Vc)(st:Stmt)(G:Gb):UY:=aK ps.length N.length (Ao n (se N st k G) (aO st))
def  bj(x:Str)(st:Stmt)(ps:Vc):Prop:=∀(qual:Str)(kV doc pm:Value)(an:Option Addr)(cdv ct:Value)(us:U9),us.length=ps.length->bindArgs (PySem.W.fnOf x qual (bJ st) (aO st) (ah st) .none kV doc pm an cdv ct) ⟨us,[]⟩=pure (ps.zip us)
def NP(g:GbOk P w K mg base G)(KX:K.In h)(U:h.Ns mainGlobals mg){st}(n k:Nat)(S:FnScope N ps (ah st))(b:bj x st ps)(t:aT K x st):Df P w K mg base x (k+1) (D8 n k N ps st G):=by
 let⟨f,oc,od,r,I,kV,o,pm,j,ct,h1,h2,h3,p⟩:=t;have Fn:=nY h2 h3 p;refine⟨f,_,ps,PySem.W.mg_of KX U h1,p,Fn.binds λkV o pm r j ct C T=>b x kV o pm r j ct C T,JA Fn S λj A l s H E J=>?_⟩;exact(FW n).2 _ _ (uH g S j A l s H E J) _
def yn(g:GbOk P w K mg base G){st}(n k:Nat)(S:FnScope N ps (ah st))(b:bj m st ps)(c:TCls K C)(t:jD K C m o st):Mf P w K mg base C m (k+1) (D8 n k N ps st G):=by
 let⟨Ca,f,oc,od,J,U,kV,p,pm,j,ct,h0,hf,hi,h2,h3,r⟩:=t;let⟨Cb,I,cl,_,_⟩:=c.ex;rw[h0]at I;cases I;have Fn:=nY h2 h3 r;refine⟨Ca,f,_,ps,h0,cl,⟨hf,hi,r⟩,Fn.binds λkV p pm J j ct T hl=>b o kV p pm J j ct T hl,JA Fn S λj A l s H E hr=>?_⟩;exact(FW n).2 _ _ (uH g S j A l s H E hr) _
def HS(g:GbOk P w K mg base G)(KX:K.In h)(hN:h.Ns mainGlobals mg){st}(n k:Nat)(J:Str->Bool)(S:FnScope N ps (ah st))(b:bj "__init__" st ps)(c:TCls K C)(t:jD K C "__init__" o st)(I:∀f,J f=true->∀Ca,nsIn K mainGlobals C=!(!(.ref Ca))->NoAttr K Ca f)(hg:∀ds r,gg ds=!r->∀y,rO ps.length N.length (λy=>D6 n (se N st k G) y J (aO st)) y ds=!r):Mkf P w K mg base C (k+1) gg:=by
 let⟨Ca,f,oc,od,U,osl,kV,p,pm,j,ct,h0,hf,hi,h2,h3,h4⟩:=t;let⟨Cb,T,cl,mk,kp⟩:=c.ex;rw[h0]at T;cases T;have Fn:=nY h2 h3 h4;refine⟨Ca,f,_,ps,PySem.W.mg_of KX hN h0,h0,⟨mk,hf,hi,kp⟩,Fn.binds λkV p pm U j ct us hl=>b o kV p pm U j ct us hl,QW Fn S hg λy j A l s H E hr=>?_⟩;exact NJ (uH g S j A l s H E hr) cl (λf q=>I f q Ca h0) n _
end
def  PH(K:Frag):Sp:=λvs H Q _=>∃(a:Addr)(ns:Vd),vs=[.ref a]/\SqL K H a (ns.map V.int)/\ns.length<=63/\∀H',Q (.bl true) H'
def yo{K}:∀(ns:Vd),IsL K H (ns.map D.int) (ns.map V.int)
 |[]=>rfl
 |n::ns=>⟨_,_,rfl,rfl,yo ns⟩
def Kf{K}(F:FnOk P w K mg base rB k a fd ps (HG K f))(p:∀g:Vd,g.length<=63->cx (f [.lst (g.map D.int)])=!(.bl true)):
  FnOk P w K mg base rB k a fd ps (PH K):=F.imp λC H Q E ⟨b,g,e,h,o,q⟩=>by
 let⟨⟨c,d⟩,t,e2⟩:=VL (p g o)
 cases e2
 refine⟨mL,[.lst _],_,λ_ h=>(nomatch h),?_,t,λv H' r=>?_⟩
 .rw[e,nB];exact⟨_,[],rfl,⟨b,_,rfl,h,yo g⟩,rfl⟩
 .let⟨I,A,_,_,_,_,_,j⟩:=r;have l:v=.bl true:=by
   cases c with
   |sh=>exact j.2
   |top=>let⟨_,_,_,z,_⟩:=j;cases z
   |deep=>exact j.1
  rw[l];exact q H'
def walkL{l:PySem.W.OpenLaw}{K:Params->Frag}(t:l.most=some 63)(g:d.params.defaults=[])(r:Room k callerA)(I:∀(w:World)(h:Heap),j w h->(K w.params).In h)(T:∀(w:World)(h:Heap),j w h->rA (K w.params) h)(F:∀(w:World)(mg:Str->Va)(fa:Addr)(h:Heap),(K w.params).In h->h.Ns mainGlobals mg->mg d.name=!(.ref fa)->
   ∃fd:FuncData,(∀(s:Shared)(u:Value),BindsTo s fd ⟨[u],[]⟩ [("script",u)])/\∀base:Heap,(K w.params).In base->base.Ns mainGlobals mg->FnOk l.prog w (K w.params) mg base rB k fa fd ["script"] (PH (K w.params))):
  PySem.W.WalkO q J XP j l.row.toRowW d [] (λf o=>PySem.call f o):=
 L2.walk_of t (!2) g r I T F (λ_ _ a p C U=>⟨a,p,rfl,U,C,λ_=>rfl⟩) λ_ _ _ _ _ z=>z
noncomputable def  addF(G:Gb)(x:Str)(k:Nat)(f:UY):Gb:={G with fn:=λy=>if y=x then !(k,f)else G.fn y}
def  addM(G:Gb)(m C:Str)(k:Nat)(f:UY):Gb:={G with mt:=λa b=>if a=m/\b=C then !(k,f)else G.mt a b}
def  addI(G:Gb)(C:Str)(k:Nat)(g:Vg->Option (List (Str×D))):Gb:={G with ini:=λy=>if y=C then !(k,g)else G.ini y}
section
variable{P:Program}{w:World}{K:Frag}{mg:Str->Va}{base:Heap}{G:Gb}
def GbOk.addF(g:GbOk P w K mg base G)(d:Df P w K mg base x k f):GbOk P w K mg base (addF G x k f):=⟨λy j h e=>by
 have l:(if y=x then !(k,f)else G.fn y)=!(j,h):=e;split at l
 .rename_i z;cases l;rw[z];exact d
 .exact g.fn y j h l,g.cn,g.no,g.fl,g.mt,g.ini⟩
def GbOk.addM(g:GbOk P w K mg base G)(d:Mf P w K mg base C m k f):GbOk P w K mg base (addM G m C k f):=⟨g.fn,g.cn,g.no,g.fl,λa b j h e=>by
 have l:(if a=m/\b=C then !(k,f)else G.mt a b)=!(j,h):=e;split at l
 .rename_i z;cases l;rw[z.1,z.2];exact d
 .exact g.mt a b j h l,g.ini⟩
def GbOk.addI(g:GbOk P w K mg base G)(d:Mkf P w K mg base C k o):GbOk P w K mg base (addI G C k o):=⟨g.fn,g.cn,g.no,g.fl,g.mt,λy j h e=>by
 have l:(if y=C then !(k,o)else G.ini y)=!(j,h):=e;split at l
 .rename_i z;cases l;rw[z];exact d
 .exact g.ini y j h l⟩
end
def evX_lf{R L Sp}(h:R (vw Y)=!d)(f:lfD d=true):bb R L Sp Y=!((.deep,d),Y):=by
 unfold bb aW kX frX aW vq;simp[h,f]
def evX_lfs{R L Sp}(h:R (vw Y)=!d)(f:lfD d=false)(g:L (vw Y)=!ds)(j:fw ds=true):bb R L Sp Y=!((.deep,.lst ds),Y):=by
 unfold bb aW kX frX aW vq iA;simp[h,g,f,j]
def evX_call{R L Sp}(h:R (vw Y)=!d)(f:lfD d=false)(j:L (vw Y)=none)(g:Sp (vw Y)=!e):bb R L Sp Y=!((.deep,e),Y):=by
 unfold bb aW kX frX aW vq iA;simp[h,j,f,g]
def oY{R L Sp}(h:R (vw Y)=!d)(f:lfD d=false)(l:L (vw Y)=none)(j:Sp (vw Y)=none)(g:L (di Y)=none)(h2:R (di Y)=!d):bb R L Sp Y=!((.sh,d),Y):=by
 unfold bb aW kX oE ui frX aW vq iA;grind
def ar(h:F Y=!(.nx Y')):ab F G Y=G Y':=by unfold ab;rw[h];rfl
def aS(h:F Y=!(.rt s)):ab F G Y=!(.rt s):=by unfold ab;rw[h];rfl
def cf(h:g Y=!(s,Y')):aw i g Y=!(.nx (Y'.set i (!s))):=by unfold aw;rw[h];rfl
def bo(h:g Y=!(s,Y')):eC g Y=!(.rt s):=by unfold eC;rw[h];rfl
def ifS_t(h:c (vw Y)=!true):dj c F G Y=F Y:=by unfold dj;rw[h];rfl
def dX(h:c (vw Y)=!false):dj c F G Y=G Y:=by unfold dj;rw[h];rfl
def forD_inv{step}:∀(ds:Vg)(I:Nat->Ev->Prop)(Y:Ev),I 0 Y->(∀(i:Nat)(d:D)(Y:Ev),ds[i]?=!d->I i Y->∃Y',step d Y=!(.nx Y')/\I (i+1) Y')->∃Y',p0 step ds Y=!(.nx Y')/\I ds.length Y'
 |[],I,Y,h0,_=>⟨Y,rfl,h0⟩
 |d::ds,I,Y,h0,hs=>by
  let⟨Y1,e1,i1⟩:=hs 0 d Y rfl h0;let⟨Y2,e2,i2⟩:=forD_inv ds (λi=>I (i+1)) Y1 i1 λi d' Y' h hi=>hs (i+1) d' Y' (by simpa using h) hi;refine⟨Y2,?_,i2⟩;unfold p0;rw[e1];exact e2
def jn(I:Nat->Ev->Prop)(j:J (di Y)=!ds)(h0:I 0 Y)(g:∀(i:Nat)(d:D)(Y:Ev),ds[i]?=!d->I i Y->∃Y',(tg d Y).bind F=!(.nx Y')/\I (i+1) Y'):
  ∃Y',iq J tg F Y=!(.nx Y')/\I ds.length Y':=by
 let⟨Y',e,i⟩:=forD_inv (step:=we tg F) ds I Y h0 g
 refine⟨Y',?_,i⟩
 unfold iq aW gT
 grind
section
variable{Y:Vv}{a b c:U0}{xs:UZ}{i:Int}{n:Nat}
@[simp]def cI_a:cI i Y=!(.int i):=rfl
@[simp]def Uz{b}:cB b Y=!(.bl b):=rfl
@[simp]def UA:cN Y=some .non:=rfl
@[simp]def cS_a{x:Str}:cS x Y=!(.str x):=rfl
@[simp]def UB:cD d Y=!d:=rfl
@[simp]def NQ{n}:cT n Y=!(.ty n):=rfl
@[simp]def SY:(af Y:Option α)=none:=rfl
@[simp]def va_a:va n Y=bx Y n:=rfl
@[simp]def shAt_0{d:Vi}{r:Vv}:bx (d::r) 0=d:=by cases d<;>rfl
@[simp]def shAt_s{d:Vi}{r:Vv}{n:Nat}:bx (d::r) (n+1)=bx r n:=by unfold bx;simp
@[simp]def shAt_1{d e:Vi}{r:Vv}:bx (d::e::r) 1=e:=by cases e<;>rfl
@[simp]def bin2_a{g}:aa g a b Y=(a Y).bind λx=>(b Y).bind λy=>g x y:=rfl
@[simp]def yq:ng a Y=(a Y).bind uf:=rfl
@[simp]def nilX_a:ax Y=![]:=rfl
@[simp]def consX_a:ac a xs Y=(a Y).bind λd=>(xs Y).bind λr=>!(d::r):=rfl
@[simp]def iZ:bQ xs Y=(bM (xs Y)).bind λds=>!(.tup ds):=rfl
@[simp]def CC:ku fl m a Y=(a Y).bind (m8 fl m):=rfl
@[simp]def SZ:cG Y=!none:=rfl
@[simp]def PK:au a Y=(a Y).bind λd=>(oz d).bind λi=>!(!i):=rfl
@[simp]def lsF_a{L}:aQ L Y=(L Y).map D.lst:=rfl
def oZ{f g:α->Option j}(h:g x=none):aW f g x=f x:=by
 unfold aW;cases f x<;>simp[h]
@[simp]def clF_a{f}:bz f xs Y=(xs Y).bind λds=>cx (f ds):=oZ rfl
@[simp]def biF_a{f}:bn f xs Y=(xs Y).bind f:=oZ rfl
@[simp]def CD:Kd C g xs Y=(xs Y).bind λds=>Fl C (g ds):=oZ rfl
@[simp]def S1{mt k m}:wL a xs mt k m Y=cx ((a Y).bind λd=>(xs Y).bind λas=>iY mt k m d as):=rfl
@[simp]def dpF_a:cJ xs Y=bM (xs Y):=rfl
@[simp]def yt:l1F xs Y=(xs Y).bind mI:=rfl
@[simp]def pd:liF xs Y=((xs Y).bind mI).map D.lst:=by
 unfold liF aW;have:((xs Y).bind oX)=none:=by cases xs Y<;>rfl
 simp[this]
@[simp]def trF_a:mP a Y=(a Y).bind t5:=rfl
@[simp]def tQ_a:tQ Y=!true:=rfl
@[simp]def fCl_a{f}:HR f xs Y=(xs Y).bind λds=>qF (f ds):=rfl
@[simp]def S2:fNo xs Y=none:=by unfold fNo oX;cases xs Y<;>rfl
@[simp]def NR:CA F Y=(bM (F Y)).bind λds=>!(.lst ds):=rfl
@[simp]def NS:vx F Y=(bM (F Y)).bind λds=>!(.tup ds):=rfl
@[simp]def bA:jX af R Y=(R Y).bind seqD:=rfl
def fR(h:(xs Y).bind kT=!ds):jX (NO xs) R Y=!ds:=by
 unfold jX aW NO;simp[h]
def HU(h:(xs Y).bind zq=!ds):jX (Ke xs) R Y=!ds:=by
 unfold jX aW Ke;simp[h]
@[simp]def wN:jA a b Y=(a Y).bind λx=>x.asB.bind λc=>if c=true then b Y else !(.bl false):=rfl
@[simp]def NT:MP a b Y=(a Y).bind λx=>x.asB.bind λc=>if c=true then !(.bl true)else b Y:=rfl
@[simp]def Rq:EJ a Y=(a Y).bind λx=>x.asB.bind λc=>!(.bl (not c)):=rfl
@[simp]def andQ_a{p q:U2}:tZ p q Y=(p Y).bind λc=>if c=true then q Y else !false:=rfl
@[simp]def qK:t4 p q Y=(p Y).bind λc=>if c=true then !true else q Y:=rfl
@[simp]def notQ_a{p:U2}:cP p Y=(p Y).map (not ·):=rfl
@[simp]def yu:EK p a b Y=(p Y).bind λc=>if c=true then a Y else b Y:=rfl
@[simp]def testB_a:ai a Y=(a Y).bind D.asB:=rfl
@[simp]def NU:ez g g' a b c Y=(a Y).bind λx=>(b Y).bind λy=>(g x y).bind λz=>z.asB.bind λk=>if k=true then(c Y).bind λw=>g' y w else !(.bl false):=rfl
end
@[simp]def asB_bl(b:Bool):D.asB (.bl b)=!b:=rfl
@[simp]def valO_some(s:Sl):cx (!s)=!s.2:=rfl
@[simp]def wO(d:D):qF (!(.deep,d))=!d:=rfl
@[simp]def addD_ii(i j:Int):av (.int i) (.int j)=!(.int (i+j)):=rfl
@[simp]def subD_ii(i j:Int):cb (.int i) (.int j)=!(.int (i-j)):=rfl
@[simp]def wP(i j:Int):oq (.int i) (.int j)=!(.bl (decide (i<j))):=rfl
@[simp]def Rr(i j:Int):ot (.int i) (.int j)=!(.bl (decide (i<=j))):=rfl
@[simp]def lX(i j:Int):nw (.int i) (.int j)=!(.bl (decide (j<i))):=rfl
@[simp]def Kg(i j:Int):LF (.int i) (.int j)=!(.bl (decide (j<=i))):=rfl
@[simp]def Rs(i:Int):uf (.int i)=!(.int (-i)):=rfl
@[simp]def Rt(i:Int):oz (.int i)=!i:=rfl
@[simp]def CF(ds:Vg):seqD (.lst ds)=!ds:=rfl
@[simp]def Ru(ds:Vg):seqD (.tup ds)=!ds:=rfl
@[simp]def bf(d:D):eB [d]=(seqD d).bind λds=>!(.int ds.length):=rfl
@[simp]def PL(d:D):mI [d]=seqD d:=rfl
@[simp]def CG(d:D):cQ [d]=(seqD d).bind λds=>!(.tup ds):=rfl
@[simp]def Rv(i j:Int):QS [.int i,.int j]=!(.int (if j>i then j else i)):=rfl
@[simp]def Rw(i j:Int):QT [.int i,.int j]=!(.int (if j<i then j else i)):=rfl
@[simp]def truD_bl(b:Bool):t5 (.bl b)=!b:=rfl
def yw(h:CMul i j):aL (.int i) (.int j)=!(.int (i*j)):=by unfold aL;simp[h]
def sf(h:-18446744073709551616<i)(h2:i<18446744073709551616):aL (.int i) (.int j)=!(.int (i*j)):=yw (.inl ⟨by omega,by omega⟩)
def CH(h:-18446744073709551616<j)(h2:j<18446744073709551616):aL (.int i) (.int j)=!(.int (i*j)):=yw (.inr ⟨by omega,by omega⟩)
def CI(h:0<j)(h2:j.natAbs.log2<9000):cO (.int i) (.int j)=!(.int (i/j)):=by unfold cO;exact if_pos ⟨h,h2⟩
def cg(h:0<j)(h2:j<1073741824):cO (.int i) (.int j)=!(.int (i/j)):=CI h (Nat.lt_trans ((Nat.log2_lt (!1)).mpr (show j.natAbs<2^30 by omega)) (!2))
def bp(h:0<j):aU (.int i) (.int j)=!(.int (i%j)):=by unfold aU;simp[h]
@[simp]def PM(i:Int):lfD (.int i)=true:=rfl
@[simp]def Rx(b:Bool):lfD (.bl b)=true:=rfl
@[simp]def PN(x:Str):lfD (.str x)=true:=rfl
@[simp]def PV:lfD .non=true:=rfl
@[simp]def FX(ds:Vg):lfD (.lst ds)=false:=rfl
@[simp]def PY(ds:Vg):lfD (.tup ds)=fw ds:=rfl
@[simp]def PZ:fw []=true:=rfl
@[simp]def CJ(d:D)(ds:Vg):fw (d::ds)=(lfD d&&fw ds):=rfl
def ck:∀{ds:Vg},(∀d∈ds,lfD d=true)->fw ds=true
 |[],_=>rfl
 |d::ds,h=>by simp[h d mem_cons_self,ck λe he=>h e (mem_cons_of_mem _ he)]
@[simp]def LK:bM none=none:=rfl
def dI(h:ds.length<big):bM (!ds)=!ds:=by unfold bM;simp[h]
@[simp]def Ry:bM (![])=![]:=dI (!2)
@[simp]def capL_1(a:D):bM (![a])=![a]:=dI (show 1<big by decide)
@[simp]def capL_2(a b:D):bM (![a,b])=![a,b]:=dI (show 2<big by decide)
@[simp]def Rz(a b c d e:D):bM (![a,b,c,d,e])=![a,b,c,d,e]:=dI (show 5<big by decide)
@[simp]def RA(a b c d e f g h:D):bM (![a,b,c,d,e,f,g,h])=![a,b,c,d,e,f,g,h]:=dI (show 8<big by decide)
@[simp]def HV(d c:D):fO [d,c]=(cu d).bind λT=>(ox c).bind λns=>!(.bl (ns.any (isI T))):=rfl
@[simp]def P0:ox (.ty "int")=!["int"]:=by rfl
@[simp]def NV:ox (.ty "bool")=!["bool"]:=by rfl
@[simp]def P1:ox (.ty "str")=!["str"]:=by rfl
@[simp]def NW:ox (.ty "list")=!["list"]:=by rfl
@[simp]def LL:ox (.ty "tuple")=!["tuple"]:=by rfl
@[simp]def CK:ox (.tup [.ty "list",.ty "tuple"])=!["list","tuple"]:=by rfl
@[simp]def RB(i:Int):cu (.int i)=some "int":=rfl
@[simp]def S3(i:Bool):cu (.bl i)=some "bool":=rfl
@[simp]def RC(i:Str):cu (.str i)=some "str":=rfl
@[simp]def RD(i:Vg):cu (.tup i)=some "tuple":=rfl
@[simp]def RE(i:Vg):cu (.lst i)=some "list":=rfl
@[simp]def RF:isI "int" "int"=true:=by decide
@[simp]def RG:isI "int" "bool"=false:=by decide
@[simp]def RH:isI "bool" "bool"=true:=by decide
@[simp]def RI:isI "bool" "int"=true:=by decide
@[simp]def RJ:isI "tuple" "list"=false:=by decide
@[simp]def RK:isI "tuple" "tuple"=true:=by decide
@[simp]def CL:isI "list" "list"=true:=by decide
@[simp]def RL:isI "list" "tuple"=false:=by decide
@[simp]def RM:isI "str" "str"=true:=by decide
@[simp]def jZ(neg:Bool)(i j:Int):aB neg (.int i) (.int j)=!(.bl (if neg then not (decide (i=j))else decide (i=j))):=by
 unfold aB kU;have:decide (ou (.int i)=ou (.int j))=decide (i=j):=by
  show decide (V.int i=V.int j)=_;by_cases h:i=j<;>simp[h]
 rw[this];rfl
@[simp]def yx(neg:Bool)(i j:Str):aB neg (.str i) (.str j)=!(.bl (if neg then not (decide (i=j))else decide (i=j))):=by
 unfold aB kU;have:decide (ou (.str i)=ou (.str j))=decide (i=j):=by
  show decide (V.str i=V.str j)=_;by_cases h:i=j<;>simp[h]
 rw[this];rfl
@[simp]def NX(neg:Bool)(i j:Bool):aB neg (.bl i) (.bl j)=!(.bl (if neg then not (decide (i=j))else decide (i=j))):=by
 unfold aB kU;have:decide (ou (.bl i)=ou (.bl j))=decide (i=j):=by
  show decide (V.bl i=V.bl j)=_;by_cases h:i=j<;>simp[h]
 rw[this];rfl
@[simp]def UC(ds:Vg)(i:Int):ak (.lst ds) (.int i)=nX ds i:=rfl
@[simp]def UD(ds:Vg)(i:Int):ak (.tup ds) (.int i)=nX ds i:=rfl
def dC{d:D}(h:0<=i)(h2:ds[i.toNat]?=!d):nX ds i=!d:=by
 have g:=(Vq.mp h2).1;unfold nX zd;grind
@[simp]def qL(d:D)(ds:Vg):nX (d::ds) 0=!d:=dC (!1) rfl
@[simp]def uI(c d:D)(ds:Vg):nX (c::d::ds) 1=!d:=dC (!1) rfl
@[simp]def vw_nil:vw []=[]:=rfl
@[simp]def vw_some(s:Sl)(Y:Ev):vw (some s::Y)=some s.2::vw Y:=rfl
@[simp]def vw_none(Y:Ev):vw (none::Y)=none::vw Y:=rfl
@[simp]def P2:di []=[]:=rfl
@[simp]def RN(d:D)(Y:Ev):di (some (.sh,d)::Y)=some d::di Y:=rfl
@[simp]def NY(Y:Ev):di (none::Y)=none::di Y:=rfl
@[simp]def NZ(d:D)(Y:Ev):di (some (.deep,d)::Y)=(if lfD d=true then !d else none)::di Y:=rfl
@[simp]def P3(d:D)(Y:Ev):di (some (.top,d)::Y)=(if lfD d=true then !d else none)::di Y:=rfl
@[simp]def wipe_nil{α:Type}(σ:List (Option α)):gx [] σ=σ:=rfl
@[simp]def wipe_cons{α:Type}(k:Nat)(ks:Vb)(σ:List (Option α)):gx (k::ks) σ=gx ks (σ.set k none):=rfl
@[simp]def gNm_a(i:Nat)(d:D)(Y:Vv):gNm i d Y=!(Y.set i (!d)):=rfl
@[simp]def HW(n:Nat)(gs)(ds:Vg)(Y:Vv):kc n gs (.tup ds) Y=if ds.length=n then gs ds Y else none:=rfl
@[simp]def uJ(g gs)(d:D)(ds:Vg)(Y:Vv):ao g gs (d::ds) Y=(g d Y).bind λY1=>gs ds Y1:=rfl
@[simp]def yy(Y:Vv):bd [] Y=!Y:=rfl
@[simp]def S4(i:Nat)(d:D)(Y:Ev):dk i d Y=!(Y.set i (!(.sh,d))):=rfl
@[simp]def S5(n:Nat)(gs)(ds:Vg)(Y:Ev):zu n gs (.tup ds) Y=if ds.length=n then gs ds Y else none:=rfl
@[simp]def P4(g gs)(d:D)(ds:Vg)(Y:Ev):b8 g gs (d::ds) Y=(g d Y).bind λY1=>gs ds Y1:=rfl
@[simp]def RO(Y:Ev):lU [] Y=!Y:=rfl
@[simp]def stepF_a(g ft fe)(Y:Vv)(d:D):qC g ft fe Y d=(g d Y).bind λY1=>(ft Y1).bind λc=>if c=true then(fe Y1).bind λy=>!(!y)else !none:=rfl
def aj(g:ds.length=n)(h:F (aH m ds)=!(.rt s)):aK n m F ds=!s:=by
 unfold aK;rw[if_pos g,h];rfl
def lm(g:ds.length=n)(h:F (aH m ds)=!(.nx Y)):aK n m F ds=!(.deep,.non):=by
 unfold aK;rw[if_pos g,h];rfl
@[simp]def S6(Y:Ev):aE Y=!(.nx Y):=rfl
def pe{β:Type}{step}{mk out}:∀(xs:List β),(∀x∈xs,step (mk x)=!(!(out x)))->jV step (xs.map mk)=!(xs.map out)
 |[],_=>rfl
 |x::xs,h=>by
  rw[List.map_cons];unfold jV;rw[h x mem_cons_self,pe xs λe he=>h e (mem_cons_of_mem _ he)];rfl
def aq{j:Type}{Y:Vv}{xs:List j}{mk out}(o:J Y=!(xs.map mk))(h:∀x∈xs,qC g p r (gx ks Y) (mk x)=!(!(out x)))(l:xs.length<big):ae ks J g p r Y=!(xs.map out):=by
 unfold ae;rw[o];simp only[Option.bind_some];rw[pe xs h];unfold bM;simp[l]
def j0{β:Type}{step}{mk out}{p:β->Bool}:∀(xs:List β),(∀x∈xs,step (mk x)=!(if p x then !(out x)else none))->jV step (xs.map mk)=!((xs.filter p).map out)
 |[],_=>rfl
 |x::xs,h=>by
  rw[List.map_cons];unfold jV;rw[h x mem_cons_self,j0 xs λe he=>h e (mem_cons_of_mem _ he)];cases hp:p x<;>simp[hp]
def qc{j:Type}{Y:Vv}{xs:List j}{mk out}{p:j->Bool}(l:J Y=!(xs.map mk))(h:∀x∈xs,qC g o r (gx ks Y) (mk x)=!(if p x then !(out x)else none))(t:xs.length<big):ae ks J g o r Y=!((xs.filter p).map out):=by
 unfold ae;rw[l];simp only[Option.bind_some];rw[j0 xs h];unfold bM;grind
def uK:∀bs:List Bool,A8 (bs.map D.bl)=!bs
 |[]=>rfl
 |b::bs=>by
  rw[List.map_cons];unfold A8;rw[uK bs];rfl
def cY{g:Type}(xs:List g)(p:g->Bool):jB [.lst (xs.map λx=>.bl (p x))]=!(.bl (xs.all p)):=by
 have e:xs.map (λx=>D.bl (p x))=(xs.map p).map D.bl:=by rw[List.map_map];rfl
 rw[e];unfold jB tw;simp only[kR,Option.bind_some];rw[uK];simp[List.all_map];rfl
def CM(h:-1000000<j)(h2:j<1000000):HA j:=by
 exact⟨by omega,by omega⟩
def yz(hj:HA j):kT [.int j]=!(m6 0 j.toNat):=by
 unfold kT tw;simp_all
def yA{n:Nat}(h:n<1000000):HA (n:Int):=CM (!1) (!1)
def wQ:m6 0 n=(!20).map λ(i:Nat)=>D.int (i:Int):=by simp[m6]
def bv{n:Nat}(h:n<1000000):kT [.int (n:Int)]=!((!20).map λ(i:Nat)=>D.int (i:Int)):=by
 rw[yz (yA h),Int.toNat_natCast,wQ]
def CN{j:Int}(h0:0<=j)(h:j<1000000):kT [.int j]=!((List.range j.toNat).map λ(i:Nat)=>D.int (i:Int)):=by
 rw[yz (CM (!1) h),wQ]
def FY{g:Type}{xs:List g}{mk:g->D}{i:Int}(h:0<=i)(h2:i<xs.length):nX (xs.map mk) i=!(mk (xs[i.toNat]'(!1))):=dC h (by
 have:i.toNat<xs.length:=by omega
 simp[this])
def aY{g:Type}{xs:List g}{mk:g->D}{i:Nat}{x}(h:xs[i]?=!x):nX (xs.map mk) (i:Int)=!(mk x):=by
 exact dC (!1) (by simp[h])
def uL(h1:seqD a=!xs)(h2:seqD b=!ys):zq [a,b]=!(kg xs ys):=by
 unfold zq LG;simp[h1,h2]
def pf{l j:Type}{f}{g}(xs:List l)(ys:List j):kg (xs.map f) (ys.map g)=(xs.zip ys).map λp=>.tup [f p.1,g p.2]:=by
 unfold kg;rw[List.zip_map,List.map_map];rfl
def appF_deep(h0:ownL Y i=!(c0,ds0))(h:g Y=!((.deep,d),Y'))(j:ownL Y' i=!(.deep,ds))(l:ds.length+1<big):gA i g Y=!(.nx (Y'.set i (!(.deep,.lst (ds++[d]))))):=by
 unfold gA;rw[h0];simp only[Option.bind_some,h,j];rw[if_pos l];rfl
def qM(h0:ownL Y i=!(c0,ds0))(h:g Y=!((.deep,d),Y'))(j:ownL Y' i=!(.deep,ds))(l:ds.length+1<big):m9 i k g R Y=!(.nx (Y'.set i (!(.deep,.lst (ds++[d]))))):=by
 unfold m9 aW;rw[appF_deep h0 h j l]
def uM{k:Int}(h:g Y=!((.deep,d),Y'))(j:ownL Y' i=!(.deep,ds))(o:p (vw Y')=!(.int k))(h0:0<=k)(l:k<ds.length):fI i p g Y=!(.nx (Y'.set i (!(.deep,.lst (ds.set k.toNat d))))):=by
 unfold fI;rw[h];simp only[Option.bind_some,j,o];have:zd ds.length k=!k.toNat:=by unfold zd;rw[if_pos h0,if_pos l]
 rw[this];rfl
def  uN:U1:=(ab (eC (bb (jA (bn fO (ac (va 0) (ac (cT "int") ax))) (jA (EJ (bn fO (ac (va 0) (ac (cT "bool") ax)))) (ez ot ot (va 1) (va 0) (va 2)))) af af)) aE)
def  mQ(aD:UY):U1:=(ab (dj (t4 (cP (mP (bn fO (ac (va 0) (ac (cT "tuple") ax))))) (ai (aa (aB true) (bn eB (ac (va 0) ax)) (cI 2)))) (ab (eC (bb (cB false) af af)) aE) aE) (ab (eC (bb (jA (aa Pt (aa ak (va 0) (cI 0)) (cD (.tup [(.str "queue"),(.str "pile")]))) (bz aD (ac (aa ak (va 0) (cI 1)) (ac (cI 0) (ac (cD (.int 9)) ax))))) af af)) aE))
def  qN(dZ:UY):U1:=(ab (dj (t4 (cP (mP (bn fO (ac (va 0) (ac (bQ (ac (cT "list") (ac (cT "tuple") ax))) ax))))) (cP (ai (ez ot ot (cI 1) (bn eB (ac (va 0) ax)) (cD (.int 6)))))) (ab (eC (bb (cB false) af af)) aE) aE) (ab (eC (bb (bn jB (ac (aQ (ae [1] (jX af (va 0)) (gNm 1) tQ (bz dZ (ac (va 1) ax)))) ax)) af (fNo (ac (aQ (ae [1] (jX af (va 0)) (gNm 1) tQ (bz dZ (ac (va 1) ax)))) ax)))) aE))
def  wR:U1:=(ab (aw 1 (bb (cI 1) af af)) (ab (iq (jX af (va 0)) (dk 2) (ab (aw 1 (bb (aa aL (va 1) (bn eB (ac (va 2) ax))) af af)) aE)) (ab (uF 1) aE)))
def  sg(bB:UY)(jw:UY):U1:=(ab (dj (t4 (cP (mP (bn fO (ac (va 0) (ac (bQ (ac (cT "list") (ac (cT "tuple") ax))) ax))))) (ai (aa nw (bn eB (ac (va 0) ax)) (cD (.int 6))))) (ab (eC (bb (cB false) af af)) aE) aE) (ab (eC (bb (jA (bn jB (ac (aQ (ae [1] (jX af (va 0)) (gNm 1) tQ (bz jw (ac (va 1) ax)))) ax)) (aa ot (bz bB (ac (va 0) ax)) (cD (.int 1000)))) af af)) aE))
def  ph(bC:UY)(y:Addr):vt:=(stI (dj (cP (mP (bz bC (ac (va 1) ax)))) (ab noO' aE) aE) (uj y 0 "passes" (bb (bn cQ (ac (aQ (ae [2] (jX af (va 1)) (gNm 2) tQ (bn cQ (ac (va 2) ax)))) ax)) af (fNo (ac (aQ (ae [2] (jX af (va 1)) (gNm 2) tQ (bn cQ (ac (va 2) ax)))) ax))) BE))
def  mR(fl:Str->Str->Bool):U1:=(ab (eC (bb (bn eB (ac (ku fl "passes" (va 0)) ax)) af (fNo (ac (ku fl "passes" (va 0)) ax)))) aE)
def  zS(mt_many:MT)(kk:Nat)(aD:UY):U1:=(ab (eC (bb (bz aD (ac (va 1) (ac (cI 0) (ac (wL (va 0) ax mt_many kk "many") ax)))) af (HR aD (ac (va 1) (ac (cI 0) (ac (wL (va 0) ax mt_many kk "many") ax)))))) aE)
def  pi(fA:UY):U1:=(ab (dj (cP (mP (bz fA (ac (va 0) (ac (va 1) ax))))) (ab noO' aE) aE) aE)
def  Kh:U1:=(ab (eC (bb (EK (ai (aa (!19) (va 0) (cS "queue"))) (va 2) (aa cb (aa cb (va 1) (cI 1)) (va 2))) af af)) aE)
def  pj:U1:=(ab (dj (ai (aa oq (va 1) (bn eB (ac (va 0) ax)))) (ab (eC (bb (aa ak (va 0) (va 1)) af af)) aE) aE) (ab (eC (bb (cI 0) af af)) aE))
def  uO:U1:=(ab (iq (jX (NO (ac (va 1) ax)) (bn oX (ac (va 1) ax))) (dk 2) (ab (aw 0 (bb (aa cO (va 0) (cI 1000000)) af af)) aE)) (ab (eC (bb (aa aU (va 0) (cI 1000000)) af af)) aE))
def  zT(aD:UY):U1:=(ab (eC (bb (bz aD (ac (va 0) (ac (cI 1) (ac (cD (.int 9)) ax)))) af (HR aD (ac (va 0) (ac (cI 1) (ac (cD (.int 9)) ax)))))) aE)
abbrev Pk:=Bool×Int
abbrev _root_.U4:=List (List Pk)
noncomputable def  kd(q:Bool):Str:=if q then"queue"else"pile"
def  kx(p:Pk):D:=.tup [.str (kd p.1),.int p.2]
noncomputable def  LM(p:Pk):Bool:=decide (0<=p.2)&&decide (p.2<=9)
def  sq(w:Bool)(ds:Vg):D:=if w then .lst ds else .tup ds
@[simp]def FZ(w:Bool)(ds:Vg):seqD (sq w ds)=!ds:=by cases w<;>rfl
@[simp]def RP(w:Bool)(ds:Vg):fO [sq w ds,.tup [.ty "list",.ty "tuple"]]=!(.bl true):=by cases w<;>simp[sq]
def N0(p:Pk):lfD (kx p)=true:=rfl
def Ki(ps:List Pk):fw (ps.map kx)=true:=ck λd hd=>by
 let⟨p,_,rfl⟩:=Vz.mp hd;exact N0 p
def  eg(ps:List Pk):D:=.tup (ps.map kx)
def HX(ps:List Pk):lfD (eg ps)=true:=Ki ps
def Kj(pss:U4):fw (pss.map eg)=true:=ck λd hd=>by
 let⟨p,_,rfl⟩:=Vz.mp hd;exact HX p
def  fS(f:UY):Prop:=∀v a b:Int,f [.int v,.int a,.int b]=!(.deep,.bl (decide (a<=v)&&decide (v<=b)))
def CO:fS (aK 3 3 uN):=λv a b=>by
 refine aj rfl ?_;refine aS (bo (evX_lf ?_ rfl));simp[aH];grind
def  CP(f:UY):Prop:=∀v:Int,f [.int v]=!(.deep,.bl (decide (1<=v)&&decide (v<=9)))
def Kk(g:fS w):CP (aK 1 1 (zT w)):=λv=>by
 refine aj rfl ?_;refine aS (bo (evX_lf ?_ rfl));simp[aH,g v 1 9]
def N1(q:Bool):Pt (.str (kd q)) (.tup [.str "queue",.str "pile"])=!(.bl true):=by
 cases q<;>kernel_rfl
def  si(f:UY):Prop:=∀p:Pk,f [kx p]=!(.deep,.bl (LM p))
def CQ(g:fS w):si (aK 1 1 (mQ w)):=λp=>by
 refine aj rfl ?_;unfold mQ kx;refine(ar (Y':=aH 1 [.tup [.str (kd p.1),.int p.2]]) ?_).trans ?_
 .refine(dX ?_).trans rfl;simp[aH]
 .refine aS (bo (evX_lf ?_ rfl));simp[aH,g p.2 0 9,N1,LM]
def  Kl(ps:List Pk):Bool:=decide (1<=ps.length)&&decide (ps.length<=6)&&ps.all LM
def  CS(f:UY):Prop:=∀(w:Bool)(ps:List Pk),ps.length<1000->f [sq w (ps.map kx)]=!(.deep,.bl (Kl ps))
def Km(t:si g):CS (aK 1 2 (qN g)):=λw ps j=>by
 refine aj rfl ?_;unfold qN Kl;have C:ez ot ot (cI 1) (bn eB (ac (va 0) ax)) (cD (.int 6)) [!(sq w (ps.map kx)),none]=!(.bl (decide (1<=ps.length)&&decide (ps.length<=6))):=by
  by_cases h:1<=ps.length
  .have h':(1:Int)<=(ps.length:Int):=by omega
   simp[h,h'];omega
  .have h':¬ (1:Int)<=(ps.length:Int):=by omega
   simp[h,h']
 have hi:bn fO (ac (va 0) (ac (bQ (ac (cT "list") (ac (cT "tuple") ax))) ax)) [!(sq w (ps.map kx)),none]=!(.bl true):=by
  cases w<;>simp[sq]
 have l:t4 (cP (mP (bn fO (ac (va 0) (ac (bQ (ac (cT "list") (ac (cT "tuple") ax))) ax))))) (cP (ai (ez ot ot (cI 1) (bn eB (ac (va 0) ax)) (cD (.int 6))))) [!(sq w (ps.map kx)),none]=!(not (decide (1<=ps.length)&&decide (ps.length<=6))):=by
  rw[qK,notQ_a,trF_a,hi,notQ_a,testB_a,C];rfl
 cases o:(decide (1<=ps.length)&&decide (ps.length<=6))with
 |false=>
  rw[o]at l;exact aS ((ifS_t l).trans (aS (bo (evX_lf rfl rfl))))
 |true=>
  rw[o]at l;refine(ar ((dX l).trans rfl)).trans ?_;refine aS (bo (evX_lf ?_ rfl));have r:ae [1] (jX af (va 0)) (gNm 1) tQ (bz g (ac (va 1) ax)) [!(sq w (ps.map kx)),none]=!(ps.map λp=>.bl (LM p)):=by
   refine aq (mk:=kx) (by simp) (λp _=>?_) (Nat.lt_trans j (!2));simp[t p]
  simp[aH,r,cY]
abbrev Ps:=List (Bool×List Pk)
def  tz(p:Bool×List Pk):D:=sq p.1 (p.2.map kx)
def  prod:U4->Nat
 |[]=>1
 |p::r=>p.length*prod r
def bR:∀a b:U4,prod (a++b)=prod a*prod b
 |[],b=>by simp[prod]
 |p::a,b=>by simp only[List.cons_append,prod,bR a b,Nat.mul_assoc]
def dD(a:U4)(p:List Pk):prod (a++[p])=prod a*p.length:=by rw[bR];simp[prod]
def lt_big(h:-1000000<j)(h2:j<1000000):-18446744073709551616<j/\j<18446744073709551616:=by grind
def eU(h:-1000000<j)(h2:j<1000000):aL (.int i) (.int j)=!(.int (i*j)):=CH (lt_big h h2).1 (lt_big h h2).2
def CT{n:Nat}(h:n<1000):aL (.int i) (.int (n:Int))=!(.int (i*n)):=eU (!1) (!1)
def  ki(f:UY):Prop:=∀(w:Bool)(pss:Ps),(∀p∈pss,p.2.length<1000)->f [sq w (pss.map tz)]=!(.deep,.int (prod (pss.map (·.2)):Nat))
def wS(A:D)(n:Nat)(p:Bool×List Pk)(g:p.2.length<1000):
 bb (aa aL (va 1) (bn eB (ac (va 2) ax))) af af [!(.sh,A),!(.deep,.int n),!(.sh,tz p)]=!((.deep,.int (n*p.2.length:Nat)),[!(.sh,A),!(.deep,.int n),!(.sh,tz p)]):=by
 refine evX_lf ?_ rfl
 have j:(seqD (tz p))=!_:=FZ _ _
 simp[j]
 rw[CT g]
def zU(g:Ps)(i:Nat)(p)(j:g[i]?=!p):prod ((g.take (i+1)).map (·.2))=prod ((g.take i).map (·.2))*p.2.length:=by
 rw[List.take_succ,j];simp[dD]
def F0:ki (aK 1 3 wR):=λw g l=>by
  refine aj rfl ?_;refine(ar (cf (evX_lf rfl rfl))).trans ?_;have L:=jn (J:=jX af (va 0)) (tg:=dk 2) (F:=ab (aw 1 (bb (aa aL (va 1) _) af af)) aE) (ds:=g.map tz)
   
    (λi Y=>∃o,Y=[!(.sh,sq w (g.map tz)),!(.deep,.int (prod ((g.take i).map (·.2)):Nat)),o]) (by simp[aH]) ⟨none,rfl⟩ (by
      rintro i d Y hd ⟨o,rfl⟩;rw[getElem?_map]at hd;cases j:g[i]? with
      |none=>rw[j]at hd;cases hd
      |some p=>
        rw[j]at hd;cases hd;have r:=l p (VH j);rw[zU g i p j];exact⟨_,ar (cf (wS _ _ p r)),⟨!_,rfl⟩⟩)
  let⟨Y',e,o,rfl⟩:=L;refine(ar e).trans (aS ?_);simp[uF,iB]
structure Valid(pss:U4):Prop where
 len:pss.length<=6
 each:∀p∈pss,Kl p=true
 codes:prod pss<=1000
def Valid.p(h:Valid g){p:List Pk}(l:p∈g):1<=p.length/\p.length<=6/\∀k∈p,0<=k.2/\k.2<=9:=by
 have:=h.each p l;unfold Kl at this;rw[and_eq_true,and_eq_true,List.all_eq_true]at this;refine⟨Vt this.1.1,Vt this.1.2,λk j=>?_⟩;have j:=this.2 k j;unfold LM at j;grind
def  sAre(f:UY):Prop:=∀(w:Bool)(pss:Ps),Valid (pss.map (·.2))->f [sq w (pss.map tz)]=!(.deep,.bl true)
def h_are(J:CS g)(T:ki c):sAre (aK 1 2 (sg c g)):=λw j r=>by
 refine aj rfl ?_;have C:j.length<=6:=by have:=r.len;simpa using this
 have t:∀p∈j,p.2.length<1000:=λp t=>by
  have:=(r.p (List.mem_map_of_mem t)).2.1;omega
 have hT:t4 (cP (mP (bn fO (ac (va 0) (ac (bQ (ac (cT "list") (ac (cT "tuple") ax))) ax))))) (ai (aa nw (bn eB (ac (va 0) ax)) (cD (.int 6)))) [!(sq w (j.map tz)),none]=!false:=by
  have h:¬ (6:Int)<(j.length:Int):=by omega
  cases w<;>simp[sq,h]
 refine(ar ((dX hT).trans rfl)).trans ?_;refine aS (bo (evX_lf ?_ rfl));have I:ae [1] (jX af (va 0)) (gNm 1) tQ (bz g (ac (va 1) ax)) [!(sq w (j.map tz)),none]=!(j.map λp=>.bl (Kl p.2)):=by
  refine aq (mk:=tz) (by simp) (λp l=>?_) (Vw C (!2));have:=J p.1 p.2 (t p l);simp[tz,this]
 have U:j.all (λp=>Kl p.2)=true:=by
  rw[List.all_eq_true];intro p l;exact r.each _ (List.mem_map_of_mem l)
 have o:((prod (j.map (·.2)):Nat):Int)<=1000:=by have:=r.codes;omega
 simp[aH,I,cY,U,T w j t];exact o
def  az(ps:U4):D:=.tup (ps.map eg)
def  aA(ps:U4):D:=.obj "Mill" ["passes"] [az ps]
def  gM(fa:UY):Vg->Option (List (Str×D))
 |[d]=>(cx (fa [d])).bind λb=>(t5 b).bind λt=>if t=true then(ae [2] (jX af (va 1)) (gNm 2) tQ (bn cQ (ac (va 2) ax)) [none,!d,none]).bind λl=>![(("passes":Str),.tup l)]else none
 |_=>none
def F3{R Sp}(h:R (vw Y)=!d)(g:Sp (vw Y)=none)(h2:R (di Y)=!d):∃c,bb R af Sp Y=!((c,d),Y):=by
 cases f:lfD d with
 |true=>exact⟨_,evX_lf h f⟩
 |false=>exact⟨_,oY h f rfl g rfl h2⟩
def wT(ds:Vg)(r:List (Str×D))(h:gM fa ds=!r)(y:Addr):rO 2 3 (ph fa) y ds=!r:=by
 cases ds with
 |nil=>cases h
 |cons d t=>
  cases t with
  |cons _ _=>cases h
  |nil=>
   let⟨b,h1,h⟩:=VL (h);let⟨t,h2,h⟩:=VL h;cases t with
   |false=>cases h
   |true=>
    let⟨l,p,o⟩:=VL (h);cases o;have g:ae [2] (jX af (va 1)) (gNm 2) tQ (bn cQ (ac (va 2) ax)) [!(.adr y),!d,none]=!l:=by
     rw[<-p];cases seqD d with
     |none=>rfl
     |some ps=>
      rfl
    show ph fa y (wj 3 y [d]) []=_;unfold ph;have j:wj 3 y [d]=[!_,!_,none]:=rfl;rw[j];have C:(dj (cP (mP (bz fa (ac (va 1) ax)))) (ab noO' aE) aE) [!(.sh,.adr y),!(.sh,d),none]=!(.nx [!(.sh,.adr y),!(.sh,d),none]):=by
     refine(dX ?_).trans rfl;simp[h1,h2]
    unfold stI;rw[C];simp only[Option.bind_some];let⟨c,e2⟩:=F3 (R:=bn cQ (ac (aQ (ae [2] (jX af (va 1)) (gNm 2) tQ (bn cQ (ac (va 2) ax)))) ax)) (Sp:=fNo (ac (aQ (ae [2] (jX af (va 1)) (gNm 2) tQ (bn cQ (ac (va 2) ax)))) ax)) (Y:=[!(.sh,.adr y),!(.sh,d),none]) (d:=.tup l)
     (by simp[g]) (by simp) (by simp[g])
    unfold uj;rw[e2];simp[iB,BE,oI]
def  CU(g:Vg->Option (List (Str×D))):Prop:=∀(w:Bool)(pss:Ps),Valid (pss.map (·.2))->g [sq w (pss.map tz)]=![(("passes":Str),az (pss.map (·.2)))]
def Kn(r:sAre fa):CU (gM fa):=λw g l=>by
 have j:g.length<=6:=by have:=l.len;simpa using this
 have o:ae [2] (jX af (va 1)) (gNm 2) tQ (bn cQ (ac (va 2) ax)) [none,!(sq w (g.map tz)),none]=!(g.map λp=>eg p.2):=by
  refine aq (mk:=tz) (by simp) (λp _=>?_) (Vw j (!2));simp[tz,eg]
 show((cx (fa [sq w (g.map tz)])).bind _)=_;rw[r w g l];simp[o,az]
def i6{g:Type}(xs:List g)(f:g->D)(t:Nat):cutD (xs.map f) (!(t:Int)) none=(xs.drop t).map f:=by
 unfold cutD;rw[HT.sIx_nat,HT.sIx_none,length_map,<-List.map_drop];by_cases h:t<=xs.length
 .rw[Nat.min_eq_left h];rw[List.take_of_length_le (by rw[length_map,List.length_drop];omega)]
 .have h':xs.length<=t:=by omega
  rw[Nat.min_eq_right h',List.drop_eq_nil_of_le (le_refl _),List.drop_eq_nil_of_le h'];simp
def i7{g:Type}(xs:List g)(f:g->D)(t:Nat):cutD (xs.map f) none (!(t:Int))=(xs.take t).map f:=by
 unfold cutD;rw[HT.sIx_nat,HT.sIx_none,length_map,List.drop_zero,Nat.sub_zero,<-List.map_take];grind
def lq(hf:fl "Mill" "passes"=true)(ps:U4):m8 fl "passes" (aA ps)=!(az ps):=by simp_all [Pk,m8,aA,az]
def F4(g:j "Mill" "passes"=true){t:Nat}(h0:bx Y 0=!(aA ps))(h1:bx Y 1=!(.int (t:Int))):
  ca (ku j "passes" (va 0)) (au (va 1)) cG Y=!(.tup ((!5).map eg)):=by
 unfold ca aW rH
 simp[h0,h1,lq g,az,i6]
def  CV(mt:MT)(kk:Nat):Prop:=∀ps:U4,iY mt kk "many" (aA ps) []=!(.deep,.int (ps.length:Nat))
def Ko(g:j "Mill" "passes"=true)(ps:U4):aK 1 1 (mR j) [aA ps]=!(.deep,.int (ps.length:Nat)):=by
 refine aj rfl ?_;refine aS (bo (evX_lf ?_ rfl));simp[aH,lq g,az]
def  yB(f:UY):Prop:=∀(ps:U4)(t:Nat),t<=ps.length->f [aA ps,.int (t:Int)]=!(.deep,.bl true)
def Kp{mt g w}(l:CV mt g)(j:fS w):yB (aK 2 2 (zS mt g w)):=λps t o=>by
 refine aj rfl ?_;refine aS (bo (evX_lf ?_ rfl));have h1:(t:Int)<=(ps.length:Int):=by omega
 simp[aH,l ps,j (t:Int) 0 (ps.length:Int),h1]
noncomputable def  wD(w:Vb):D:=.tup (w.map λ(i:Nat)=>.int (i:Int))
def lf_w(w:Vb):lfD (wD w)=true:=ck λd hd=>by
 let⟨p,_,rfl⟩:=Vz.mp hd;rfl
structure WordOk(ps:U4)(t:Nat)(w:Vb):Prop where
 len:w.length=(!5).length
 each:∀q∈w.zip (!5),q.1<q.2.length
def  wU(f:UY):Prop:=∀(ps:U4)(t:Nat),t<=ps.length->f [aA ps,.int (t:Int)]=!(.deep,.non)
def F5(l:yB g):wU (aK 2 2 (pi g)):=λps t j=>by
 refine lm rfl (Y:=aH 2 [aA ps,.int (t:Int)]) ?_;refine(ar ((dX ?_).trans rfl)).trans rfl;simp[aH,l ps t j]
def CW(h:f (vw Y)=!d):jW f Y=!(.nx Y):=by unfold jW;rw[h];rfl
noncomputable def  pkAt(q:Nat×List Pk):Pk:=q.2[q.1]?.getD (true,0)
def N2(h:q.1<q.2.length):nX (q.2.map kx) (q.1:Int)=!(kx (pkAt q)):=by
 refine aY ?_;unfold pkAt;grind
def lr{v:Nat->Int}(I:Nat->Ev->Prop)(o:J (di Y)=!((!20).map λi=>D.int (v i)))(h0:I 0 Y)(l:∀(i:Nat)(Y:Ev),i<n->I i Y->∃Y',F (Y.set s (!(.sh,.int (v i))))=!(.nx Y')/\I (i+1) Y'):∃Y',iq J (dk s) F Y=!(.nx Y')/\I n Y':=by
 let⟨Y',e,i⟩:=jn (tg:=dk s) I o h0 (λi d Y hd hi=>by
  rw[getElem?_map]at hd;cases g:(!20)[i]? with
  |none=>rw[g]at hd;cases hd
  |some p=>
   rw[g]at hd;cases hd;let⟨j,e⟩:=Vq.mp g;rw[List.getElem_range]at e;subst e;rw[length_range]at j;exact l i Y j hi)
 grind
def vw_o(o:U6)(Y:Ev):vw (o::Y)=o.map (·.2)::vw Y:=rfl
def uP{β γ:Type}{step}{mk}{out}{P:γ->Prop}:∀(xs:List β),(∀x∈xs,∃y,P y/\step (mk x)=!(!(out y)))->∃ys:List γ,ys.length=xs.length/\(∀y∈ys,P y)/\jV step (xs.map mk)=!(ys.map out)
 |[],_=>⟨[],rfl,λ_ h=>(nomatch h),rfl⟩
 |x::xs,h=>by
  let⟨y,py,e⟩:=h x Vr;let⟨ys,l,p,e2⟩:=uP xs λe he=>h e (Vs _ he);refine⟨y::ys,by simp[l],λz hz=>?_,?_⟩
  .rcases mem_cons.mp hz with rfl|hz
   .exact py
   .exact p z hz
  .rw[List.map_cons];unfold jV;rw[e,e2];rfl
def uQ{o j:Type}{Y:Vv}{xs:List o}{mk}{out}{P:j->Prop}(t:J Y=!(xs.map mk))(h:∀x∈xs,∃y,P y/\qC g ft fe (gx ks Y) (mk x)=!(!(out y)))(r:xs.length<big):
  ∃ys:List j,ys.length=xs.length/\(∀y∈ys,P y)/\ae ks J g ft fe Y=!(ys.map out):=by
 let⟨ys,l,p,e⟩:=uP xs h
 refine⟨ys,l,p,?_⟩
 unfold ae
 rw[t]
 simp only[Option.bind_some]
 rw[e]
 unfold bM
 simp[l,r]
noncomputable def  aM(ns:Vd):D:=.lst (ns.map D.int)
@[simp]def seq_sc(ns:Vd):seqD (aM ns)=!(ns.map D.int):=rfl
@[simp]def S7(ns:Vd):lfD (aM ns)=false:=rfl
def lu(g:Vd):fw (g.map D.int)=true:=ck λd hd=>by
 let⟨p,_,rfl⟩:=Vz.mp hd;rfl
def pv(h:0<=i)(h2:i<ns.length):∃v,ak (aM ns) (.int i)=!(.int v):=⟨_,FY h h2⟩
def  CY(f:UY):Prop:=∀(ns:Vd)(k:Nat),f [aM ns,.int (k:Int)]=!(.deep,.int (ns[k]?.getD 0))
def Kq:CY (aK 2 2 pj):=λg k=>by
 refine aj rfl ?_;have j:aH 2 [aM g,.int (k:Int)]=[!_,!(.sh,.int (k:Int))]:=rfl;rw[j];by_cases h:k<g.length
 .refine aS ((ifS_t ?_).trans (aS (bo (evX_lf ?_ rfl))))
  .have:(k:Int)<(g.length:Int):=by omega
   simp[this]
  .simp[aM];exact aY (by simp[h])
 .refine(ar ((dX ?_).trans rfl)).trans (aS (bo (evX_lf ?_ rfl)))
  .have:¬ (k:Int)<(g.length:Int):=by omega
   simp[this]
  .simp[h]
def  CZ(f:UY):Prop:=∀(c:Int)(a:Nat),a<1000->∃v:Int,0<=v/\v<1000000/\f [.int c,.int (a:Int)]=!(.deep,.int v)
def Kr:CZ (aK 2 3 uO):=λc a g=>by
 have L:=lr (J:=jX (NO (ac (va 1) ax)) (bn oX (ac (va 1) ax))) (s:=2) (F:=ab (aw 0 (bb (aa cO (va 0) (cI 1000000)) af af)) aE)
  (λi Y=>∃x v o,Y=[!(x,.int v),!(.sh,.int (a:Int)),o]) (fR (by simp[aH];exact bv (!1))) ⟨.sh,c,none,rfl⟩ (by
   rintro i Y hi ⟨x,v,o,rfl⟩;exact⟨_,ar (cf (evX_lf (by simp;exact cg (!2) (!2)) rfl)),⟨_,_,_,rfl⟩⟩)
 let⟨Y',e,x,v,o,rfl⟩:=L;refine⟨v%1000000,Int.emod_nonneg _ (!2),Int.emod_lt_of_pos _ (!2),aj rfl ?_⟩;refine(ar e).trans (aS (bo (evX_lf ?_ rfl)));simp;exact bp (!2)
def wV(h:0<=i)(h2:i<1000000000039):aL (.int i) (.int j)=!(.int (i*j)):=sf (Int.lt_of_lt_of_le (!2) h) (Int.lt_trans h2 (!2))
def zV{k:Int}(h:g Y=!((.deep,d),Y'))(j:ownL Y' i=!(.deep,ds))(o:p (vw Y')=!(.int k))(h0:0<=k)(l:k<ds.length):uG i p g R Y=!(.nx (Y'.set i (!(.deep,.lst (ds.set k.toNat d))))):=by
 unfold uG aW;rw[uM h j o h0 l]
def md(i:Int)(h:0<j):0<=i%j/\i%j<j:=⟨Int.emod_nonneg _ (!1),Int.emod_lt_of_pos _ h⟩
def lY(i j:Int)(h:0<j):aU (.int i) (.int j)=!(.int (i%j)):=bp h
def C0{a b:Nat}(g:a<1000000):aL (.int (a:Int)) (.int (b:Int))=!(.int ((a*b:Nat):Int)):=by
 exact sf (Int.lt_of_lt_of_le (!2) (Int.natCast_nonneg a)) (Int.lt_trans (show(a:Int)<1000000 by omega) (!2))
end L2
namespace L2
open PySem PySem.Spec PyProof.Rows
def RQ(q:Bool):decide (kd q=("pile":Str))=not q:=by cases q<;>decide
def  HY(q:Bool)(a c:Int):Int:=if q=true then c else a-1-c
def  qO(f:UY):Prop:=∀(q:Bool)(a c:Int),f [.str (kd q),.int a,.int c]=!(.deep,.int (HY q a c))
def Ks:qO (aK 3 3 Kh):=λq a c=>by
 refine aj rfl ?_;refine aS (bo (evX_lf ?_ rfl));cases q<;>rfl
def  P5(s:Int×Int)(q:Nat×List Pk):Int×Int:=(s.1*q.2.length,q.1*s.1+HY (pkAt q).1 s.1 s.2)
def  HZ(s:Int×Int)(zs:List (Nat×List Pk)):Int×Int:=zs.foldl P5 s
def wW{i:Nat}(h:i<1000000):aL (.int (i:Int)) (.int j)=!(.int ((i:Int)*j)):=sf (lt_big (!1) (!1)).1 (lt_big (!1) (!1)).2
def zW(l:ki c)(ps:U4)(h:∀p∈ps,p.length<1000):c [.tup (ps.map eg)]=!(.deep,.int (prod ps:Nat)):=by
 have e:(ps.map λp=>((false,p):Bool×List Pk)).map tz=ps.map eg:=by rw[List.map_map];rfl
 have o:(ps.map λp=>((false,p):Bool×List Pk)).map (·.2)=ps:=by rw[List.map_map];exact List.map_id ps
 have:=l false (ps.map λp=>(false,p)) (λp j=>by
  let⟨q,g,rfl⟩:=Vz.mp j;exact h q g)
 rw[e,o]at this;exact this
end L2
namespace L2
open PySem PySem.Spec PyProof.Rows
def evX_fz{R L Sp}(h:R (vw Y)=!d)(f:lfD d=false)(hl:L (vw Y)=none)(hs:Sp (vw Y)=none)(hl2:L (di Y)=none)(h2:R (di Y)=none):bb R L Sp Y=!((.sh,d),cR Y):=by
 unfold bb aW kX oE ui Bu frX aW vq iA;grind
def zX{β γ:Type}(l:List β)(f:β->γ)(d:β):(List.range l.length).map (λj=>f (l[j]?.getD d))=l.map f:=by
 apply List.ext_getElem?;intro i;rw[getElem?_map,getElem?_map];by_cases h:i<l.length
 .rw[List.getElem?_range h,getElem?_eq_getElem h];simp[h]
 .rw[List.getElem?_eq_none (by rw[length_range];omega),List.getElem?_eq_none (!1)];rfl
def Kt{K}{st}(n k:Nat)(X:K.In h)(T:h.Ns mainGlobals mg)(o:mg "law"=!(.ref fa))(S:FnScope N ["script"] (ah st))(b:bj "law" st ["script"])(t:aT K "law" st)(g:∀base:Heap,K.In base->base.Ns mainGlobals mg->GbOk P w K mg base G)(J:∀r:Vd,r.length<=63->cx (D8 n k N ["script"] st G [.lst (r.map D.int)])=!(.bl true)):
  ∃fd:FuncData,(∀(s:Shared)(v:Value),BindsTo s fd ⟨[v],[]⟩ [("script",v)])/\∀base:Heap,K.In base->base.Ns mainGlobals mg->FnOk P w K mg base rB (k+1) fa fd ["script"] (PH K):=by
 let⟨f,oc,od,an,C,kV,p,pm,l,ct,h1,h2,h3,h4⟩:=t
 have e:=o.symm.trans (PySem.W.mg_of X T h1)
 cases e
 have Fn:=nY h2 h3 h4
 refine⟨_,λs v=>.of_eq (b "law" kV p pm an l ct [v] rfl),λbase KB U=>Kf (JA Fn S λl A j s H E I=>?_) J⟩
 exact(FW n).2 _ _ (uH (g base KB U) S l A j s H E I) _
def cn_int{K}(X:K.In h)(g:h.Ns mainGlobals mg)(t:∃t,nsIn K mainGlobals x=!(!(.int i t))):Cn K mg x (.int i):=by
 let⟨t,e⟩:=t;exact⟨_,_,PySem.W.mg_of X g e,(show RelV (.int i) _ from⟨t,rfl⟩),λH=>rfl⟩
def cn_2str{K}(X:K.In h)(r:h.Ns mainGlobals mg)(t:∃(a:Addr)(p:Option Addr)(n:Nat)(o:Array (Va))(j:Tok)(g:Tok),nsIn K mainGlobals x=!(!(.ref a))/\K.lookup a=!⟨.type "tuple",p,.seq #[.str y j,.str z g] n,o⟩):Cn K mg x (.tup [.str y,.str z]):=by
 let⟨a,p,n,o,j,g,e,l⟩:=t;refine⟨.ref a,_,PySem.W.mg_of X r e,rfl,λH=>⟨a,[.str y,.str z],rfl,.inr ⟨_,_,n,l,rfl,rfl,?_,?_⟩,⟨_,_,rfl,rfl,⟨_,_,rfl,rfl,rfl⟩⟩⟩⟩
 .show 2<=sizeLine;decide
 .exact .cons ⟨j,rfl⟩ (.cons ⟨g,rfl⟩ .nil)
def fl_one{K}(t:∃Ca,nsIn K mainGlobals C=!(!(.ref Ca))/\findIn K (.ref Ca) m=!none)(h:f=m):∀Ca,nsIn K mainGlobals C=!(!(.ref Ca))->NoAttr K Ca f:=by grind [NoAttr]
def nI{K}(c:TCls K C)(g:nsIn K mainGlobals C=!(!(.ref Ca))):Cls K Ca:=by
 let⟨l,e,j,_,_⟩:=c.ex;grind
def RS{K}{st}{kV j pm g ct}(a:nsIn K mainGlobals x=!(!(.ref f)))(l:K.lookup f=!⟨r,p,.func (PySem.W.fnOf x x (bJ st) (aO st) (ah st) .none kV j pm t g ct),o⟩)(c:PySem.W.codeIn K g x=true)(k:PySem.W.keepIn K (.ref f)=true):aT K x st:=⟨f,r,p,t,o,kV,j,pm,g,ct,a,l,c,k⟩
def zY{K}{st}{kV doc pm cdv ct}(a:nsIn K mainGlobals C=!(!(.ref Ca)))(n:findIn K (.ref Ca) m=!(!(.ref f)))(i:PySem.W.isFn K (.ref f)=true)(l:K.lookup f=!⟨oc,od,.func (PySem.W.fnOf m qual (bJ st) (aO st) (ah st) .none kV doc pm an cdv ct),osl⟩)(c:PySem.W.codeIn K cdv qual=true)(k:PySem.W.keepIn K (.ref f)=true):jD K C m qual st:=by grind [bJ,aO,ah,jD]
def N3{K}(a:nsIn K mainGlobals C=!(!(.ref Ca)))(j:PySem.W.plainGet K Ca Str.empty=true)(hd:PySem.W.hasDictIn K Ca=true)(po:PySem.W.plainOver K Ca=true)(g:findIn K (.ref Ca) "__setattr__"=!(!(.builtin "object.__setattr__")))(mk:PySem.W.makesIn K Ca=true)(l:PySem.W.keepIn K (.ref Ca)=true):TCls K C:=⟨Ca,a,⟨j,hd,po,g⟩,mk,l⟩
def P6{K}(a:nsIn K mainGlobals C=!(!(.ref Ca)))(n:findIn K (.ref Ca) m=!none):∃Ca,nsIn K mainGlobals C=!(!(.ref Ca))/\findIn K (.ref Ca) m=!none:=⟨Ca,a,n⟩
def zZ{K}(a:nsIn K mainGlobals x=!(!(.int i t))):∃t,nsIn K mainGlobals x=!(!(.int i t)):=⟨t,a⟩
def N4{K}(e:nsIn K mainGlobals x=!(!(.ref a)))(l:K.lookup a=!⟨.type "tuple",od,.seq #[.str y t0,.str z t1] n,sl⟩):
 ∃(a:Addr)(od:Option Addr)(n:Nat)(sl:Array (Va))(t0:Tok)(t1:Tok),nsIn K mainGlobals x=!(!(.ref a))/\K.lookup a=!⟨.type "tuple",od,.seq #[.str y t0,.str z t1] n,sl⟩:=⟨a,od,n,sl,t0,t1,e,l⟩
noncomputable abbrev C1(q:Str)(params:Arguments)(body:Expr)(scope:Scope)(cl:List (Str×Addr))(pm:Value)(c':Addr)(ctv:Value):FuncData:=PySem.W.kla_fn "<lambda>" q params body scope cl pm (.ref c') ctv
noncomputable abbrev cZ(q:Str)(params:Arguments)(body:Expr)(scope:Scope)(cl:List (Str×Addr))(pm:Value)(c':Addr)(ctv:Value):Obj:=PySem.W.kla_obj "<lambda>" q params body scope cl pm c' ctv
def  RT(X:Cx)(A:Around)(N:Vc)(env:Env)(s:Shared)(H:Hp):Cx:=
 {X with A:=A.deeper env,N:=N,s₀:=s,H₀:=H,env:=env,outer:=X.stack,stack:=env::X.stack,ex:=[],fn:=λ_=>false,calm:=true,pn:=[],xe:=λ_ _=>False}
structure LamSc(scope:Scope)(x y:Str):Prop where
 xl:scope.names.lookup x=some .local
 yf:scope.names.lookup y=some .free
 only:∀z,scope.names.lookup z=some .free->z=y
 nocell:∀z∈scope.names,z.2≠.cell
 kind:scope.kind=.function
 co:scope.isCoroutine=false
 gen:scope.isGenerator=false
 ne:x≠y
section
variable{X:Cx}{pins:U5}{σ:St}{H:Hp}{s:Shared}
def F6(I:Inv X pins σ H s)(hA:A.frames=!X.stack)(hh:A.handled=none)(S:LamSc scope x y)(hc:X.env.cells.lookup y=!c)(t:s.heap.IsCell c (!w))(J:RelV v w)(rl:RelV l u)(T:j.Ns s.heap.objs.size (λz=>[(x,u)].reverse.lookup z))(g:∀b o,s.heap.get? b=!o->j.get? b=!o):
  Inv (RT X A [x,y] (PySem.W.envX q scope s.heap.objs.size f (.ref c') [(y,c)]) s H) [] [!l,!v] H {s with heap:=j,toks:=tk}:=by
 have C:∀z d,([(y,c)]:List (Str×Addr)).lookup z=!d->z=y/\d=c:=λz d h=>by
  rw[List.lookup_cons]at h;split at h
  .rename_i e;exact⟨by simpa using e,(Option.some.inj h).symm⟩
  .cases h
 have cy:([(y,c)]:List (Str×Addr)).lookup y=!c:=by simp[List.lookup_cons]
 have r:j.IsCell c (!w):=by
  let⟨o,ho,hd⟩:=t;exact⟨o,g _ _ ho,hd⟩
 refine⟨⟨I.ok.mod,S.kind,rfl,rfl,VI _,λa b d h1 h2=>?_,λa ha=>?_,λa d ha=>?_,λ_=>hh,Around.frames_deeper hA,.inr ⟨rfl,rfl⟩,λb z=>(nomatch z),I.bs,Vx I.ok.bsz I.sz,λb _ _ z=>(nomatch z),λb z=>(nomatch z),I.stack,⟨I.stkFree,I.tab⟩⟩,
  rfl,I.bare,Un.kept g,⟨_,T,λi z v' h1 h2 h3=>?_⟩,λa d h=>?_,I.hok.fresh (VI _),λa d h=>?_,λp hp=>(nomatch hp),I.hok.kept g,rfl⟩
 .rw[(C a d h1).1,(C b d h2).1]
 .have U:scope.names.lookup a=some .cell\/scope.names.lookup a=some .free:=ha;rcases U with z|z
  .exact absurd rfl (S.nocell _ (PySem.mem_of_lookup z))
  .rw[S.only a z];exact⟨c,cy⟩
 .cases ha
 .match i,h1,h2 with
  |0,h1,h2=>
   cases h1;cases h2;exact⟨u,rl,.inl ⟨S.xl,by simp[List.lookup_cons]⟩⟩
  |1,h1,h2=>
   cases h1;cases h2;exact⟨w,J,.inr ⟨.inr S.yf,c,cy,r⟩⟩
  |n+2,h1,h2=>cases h1
 .let⟨rfl,rfl⟩:=C a d h;exact⟨_,r⟩
 .let⟨rfl,rfl⟩:=C a d h;exact I.freeC _ _ hc
def F7(I:Inv X pins σ H s)(hA:A.frames=!X.stack)(hh:A.handled=none)(j:A.depth<recursionLimit)(S:LamSc scope x y)(hf:s.heap.get? f=!(cZ q g body scope [(y,c)] pm c' ctv))(hcd:s.heap.CodeRec (.ref c') q)(hb:bindArgs (C1 q g body scope [(y,c)] pm c' ctv) ⟨[u],[]⟩=pure [(x,u)])(hc:X.env.cells.lookup y=!c)(C:s.heap.IsCell c (!w))(rw':RelV v w)(rl:RelV l u)(T:PE (RT X A [x,y] (PySem.W.envX q scope s.heap.objs.size f (.ref c') [(y,c)]) s H) body t)(ht:t [!l,!v] H Q):
  wpAny (!4) A (call (.ref f) [u]) (EP X pins σ Q) (λ_ _=>False) s:=by
 refine wpAny_call ?_
 refine PySem.W.kla_callFunE j hf rfl S.co S.gen rfl hcd ?_
 rw[hb]
 refine Vm (wpAny_newFunctionEnv S.nocell (λz hz=>by rw[mem_singleton.mp hz];exact S.xl) (λU hns hsb=>⟨I.nolimit.fresh _ hsb,?_⟩) S.kind)
 show codeAny _ _ (.expr body (PySem.W.envX q scope s.heap.objs.size f (.ref c') [(y,c)])) _ _
 have p:∀b o,s.heap.get? b=!o->U.get? b=!o:=λb o e=>hsb.extBut b o (Vy (Vn e)) (Vl _ e)
 have J:=F6 (q:=q) (c':=c') (f:=f) (tk:=s.toks+[(x,u)].length) I hA hh S hc C rw' rl hns p
 refine PySem.W.kla_codeExpr (VJ (T [] _ _ H Q J ht) (λr s' hs=>?_) λe s' hF=>hF.elim)
 let⟨v',H',J',rv,q⟩:=hs
 exact⟨v',H',I.call' J'.os J'.base J'.hok J'.bare (λ_ z=>nomatch z),rv,q⟩
def C2(I:Inv X pins σ H s)(hP:H P=!(.cod #[] pos q))(J:X.env.code=.ref c0)(hC:∀h:Heap,X.K.In h->PySem.W.CodeHd h c0 P)(hB:∀h:Heap,X.K.In h->h.BuiltinsAt X.mg P)(hgP:mainGlobals≠P)(hcl:closureFor scope X.env=pure j)(k:∀f p l s' H',Inv X pins σ H' s'->Same H H'->s'.heap.get? f=!(!11)->H' f=!(.frz (!11) (.own f))->(∃r U t,H' p=!(.frz r (.own P))/\r.data=.fields U/\U[1]?=!(.str q t))->Q (.ref f) s'):
  wpAny (!4) A (makeFunction "<lambda>" q g (.expr body) scope X.env [] [] [] pos fl) Q E s:=by
 have hg:=I.ok.mod.glob.keeps I.bk
 rcases I.hok P _ hP with hp|⟨p,r,U,t,hp,ho,C⟩
 .refine PySem.W.kla_makeFunction hcl I.ok.glob hg J (hC _ I.kIn) hp True.intro rfl hgP (hB _ I.kIn) λp l h' tk hx hge hlt C htb=>?_;let⟨c2,r,U,t,z2,goc,hvs,hv1⟩:=C;cases z2;have hcn:=I.hok.fresh hge;have hfs:=Vx hge (VF hlt);have T:=I.hok.fresh hfs;have hfc:=Nat.ne_of_gt hlt;have up:∀b o,H b=!o->aR (aR H p (.frz r (.own P))) h'.objs.size (.frz (!11) (.own h'.objs.size)) b=!o:=λb o e=>by
   rw[ag (am e T),ag (am e hcn)];exact e
  have kp:∀b o,b≠P->s.heap.get? b=!o->(h'.push (!11)).get? b=!o:=λb o hb e=>Vl _ (hx b o hb e);have nP:∀b,H b=none->b≠P:=λb n z=>by rw[z,hP]at n;cases n
  have lt:∀b o,s.heap.get? b=!o->b≠p/\b≠h'.objs.size:=λb o e=>⟨Vy (Vu (Vn e) hge),Vy (Vu (Vn e) hfs)⟩;have gf:(h'.push (!11)).get? h'.objs.size=!(cZ q g body scope j _ p l):=Vo _ rfl;have gc:(h'.push (!11)).get? p=!r:=Vl _ goc;have hc':aR (aR H p (.frz r (.own P))) h'.objs.size (.frz (!11) (.own h'.objs.size)) p=!(.frz r (.own P)):=by rw[ag (Ne.symm hfc),al]
  refine k h'.objs.size p l _ (aR (aR H p (.frz r _)) h'.objs.size (.frz (cZ q g body scope j _ p l) _)) (I.un ⟨λb o e n _ _=>kp b o (nP b n) e,λb o e n _ _=>⟨o.slots,kp b o (nP b n) e⟩,λb o e n _=>?_,λb o e _=>?_,λb xs e=>up _ _ e,λb o u e=>up _ _ e,λb ps e=>⟨#[],by rw[up _ _ e];simp⟩⟩ ?_) (λb o e=>up b o e) gf al ⟨r,U,t,hc',hvs,hv1⟩
  .rw[ag (lt b o e).2,ag (lt b o e).1];exact n
  .by_cases hb:b=P
   .subst hb;exact⟨_,Vl _ htb⟩
   .exact⟨o,kp b o hb e⟩
  .intro b o e;by_cases hbf:b=h'.objs.size
   .subst hbf;rw[al]at e;cases e;exact⟨gf,_,gf⟩
   .rw[ag hbf]at e;by_cases hbc:b=p
    .subst hbc;rw[al]at e;cases e;exact⟨gc,_,gc⟩
    .rw[ag hbc]at e;by_cases hbP:b=P
     .subst hbP;rw[hP]at e;cases e;exact .inr ⟨p,r,U,t,Vl _ htb,hc',hvs,hv1⟩
     .refine(I.hok b o e).stay (λd v hd q=>kp d v ?_ q) (λd q=>up _ _ q) (λd xs q=>up _ _ q) λd o' u' q=>up _ _ q;rcases hd with rfl|hd
      .exact hbP
      .intro z;rw[z,hP]at hd;cases hd
 .have hf:codeAmong pos (#[]++#[rawInt pos.line,rawInt pos.col,.ref p]:Vf).toList=!(.ref p):=codeAmong_snoc [] True.intro rfl;refine PySem.W.kla_makeFunctionHit hcl I.ok.glob hg J (hC _ I.kIn) hp True.intro hf (hB _ I.kIn) λl h' tk hk hsz=>?_;have T:=I.hok.fresh hsz;have gf:(h'.push (!11)).get? h'.objs.size=!(cZ q g body scope j _ p l):=Vo _ rfl;exact k h'.objs.size p l _ _ (I.laid (o:=.frz (cZ q g body scope j _ p l) (.own h'.objs.size)) (λb o e=>Vl _ (hk b o e)) hsz ⟨gf,_,gf⟩) (λb o e=>by rw[ag (am e T)];exact e) gf al
   ⟨r,U,t,by rw[ag (am ho T)];exact ho,C⟩
end
def Inv.adopt{σ:St}(I:Inv X pins σ H s)(g:H a=none)(U:X.s₀.heap.objs.size<=a)(hL:a≠X.env.locals)(T:∀x c,X.env.cells.lookup x=!c->c≠a)(J:∀p∈X.pn++pins,p.1≠a)(new:ObjOk X.prog X.w (aR H a o) s.heap a o):Inv X pins σ (aR H a o) s:=
 ⟨I.ok,I.os,I.bare,⟨I.base.keep,I.base.slot,λb j e n C=>by rw[ag (Nat.ne_of_lt (lt_of_lt_of_le (Heap.lt_size e) U))];exact I.base.free b j e n C,I.base.there,
   λb xs e=>by have q:=I.base.tups b xs e;rw[ag (am q g)];exact q,λb j u e=>by have q:=I.base.frzs b j u e;rw[ag (am q g)];exact q,
   λb ps e=>by let⟨m,q⟩:=I.base.tbls b ps e;exact⟨m,by rw[ag (am q g)];exact q⟩⟩,
  I.loc,I.cell,by rw[ag (Ne.symm hL)];exact I.free,λx c e=>by rw[ag (T x c e)];exact I.freeC x c e,λp q=>by let⟨t,r,l⟩:=I.pin p q;exact⟨t,by rw[ag (J p q)];exact r,l⟩,I.hok.adopt g new,I.len⟩
def  C3(a:Addr):Ve:=λb=>decide (b=a)
def lZ(a:Addr):C3 a a=true:=decide_eq_true rfl
section
variable{X:Cx}{pins:U5}{σ:St}{H:Hp}{s:Shared}
def  uR(X:Cx)(σ:St)(H:Hp)(A:Around)(f:Value)(xs:List V)(kds:Vg):Prop:=
 ∀(i:Nat)(x:V)(u:Value),xs[i]?=!x->RelV x u->∀(O:Ve)(pins:U5)(s:Shared)(H':Hp),Inv X pins σ H' s->(∀b,O b=true->Hid (H' b))->Same H (msk O H')->
  wpAny (!4) A (call f [u]) (EP X pins σ λv H2=>Same H' H2/\Is X.K (msk O H2) (kds.getD i .non) v) (λ_ _=>False) s
def  sj(X:Cx)(σ:St)(pins:U5)(H:Hp)(kS:Addr)(kds:Vg)(i:Nat)(s:Shared):Prop:=
 ∃H' kvs,Inv X pins σ H' s/\H' kS=!(.lst kvs)/\Same H (msk (C3 kS) H')/\IsL X.K (msk (C3 kS) H') (kds.take i) kvs
def F8{H':Hp}(h:H' kS=!(.lst kvs)):∀b,C3 kS b=true->Hid (H' b):=by simp_all [Hp,C3,Hid]
def C4{C:Except Value Value->Sem (ForInStep PUnit)}(T:uR X σ H A f xs g)(U:xs[i]?=!x)(ru:RelV x u)(hlen:g.length=xs.length)(h64:xs.length<64)(hk:sj X σ pins H p g i s)(hC:∀v,C (.ok v)=(do Builtin.List.listUpdate (.ref p) (·.push v);pure (.yield ⟨⟩))):
  wpAny (!4) A ((call f [u]).attempt>>=C) (λr s'=>r=.yield ⟨⟩/\sj X σ pins H p g (i+1) s') E s:=by
 let⟨H1,kvs,I,o,hs,J⟩:=hk
 have hi:=(Vq.mp U).1
 refine Vk (wpAny_attempt (VJ (T i x u U ru _ pins s H1 I (F8 o) hs) (λr s' h=>?_) λ_ _ z=>z.elim))
 let⟨v,H2,I2,rv,l,iv⟩:=h
 rw[hC]
 have j:=l _ _ o
 let⟨hz,its,n,r1,hl,e⟩:=I2.lstM j
 have t:=J.len
 rw[List.length_take]at t
 have h64':(64:Nat)<=sizeLine:=by decide
 refine Vk (listUpdate_at e rfl ?_ (by rw[size_toArray];omega) (by rw[Array.size_push,size_toArray];omega))
 have I3:=I2.lset (t':=s'.toks) (f:=λz=>z.push r) j e (by simp) (Vals.append r1 (.cons rv .nil)) (by rw[length_append];show _+1<=_;omega)
 refine Vm ⟨rfl,_,_,I3,al,?_,?_⟩
 .rw[jf (lZ p)];exact hs.trans l.msk
 .rw[jf (lZ p)];have ht:g.take (i+1)=g.take i++[g.getD i .non]:=by
   rw[List.take_add_one];have:g[i]?=!(g.getD i .non):=by
    rw[List.getD_eq_getElem?_getD,getElem?_eq_getElem (!1)];rfl
   rw[this];rfl
  rw[ht];exact(IsL.mono l.msk _ _ J).app ⟨v,[],rfl,iv,rfl⟩
def  plcK(kds:Vg):Vb:=if kds.length<2 then List.range kds.length else(kRun (qa λi=>flt (kds.getD i .non)) (PySem.W.kas_sort kds.length)).toList
def jo(g:Vg):(plcK g).Perm (List.range g.length):=by
 unfold plcK;split
 .exact .refl _
 .exact(dH _ (!1)).1
def uS(g:Vg):(plcK g).Pairwise (λa b=>HT.lexLt (flt (g.getD b .non)) (flt (g.getD a .non))=false):=by
 unfold plcK;split
 .rename_i h;match e:g.length,h with
  |0,_=>exact .nil
  |1,_=>exact List.pairwise_singleton _ _
 .exact(dH _ (!1)).2
def F9{st}(I:Inv X ((a,seqObj "list" #[] e1)::pins) σ H2 s)(hkS:H2 kS=!(.lst kvs))(hk64:kvs.length<64)(hfl:failedOf st=none)(har:(arrOf st).map (·.2)=its.toArray)(rv:Vals ys its)(h64:its.length<64)(ha:X.s₀.heap.objs.size<=a)(hc:∀x c,X.env.cells.lookup x=!c->c≠a)(hpp:∀p∈X.pn++pins,p.1≠a)(h:∀s',Inv X pins σ (aR (aR H2 kS (.lst [])) a (.lst ys)) s'->aR H2 kS (.lst []) a=none->P (.done (.ret .none)) s'):wpAny (!4) A (ksk_tail a false e1 (.ref kS) st) P E s:=by
 have h64':(64:Nat)<=sizeLine:=by decide
 have hpin:=I.pin (a,seqObj "list" #[] e1) (VC _ (.head _));have hak:a≠kS:=λz=>by have q:=hpin.2.1;dsimp only at q;rw[z,hkS]at q;cases q
 let⟨_,kts,n,r1,hl,e⟩:=I.lstM hkS;unfold ksk_tail;dsimp only;refine Vk (listUpdate_at e rfl ?_ (by rw[size_toArray];omega) (Nat.zero_le _));have I3:=I.lset (ys:=[]) (its':=[]) (t':=s.toks) (f:=λ_=>(#[]:Vf)) hkS e rfl .nil (Nat.zero_le _);have hp3:=I3.pin (a,seqObj "list" #[] e1) (VC _ (.head _));refine Vk (wpAny_letGo ?_);refine Vk (seqEpoch_at hp3.1 rfl ?_);refine Vk (listUpdate_at hp3.1 rfl ?_ (Nat.zero_le _) ?_)
 .rw[hfl];simp only[bne_self_eq_false,Bool.false_eq_true,if_false];refine Vm (h _ ?_ hp3.2.1);have I4:Inv X pins σ (aR H2 kS (.lst [])) {s with heap:=s.heap.update kS (Obj.mapSeq λ_=>(#[]:Vf)),toks:=s.toks}:=I3.pins_of λp hp=>I3.pin p (VC _ (Vs _ hp));obtain⟨c2,hc2⟩:∃c2,((s.heap.update kS (Obj.mapSeq λ_=>(#[]:Vf))).update a (Obj.mapSeq λ_=>(arrOf st).map (·.2))).get? a=!(seqObj "list" ((arrOf st).map (·.2)) c2):=⟨_,get?_update_seq hp3.1 λ_=>(arrOf st).map (·.2)⟩;have I5:=I4.turned (t':=s.toks) (it:=a) (h':=(s.heap.update kS (Obj.mapSeq λ_=>(#[]:Vf))).update a (Obj.mapSeq λ_=>(arrOf st).map (·.2))) (λb o hb q=>by rw[Heap.get?_update_ne _ _ _ _ hb];exact q) hp3.2.1 hp3.2.2.1 (.inr ha) hc hpp;refine I5.adopt hp3.2.1 ha hp3.2.2.1 hc hpp ⟨by rw[rv.length];omega,its,c2,rv,?_⟩;exact hc2.trans (by rw[har])
 .show((arrOf st).map (·.2)).size<=_;rw[har,size_toArray];omega
def Ku(hk:sj X σ ((a,seqObj "list" #[] e1)::pins) H kS g g.length s)(hu:A.units+1<cLine)(hs:cW g)(hlen:g.length=xs.length)(rv:Vals xs l)(h64:xs.length<64)(ha:X.s₀.heap.objs.size<=a)(hc:∀x c,X.env.cells.lookup x=!c->c≠a)(hpp:∀p∈X.pn++pins,p.1≠a)(h:∀s' H',Inv X pins σ (aR H' a (.lst ((plcK g).map λi=>xs.getD i .non))) s'->H' a=none->Same H H'->P (.done (.ret .none)) s'):
  wpAny (!4) A (do let keys<-Builtin.List.listItems (.ref kS);ksk_end a false l.toArray e1 (.ref kS) keys) P E s:=by
 let⟨H2,kvs,I,J,hsm,il⟩:=hk
 rw[List.take_length]at il
 have hkl:=il.len
 have hil:=rv.length
 let⟨hz,U,n,r1,hl,e⟩:=I.lstM J
 have hlt:∀i∈plcK g,i<g.length:=λi hi=>VG.mp ((jo g).mem_iff.mp hi)
 have vv:Vals ((plcK g).map λi=>xs.getD i .non) ((plcK g).map λi=>l.getD i .none):=dW rv .non .none (λi hi=>by have:=hlt i hi;omega)
 have ln:((plcK g).map λi=>l.getD i Value.none).length<64:=by rw[length_map,(jo g).length_eq,length_range];omega
 have sm:Same H (aR H2 kS (.lst [])):=λb o q=>by
  have T:=a9 (hsm b o q);rw[ag (λz=>by rw[z]at T;rw[lZ]at T;cases T.1)];exact T.2
 have fin:∀st:SortSt,failedOf st=none->(arrOf st).map (·.2)=((plcK g).map λi=>l.getD i Value.none).toArray->wpAny _ A (ksk_tail a false e1 _ st) P E s:=λst hf har=>
  F9 I J (!1) hf har vv ln ha hc hpp λs' I' hn=>h s' _ I' hn sm
 refine Vk (listItems_at e rfl ?_)
 unfold ksk_end
 simp only[Bool.false_eq_true,if_false]
 by_cases h2:l.toArray.size<2
 .rw[if_pos h2,if_pos h2];refine Vk (Vm ?_);refine Vk (Vm ?_);rw[size_toArray]at h2;refine fin (SortSt.mk' general' _ #[] 7 none) rfl ?_;have ep:plcK g=List.range g.length:=if_pos (!1);rw[ep,show g.length=l.length by omega,bO];show(U.toArray.zip l.toArray).map (·.2)=l.toArray;apply Array.toList_inj.mp;simp only[Array.toList_map,Array.toList_zip];exact List.map_snd_zip (!1)
 .rw[if_neg h2,if_neg h2];rw[size_toArray]at h2;let⟨sh,hne,hs'⟩:=hs;have B:=x9 I hu il.full r1 hne hs' (VI s.heap.objs.size) s.heap (λ_ _ q=>q);refine Vk (VJ (B.kd s.heap (λ_ _ _ q=>q) (!1) (λt s'=>t=tuples' _/\s'=s) ⟨rfl,rfl⟩) ?_ λ_ _ z=>z.elim);rintro t s1 ⟨z1,z2⟩;rw[z1,z2];refine Vk (VJ (PySem.W.kat_run (Q:=λr s'=>((arrOf r).map (·.2)=((plcK g).map λi=>l.getD i Value.none).toArray/\failedOf r=none)/\s'=s) (!1) (!1) (!1)
   (G:=λp s'=>p=kRun (qa λi=>flt (g.getD i .non)) _/\s'=s) (λp r s' a1 a2 a3 a4=>⟨⟨?_,a3⟩,a4.2⟩) (rV (λi j C hi hj z=>B.cp s.heap (λ_ _ _ q=>q) i j (!1) (!1) C z) _ (rT (!1)) ⟨rfl,rfl⟩)) ?_ λ_ _ z=>z)
  .rw[PySem.W.kat_snds (!1) a2,a4.1];have ep:plcK g=(kRun (qa λi=>flt _) (PySem.W.kas_sort g.length)).toList:=if_neg (!1);rw[ep,show g.length=l.length by omega]
  .rintro⟨⟨⟩,r⟩ s2 ⟨⟨z3,z4⟩,z5⟩;rw[z5];exact fin r z4 z3
end
def Ga(I:Inv X pins σ H s)(hu:A.units+1<cLine){h2:Heap}(ho:h2.get? a=!(seqObj "list" its.toArray m))(kp:∀b o,s.heap.get? b=!o->h2.get? b=!o)(ha:s.heap.objs.size<=a)(T:uR X σ H A (.ref f) xs kds)(hs:cW kds)(hlen:kds.length=xs.length)(rv:Vals xs its)(h64:xs.length<64)(h:∀s' H',Inv X pins σ (aR H' a (.lst ((plcK kds).map λi=>xs.getD i .non))) s'->H' a=none->Same H H'->P (.done (.ret .none)) s'):wpAny (!4) A (ksk_tree a (.ref f) false) P E {s with heap:=h2}:=by
 have hil:=rv.length;have h64':(64:Nat)<=sizeLine:=by decide
 have lt:=Vn ho;obtain⟨e1,ho1⟩:∃e1,(h2.update a (Obj.mapSeq λ_=>(#[]:Vf))).get? a=!(seqObj "list" #[] e1):=⟨_,get?_update_seq ho λ_=>#[]⟩;have hkS:((h2.update a (Obj.mapSeq λ_=>(#[]:Vf))).push (seqObj "tuple" its.toArray 0)).objs.size=h2.objs.size+1:=by rw[size_push',Heap.size_update]
 have hne:∀b o,s.heap.get? b=!o->b≠a:=λb o e=>Vy (Vu (Vn e) ha);have kp5:∀b o,s.heap.get? b=!o->(((h2.update a (Obj.mapSeq λ_=>(#[]:Vf))).push (seqObj "tuple" its.toArray 0)).push (seqObj "list" #[] 0)).get? b=!o:=λb o e=>
  Vl _ (Vl _ (by rw[Heap.get?_update_ne _ _ _ _ (hne b o e)];exact kp b o e))
 have ho5:(((h2.update a (Obj.mapSeq λ_=>(#[]:Vf))).push (seqObj "tuple" its.toArray 0)).push (seqObj "list" #[] 0)).get? a=!_:=Vl _ (Vl _ ho1);have hsk:=Vx ha (VF (Nat.lt_succ_of_lt lt));have hak:=Vy (Nat.lt_succ_of_lt lt);have kSn:=I.hok.fresh hsk;have an:=I.hok.fresh ha;have I5:Inv X pins σ (aR H (h2.objs.size+1) (.lst [])) {s with heap:=((h2.update a (Obj.mapSeq λ_=>(#[]:Vf))).push _).push _,toks:=s.toks}:=
  I.laid kp5 hsk ⟨Nat.zero_le _,[],0,.nil,by rw[<-hkS];exact Vo _ rfl⟩
 have hL:=Nat.ne_of_gt (Vu I.lt ha);have I6:Inv X ((a,seqObj "list" #[] e1)::pins) σ (aR H (h2.objs.size+1) (.lst [])) {s with heap:=((h2.update a (Obj.mapSeq λ_=>(#[]:Vf))).push (seqObj "tuple" its.toArray 0)).push (seqObj "list" #[] 0),toks:=s.toks}:=by
  refine I5.pins_of λp hp=>?_;rcases mem_cons.mp hp with rfl|hp
  .exact⟨ho5,by rw[ag hak];exact an,hL,I.nofs ha,λv z=>by cases z⟩
  .exact I5.pin p (VC _ hp)
 refine Vk (listItems_at ho rfl ?_);refine Vk (listUpdate_at ho rfl ?_ (by rw[size_toArray];omega) (Nat.zero_le _));refine Vk (seqEpoch_at ho1 rfl ?_);refine Vk (wpAny_newTuple ?_ (by show its.length<=_;omega));refine Vk (wpAny_newList ?_ (Nat.zero_le _));refine wpAny_holding ?_;rw[hkS];refine Vk (wpAny_rule ?_);first
  |rw[List.forIn_toArray]
  |(rw[<-Array.forIn_toList];simp only[List.toList_toArray])
  |rw[<-Array.forIn_toList]
 refine Vk (ksk_fold (λi s'=>sj X σ ((a,seqObj "list" #[] e1)::pins) H (h2.objs.size+1) kds i s') its 0 _ ?_ ?_ ?_)
 .refine⟨_,[],I6,al,λb o e=>?_,rfl⟩;have hb:=am e kSn;rw[aN (decide_eq_false hb),ag hb];exact e
 .intro j u s' hu' hk;rw[Nat.zero_add]at hk⊢;have hj:=(Vq.mp hu').1;obtain⟨x,hx⟩:∃x,xs[j]?=!x:=⟨_,getElem?_eq_getElem (!1)⟩;let⟨u2,h1,rx⟩:=rv.get hx;rw[hu']at h1;cases h1;exact C4 T hx rx hlen h64 hk (λv=>rfl)
 .intro s' hk;rw[Nat.zero_add,show its.length=kds.length by omega]at hk;exact Ku hk hu hs hlen rv h64 (Vx I.sz ha) (λx c e z=>by
   let⟨v,o,hoc,_⟩:=I.cell x c e;exact absurd (Vu (Vn hoc) (by rw[z];exact ha)) (VD _)) (λp hp z=>absurd (Vu (Vn (I.pin p hp).1) (by rw[z];exact ha)) (VD _)) h
def wX{X:Cx}{pins:U5}{σ:St}{H:Hp}{s:Shared}(I:Inv X pins σ H s)(hu:A.units+3<cLine)(hx:SqL X.K H l xs)(T:uR X σ H A.in1.in1 (.ref f) xs j)(hs:cW j)(C:j.length=xs.length)(J:xs.length<64)(h:∀a s' H',Inv X pins σ (aR H' a (.lst ((plcK j).map λi=>xs.getD i .non))) s'->H' a=none->Same H H'->U (.ref a) s'):wpAny (!4) A (call (.builtin "sorted") [.ref l] [(Str.ofString "key",.ref f)]) U E s:=by
 let⟨g,rv,pl,hz⟩:=I.list hx;have hl:=pl.isList;have hil:=rv.length;refine call_function_entry_kw kind_sorted plain_sorted entry_sorted (ksk_s1 _ _) ?_;refine Vk (Vm ?_);refine Vk (collect_list hl ?_ (!1));refine Vk (wpAny_newList ?_ (!1));have p:((s.heap.push (seqObj "list" #[] 0)).update s.heap.objs.size (Obj.mapSeq (·++g.toArray))).objs.size=s.heap.objs.size+1:=by rw[Heap.size_update,size_push']
 have t:(((s.heap.push (seqObj "list" #[] 0)).update s.heap.objs.size (Obj.mapSeq (·++g.toArray))).push (seqObj "list" g.toArray 0)).get? (!13)=!(seqObj "list" g.toArray 0):=by
  rw[<-p];exact Vo _ rfl
 have keep:∀b o,s.heap.get? b=!o->(((s.heap.push _).update s.heap.objs.size (Obj.mapSeq (·++g.toArray))).push (seqObj "list" g.toArray 0)).get? b=!o:=λb o q=>by
  have r:=Vn q;rw[Heap.get?_push_ne _ _ _ (by rw[p];exact Vy (Nat.lt_succ_of_lt r)),Heap.get?_update_ne _ _ _ _ (Vy r),Heap.get?_push_ne _ _ _ (Vy r)];exact q
 rw[p];refine Vk (wpAny_holding (wpAny_call_entry_kw slot_list_sort ⟨_,t,rfl⟩ entry_list_sort ?_ (ksk_l1 _ _)));refine Ga I (by show A.units+1+1+1<_;omega) t keep (Nat.le_succ _) T hs C rv J λs' H' I' hn sm=>⟨_,rfl,?_⟩;exact Vm ⟨_,rfl,h _ s' H' I' hn sm⟩
structure LamAt(X:Cx)(x y:Str)(i:Nat)(params:Arguments)(body:Expr)(scope:Scope)(lpos:Pos)(P c0:Addr)(fb:U0):Prop where
 tab:lamTabs.lookup P=!(lpos,X.env.qual++"<lambda>")
 code:X.env.code=.ref c0
 hd:PySem.W.codeHdIn X.K c0 P=true
 blt:∀h:Heap,X.K.In h->h.BuiltinsAt X.mg P
 ne:mainGlobals≠P
 sc:LamSc scope x y
 names:scope.names=[(x,.local),(y,.free)]
 kind:X.env.kindOf y=some .cell
 pos:X.N[i]?=!y
 dfl:defaultsOf params X.env=([],[])
 bind:∀q cl pm c' ctv u,bindArgs (C1 q params body scope cl pm c' ctv) ⟨[u],[]⟩=pure [(x,u)]
 body:∀A q L f c' c s H,PP (RT X A [x,y] (PySem.W.envX q scope L f c' [(y,c)]) s H) body fb
def C5(g:scope.names=[(x,.local),(y,.free)])(j:env.cells.lookup y=!c):closureFor scope env=pure [(y,c)]:=by
 unfold closureFor;rw[g];have e:cellOf env y=pure c:=by unfold cellOf;rw[j]
 grind
noncomputable def  mS(fb:U0)(dy:D):Vg->U7
 |[]=>![]
 |d::ds=>(fb [!d,!dy]).bind λk=>(mS fb dy ds).bind λks=>!(k::ks)
def qP:∀{ds ks:Vg},mS fb dy ds=!ks->ks.length=ds.length
 |[],_,h=>by cases h;rfl
 |d::ds,_,h=>by
  let⟨k,_,h⟩:=VL h;let⟨ks,h2,h⟩:=VL h;cases h;rw[length_cons,length_cons,qP h2]
def uT:∀{ds ks:Vg},mS fb dy ds=!ks->∀{j:Nat}{d:D},ds[j]?=!d->fb [!d,!dy]=!(ks.getD j .non)
 |[],_,_,_,_,e=>by cases e
 |d::ds,_,h,j,d',e=>by
  let⟨k,h1,h⟩:=VL h;let⟨ks,h2,h⟩:=VL h;cases h;match j,e with
  |0,e=>cases e;exact h1
  |j+1,e=>exact uT h2 e
section
variable{X:Cx}{σ:St}{H:Hp}
def C6(L:LamAt X x y i g body scope lpos P c0 fb)(hA:A.frames=!X.stack)(hh:A.handled=none)(l:A.depth<recursionLimit)(hf:H f=!(.frz (cZ q g body scope [(y,c)] pm c' ctv) (.own f)))(hcc:∃J r t,H c'=!(.frz J (.own P))/\J.data=.fields r/\r[1]?=!(.str q t))(hc:X.env.cells.lookup y=!c)(il:IsL X.K H ds xs)(hσ:σ[i]?=!(!vy))(iy:Is X.K H dy vy)(hk:mS fb dy ds=!U):uR X σ H A (.ref f) xs U:=by
 intro j x' u hx rx O pins s H' I hO C;let⟨J,r,t,h1,h2,h3⟩:=hcc;have gf:=(I.hok f _ (a9 (C _ _ hf)).2).1;have gc:=(I.hok c' _ (a9 (C _ _ h1)).2).1;let⟨m,_,hl⟩:=I.loc;let⟨w,T,lk⟩:=hl i y vy L.pos hσ (.inr (.inl L.kind));have p:s.heap.IsCell c (!w):=by
  rcases lk with⟨z,_⟩|⟨_,c2,z,q⟩
  .rw[L.kind]at z;cases z
  .rw[hc]at z;cases z;exact q
 obtain⟨d,hd,ix⟩:∃d,ds[j]?=!d/\Is X.K H d x':=by
  have hj:j<ds.length:=by rw[il.len];exact(Vq.mp hx).1
  let⟨z,e,q⟩:=gQ il.paired (getElem?_eq_getElem hj);rw[hx]at e;cases e;exact⟨_,getElem?_eq_getElem hj,q⟩
 refine F7 I hA hh l L.sc gf ⟨c',J,r,t,rfl,gc,h2,h3⟩ (L.bind _ _ _ _ _ u) hc p T rx (L.body A q _ f _ c s H' O [!d,!dy]) ?_;refine⟨⟨hO,rfl,λn e o=>?_⟩,_,uT hk hd,λv H2 s2 iv=>⟨s2,iv⟩⟩;match n,o with
 |0,o=>cases o;exact⟨_,rfl,Is.mono C _ _ ix⟩
 |1,o=>cases o;exact⟨_,rfl,Is.mono C _ _ iy⟩
 |n+2,o=>cases o
def  C7(fb:U0)(i:Nat)(Y:Vv):Vg->U7:=tw λd=>(kR d).bind λds=>(bx Y i).bind λdy=>(mS fb dy ds).bind λks=>
 if ds.length<64/\cW ks then !((plcK ks).map λj=>ds.getD j .non)else none
def C8(hr:Room k X.A)(hg:Gl X "sorted")(hm:X.mg "sorted"=none)(ha:PX X [m] fm)(hs:starEach [m] X.env=[(false,eval m X.env)])(L:LamAt X x y i o body scope J P c0 fb):PF X (.Call (.Name "sorted" p) [m] [⟨some "key",.Lambda o body scope J,kp⟩] pos) (λY=>(fm Y).bind (C7 fb i Y)):=by
 intro O Y pins s σ H Q I ⟨E,ds,q,k'⟩;let⟨as,e1,q⟩:=VL q;let⟨d,rfl,q2⟩:=bc q;let⟨es,q3,q4⟩:=VL q2;let⟨dy,q5,q6⟩:=VL q4;let⟨ks,q7,q8⟩:=VL q6;let⟨⟨h64,hsh⟩,q9⟩:=ay q8;subst q9;refine wpAny_Call_Name_kw (dq I hg hm wq ?_ (!2) (!2));refine callWith_kw (bw (ha O Y pos pins s σ H (λU H1=>Same H H1/\IsL X.K _ [d] U) I ⟨E,[d],e1,λU H1 s1 il=>⟨s1,il⟩⟩) λus s1 h1=>?_) (by rw[hs];rfl) (by rw[hs];rfl);let⟨U,H1,I1,r1,r,il⟩:=h1;let⟨v,rfl,h⟩:=t9 il;let⟨l,ys,rfl,t,l2⟩:=cc q3 h;let⟨u,rfl,ru⟩:=fE r1;cases ru;let⟨vy,hσ,iy⟩:=(E.grow r).sh i dy (qy q5);let⟨c,hc⟩:=I.ok.has y (.inl L.kind);refine kws_cons (PySem.W.kla_eval L.dfl (C2 I1 (I1.tab P _ L.tab) L.code (λh K=>PySem.W.codeHd_of_K K L.hd) L.blt L.ne (C5 L.names hc) λf c' ctv s2 H2 I2 g gf hf hcc=>kws_nil ?_));have l3:=IsL.mono g _ _ l2.full;have T:uR X σ H2 X.A.in1.in1 (.ref f) ys ks:=C6 (A:=X.A.in1.in1) L I.ok.frames hr.hd (by have:=hr.dp;show X.A.depth<_;omega) hf hcc hc l3 hσ (Is.mono g _ _ (Is.mono msk_le _ _ iy)) q7;have hlen:=qP q7;have hl2:=l2.len;refine wX I2 (by have:=hr.un;omega) (SqL.up g (msk_le.seq t)) T hsh (!1) (!1) λa s3 H3 I3 hn C=>⟨.ref a,_,I3,rfl,k' a _ H3 ((r.trans g).trans C) hn ?_⟩;refine IsL.of (dW (IsL.mono (g.trans C).msk _ _ l2).paired .non .non λj hj=>?_);have:=VG.mp ((jo ks).mem_iff.mp hj);omega
end
def  yC(K:Frag)(x:Str)(st:Stmt)(P:Addr):Prop:=∃(f c0:Addr)(oc:Value)(od an:Option Addr)(osl:Array (Va))(kV doc pm ct:Value),nsIn K mainGlobals x=!(!(.ref f))/\
 K.lookup f=!⟨oc,od,.func (PySem.W.fnOf x x (bJ st) (aO st) (ah st) .none kV doc pm an (.ref c0) ct),osl⟩/\PySem.W.codeIn K (.ref c0) x=true/\PySem.W.keepIn K (.ref f)=true/\PySem.W.codeHdIn K c0 P=true
def  yD(K:Frag)(P:Addr):Prop:=∃(bm:Addr)(o:Obj),nsIn K mainGlobals "__builtins__"=!(!(.ref bm))/\bm≠builtinsNs/\bm≠mainGlobals/\bm≠P/\K.lookup bm=!o/\o.cls=.type "module"/\o.dict=!builtinsNs/\o.data=.plain
def  z0(fm:UZ)(fb:U0)(i:Nat):UZ:=λY=>(fm Y).bind (C7 fb i Y)
def  Gc(fm:UZ)(fb:U0)(i:Nat):U1:=ab (eC (aW (kX λY=>iA (z0 fm fb i Y)) (oE (z0 fm fb i)))) λY=>!(.nx Y)
def Kv{P:Program}{w:World}{K:Frag}{mg:Str->Va}{base:Heap}(g:GbOk P w K mg base G)(KX:K.In h)(hN:h.Ns mainGlobals mg){st}(k:Nat)(S:FnScope N ps (ah st))(b:bj x st ps)(t:yC K x st U)(hb:yD K U)(hst:aO st=[.Return (!(.Call (.Name "sorted" p) [.Name m mp] [⟨some "key",.Lambda l body scope C,kp⟩] pos)) rpos])(tab:lamTabs.lookup U=!(C,(x++".<locals>.")++"<lambda>"))(ne:mainGlobals≠U)(sc:LamSc scope z y)(I:scope.names=[(z,.local),(y,.free)])(hy:N[i]?=!y)(hm:N[j]?=!m)(hyk:(ah st).names.lookup y=some .cell)(hmk:(ah st).names.lookup m=some .local)(hmd:(m==("__debug__":Str))=false)(hmc:(m==("__classdict__":Str))=false)(dfl:∀env,defaultsOf l env=([],[]))(bind:∀q cl pm c' ctv u,bindArgs (C1 q l body scope cl pm c' ctv) ⟨[u],[]⟩=pure [(z,u)])(J:∀X:Cx,X.N=[z,y]->X.env.scope=scope->PP X body fb)(hgl:nH (se N st k G) "sorted"=true)(hno:G.no "sorted"=true):
  Df P w K mg base x (k+1) (aK ps.length N.length (Gc (ac (va j) λ_=>![]) fb i)):=by
 let⟨f,c0,oc,od,an,osl,kV,T,pm,ct,h1,h2,h3,h4,h5⟩:=t
 have Fn:=nY h2 h3 h4
 refine⟨f,_,ps,PySem.W.mg_of KX hN h1,h4,Fn.binds λkV T pm an cdv ct us hl=>b x kV T pm an cdv ct us hl,?_⟩
 refine Hu h2 h3 S (λvs H Q E ⟨O,ds,d,_,il,e,_⟩=>by rw[<-il.len];exact(jj e).1) (λA r s H vs Q E hr ⟨O,ds,d,hd,il,e,kk⟩=>?_)
 have o:=(uH g S _ A r s H E hr).s
 have pr:An (nU rB P w K mg base N x (ah st) f (.ref c0) A r s H E).nox (aO st) (Gc (ac (va j) λ_=>![]) fb i):=by
  rw[hst];let⟨ok,gl⟩:=aX o hgl;have L:LamAt (nU rB P w K mg base N x (ah st) f (.ref c0) A r s H E).nox z y i l body scope C U c0 fb:=
   ⟨tab,rfl,h5,λh' K'=>?_,ne,sc,I,hyk,hy,dfl _,bind,λA' q L' f' c' c s' H'=>J _ rfl rfl⟩
  .have F:=(C8 (p:=p) (pos:=pos) (kp:=kp) o.room gl (o.g.no _ hno) (px_cons (e:=.Name m mp) (oj j hm (.inl hmk) hmd hmc) vQ) rfl L).u rfl;exact xO (wa (xN (HE (Bt F)) (Bv F))) Bw
  .let⟨bm,ob,b1,b2,b3,b4,b5,b6⟩:=hb;exact⟨bm,ob,PySem.W.mg_of KX hN b1,b2,b3,b4,K' _ _ b5,b6⟩
 refine⟨_,(pr ⟨H,O⟩ O _).nox,oG hd il,?_⟩
 let⟨o',e1,e2⟩:=VL (jj e).2
 refine⟨o',e1,?_⟩
 cases o' with
 |rt d'=>cases e2;exact kk
 |nx Y=>cases e2;exactλσ' H' O' s' E'=>kk .non H' ⟨O',[],E'.same,E'.sub,E'.lis,List.nodup_nil,λ_ h=>(nomatch h),rfl,rfl⟩
 |bk Y=>cases e2
 |ct Y=>cases e2
noncomputable abbrev UE(l:Nat):Arguments:={posonlyargs:=[],args:=[{arg:="letter",annotation:=none,pos:=⟨l,38,l,44⟩}],vararg:=none,kwonlyargs:=[],kw_defaults:=[],kwarg:=none,defaults:=[]}
noncomputable abbrev UF(l:Nat):Expr:=.Tuple [.Subscript (.Subscript (.Name "letters" ⟨l,47,l,54⟩) (.Name "letter" ⟨l,55,l,61⟩) ⟨l,47,l,62⟩) (.Constant (.int 1) 0 ⟨l,63,l,64⟩) ⟨l,47,l,65⟩,.Name "letter" ⟨l,67,l,73⟩] 0 ⟨l,46,l,74⟩
noncomputable abbrev S8:Scope:={kind:=.function,names:=[(Str.ofString "letter",.local),(Str.ofString "letters",.free)],isGenerator:=false,isCoroutine:=false,more:=[]}
abbrev UG:U0:=bQ (ac (aa ak (aa ak (va 1) (va 0)) (cI 1)) (ac (va 0) ax))
def  RU(l:Nat):List Stmt:=[.Return (!(.Call (.Name "sorted" ⟨l,11,l,17⟩) [.Name "members" ⟨l,18,l,25⟩] [⟨some "key",.Lambda (UE l) (UF l) S8 ⟨l,31,l,74⟩,⟨l,27,l,74⟩⟩] ⟨l,11,l,75⟩)) ⟨l,4,l,75⟩]
def RV:LamSc S8 "letter" "letters" where
 xl:=rfl
 yf:=rfl
 only:=λz h=>by
  have h':(if z==Str.ofString "letter"then !NameKind.local else if z==Str.ofString "letters"then some .free else none)=some .free:=by
   rw[<-h];rw[List.lookup_cons,List.lookup_cons];cases z==Str.ofString "letter"<;>cases z==Str.ofString "letters"<;>rfl
  split at h'
  .cases h'
  .split at h'
   .rename_i q;exact eq_of_beq q
   .cases h'
 nocell:=λz g=>by
  rcases mem_cons.mp g with rfl|g
  .decide
  .rw[mem_singleton.mp g];decide
 kind:=rfl
 co:=rfl
 gen:=rfl
 ne:=by decide
def Gd{P:Program}{w:World}{K:Frag}{mg:Str->Va}{base:Heap}(g:GbOk P w K mg base G)(U:K.In h)(T:h.Ns mainGlobals mg){st}(k l:Nat)(S:FnScope ["letters","members"] ["letters","members"] (ah st))(b:bj "as_they_come" st ["letters","members"])(t:yC K "as_they_come" st I)(J:yD K I)(o:aO st=RU l)(tab:lamTabs.lookup I=!((⟨l,31,l,74⟩:Pos),("as_they_come.<locals>.<lambda>":Str)))(ne:mainGlobals≠I)(j:(ah st).names.lookup (Str.ofString "letters")=!NameKind.cell)(r:(ah st).names.lookup (Str.ofString "members")=!NameKind.local)(C:nH (se ["letters","members"] st k G) "sorted"=true)(p:G.no "sorted"=true):
  Df P w K mg base "as_they_come" (k+1) (aK 2 2 (Gc (ac (va 1) λ_=>![]) UG 0)):=
 Kv g U T k S b t J o tab ne RV rfl rfl rfl j r (!2) (!2) (λ_=>rfl) (λ_ _ _ _ _ _=>rfl) (λX h1 h2=>
  A7 (px_cons (pp_ix (pp_ix (oj 1 (by rw[h1];rfl) (by rw[h2];exact .inr (.inr rfl))) (oj 0 (by rw[h1];rfl) (by rw[h2];exact .inl rfl))) pp_int) (px_cons (oj 0 (by rw[h1];rfl) (by rw[h2];exact .inl rfl)) vQ))) C p
def cons_in{K:Frag}(l:K.lookup g=none)(X:Frag.In ((g,o)::K) h):K.In h/\h.get? g=!o:=by
 refine⟨λb j e=>X b j ?_,X g o ?_⟩;all_goals grind
def tabs_of{K}(p:lamTabs=[(g,z)])(l:K.lookup g=none)(X:K.In h)(j:h.get? g=some {cls:=.none,data:=.fields #[]})(o:PySem.W.codeHdIn K c0 g=true):rA K h:=λb y e=>by
 rw[p,List.lookup_cons]at e;cases q:b==g with
 |true=>
  rw[eq_of_beq q];exact⟨j,l,((PySem.W.codeHd_of_K X o).tab j).isCodeTable⟩
 |false=>rw[q]at e;cases e
def cn_3str{K}(X:K.In h)(I:h.Ns mainGlobals mg)(t:∃(a:Addr)(C:Option Addr)(n:Nat)(r:Array (Va))(o:Tok)(j:Tok)(g:Tok),nsIn K mainGlobals x=!(!(.ref a))/\K.lookup a=!⟨.type "tuple",C,.seq #[.str y o,.str z j,.str p g] n,r⟩):Cn K mg x (.tup [.str y,.str z,.str p]):=by
 let⟨a,C,n,r,o,j,g,e,l⟩:=t;refine⟨.ref a,_,PySem.W.mg_of X I e,rfl,λH=>⟨a,[.str y,.str z,.str p],rfl,.inr ⟨_,_,n,l,rfl,rfl,?_,?_⟩,⟨_,_,rfl,rfl,⟨_,_,rfl,rfl,⟨_,_,rfl,rfl,rfl⟩⟩⟩⟩⟩
 .show 3<=sizeLine;decide
 .exact .cons ⟨o,rfl⟩ (.cons ⟨j,rfl⟩ (.cons ⟨g,rfl⟩ .nil))
def  uU(fA:UY)(jx:UY):U1:=(ab (dj (t4 (cP (mP (bn fO (ac (va 1) (ac (cT "tuple") ax))))) (ai (aa (aB true) (bn eB (ac (va 1) ax)) (cI 2)))) (ab (eC (bb (cB false) af af)) aE) aE) (ab (eC (bb (jA (bz jx (ac (aa ak (va 1) (cI 0)) ax)) (bz fA (ac (va 0) (ac (aa ak (va 1) (cI 1)) ax)))) af af)) aE))
def  lw(fX:UY):U1:=(ab (dj (t4 (cP (mP (bn fO (ac (va 1) (ac (bQ (ac (cT "list") (ac (cT "tuple") ax))) ax))))) (ai (aa nw (bn eB (ac (va 1) ax)) (cD (.int 24))))) (ab noO' aE) aE) (ab (dj (cP (mP (bn jB (ac (aQ (ae [2] (jX af (va 1)) (gNm 2) tQ (bz fX (ac (va 0) (ac (va 2) ax))))) ax)))) (ab noO' aE) aE) aE))
def  z9:U1:=(ab (eC (bb (aa av (va 1) (aa aL (bn eB (ac (va 0) ax)) (aa ak (aa ak (va 0) (va 1)) (cI 1)))) (bI (va 1) (aa aL (bn eB (ac (va 0) ax)) (aa ak (aa ak (va 0) (va 1)) (cI 1)))) af)) aE)
structure Lt where
 s:Int
 t:Nat
 w:Vb
def N5(h:(xs Y).bind xS=!ds):jX (LJ xs) R Y=!ds:=by
 unfold jX aW LJ;rw[h]
def qQ{g:Type}{f}(xs:List g):mN (xs.map f)=(xs.zipIdx).map λp=>.tup [.int (p.2:Nat),f p.1]:=by
 unfold mN;rw[List.zipIdx_map,List.map_map];rfl
noncomputable def  rowD(r:Vb):D:=.lst (!8)
def lx{R L Sp}(h:R (vw Y)=!d)(f:lfD d=false)(j:L (vw Y)=!ds)(l:fw ds=false)(g:Sp (vw Y)=!e):bb R L Sp Y=!((.deep,e),Y):=by
 unfold bb aW kX frX aW vq iA;grind
def Ge{n j:Nat}(h:j<n):zd n (j:Int)=!j:=by
 unfold zd;rw[if_pos (!1),if_pos (!1)];rfl
def qR:∀{es:Vg},fw es=true->extC .deep es=.deep
 |[],_=>rfl
 |d::es,h=>by
  rw[CJ,and_eq_true]at h;show extC (newCat .deep (extS d)) es=.deep;rw[show newCat .deep (extS d)=.deep by unfold extS newCat;rw[h.1];rfl];exact qR h.2
def l0(h0:ownL Y i=!(.deep,ds))(j:R (di Y)=!(.lst es))(lf:fw es=true)(g:ds.length+es.length<big):lV i R Y=!(.nx (Y.set i (!(.deep,.lst (ds++es))))):=by
 have e:zB i R Y=!(.nx (Y.set i (!(.deep,.lst (ds++es))))):=by
  unfold zB;rw[h0];simp only[Option.bind_some,j];show(if ds.length+es.length<big then _ else _)=_;rw[if_pos g,qR lf]
 unfold lV aW;rw[e]
end L2
namespace L2
open PySem PySem.Spec PyProof.Rows
def sk{i:Nat}{g}{Y:Ev}{s:Sl}(h:g Y=!(s,cR Y))(ho:ownL (cR Y) i=none):gA i g Y=none:=by
 unfold gA;cases ownL Y i with
 |none=>rfl
 |some w=>simp only[Option.bind_some,h,ho,Option.bind_none]
section
variable{G F:U1}{Y Y':Ev}{out:Option Out}
def q_set(h:g Y=!(s,Y'))(k:G (Y'.set i (!s))=out):ab (aw i g) G Y=out:=(ar (cf h)).trans k
def pz(h:f (vw Y)=!d)(k:G Y=out):ab (jW f) G Y=out:=(ar (CW h)).trans k
def q_if0(h:c (vw Y)=!false)(k:G Y=out):ab (dj c F aE) G Y=out:=(ar ((dX h).trans rfl)).trans k
def q_st(h:F Y=!(.nx Y'))(k:G Y'=out):ab F G Y=out:=(ar h).trans k
def q_ret(h:g Y=!(s,Y')):ab (eC g) G Y=!(.rt s):=aS (bo h)
def N6(I:Nat->Ev->Prop)(j:J (di Y)=!ds)(h0:I 0 Y)(g:∀(i:Nat)(d:D)(Y:Ev),ds[i]?=!d->I i Y->∃Y',(tg d Y).bind F=!(.nx Y')/\I (i+1) Y')(k:∀Y',I ds.length Y'->G Y'=out):ab (iq J tg F) G Y=out:=by
 let⟨Y',e,i⟩:=jn I j h0 g;exact(ar e).trans (k _ i)
def q_forB{j:Type}{xs:List j}{mk}(I:Nat->Ev->Prop)(o:J (di Y)=!(xs.map mk))(h0:I 0 Y)(l:∀(i:Nat)(x:j)(Y:Ev),xs[i]?=!x->I i Y->∃Y',(tg (mk x) Y).bind F=!(.nx Y')/\I (i+1) Y')(k:∀Y',I xs.length Y'->G Y'=out):ab (iq J tg F) G Y=out:=N6 I o h0 (λi d Y hd hi=>by
 rw[getElem?_map]at hd;cases g:xs[i]? with
 |none=>rw[g]at hd;cases hd
 |some x=>rw[g]at hd;cases hd;exact l i x Y g hi) (by rw[length_map];exact k)
def q_rng{v:Nat->Int}(I:Nat->Ev->Prop)(j:J (di Y)=!((!20).map λi=>D.int (v i)))(h0:I 0 Y)(g:∀(i:Nat)(Y:Ev),i<n->I i Y->∃Y',F (Y.set s (!(.sh,.int (v i))))=!(.nx Y')/\I (i+1) Y')(k:∀Y',I n Y'->G Y'=out):ab (iq J (dk s) F) G Y=out:=by
 let⟨Y',e,i⟩:=lr I j h0 g;exact(ar e).trans (k _ i)
def Kw{i:Nat}{J:UZ}{tg:D->Ev->Option Ev}{x:Out}(h:J (di Y)=none)(e:gT J tg F (frzS [i] Y)=!x):CB i J tg F Y=!x:=by
 unfold CB aW;rw[show gT J tg F Y=none by unfold gT;rw[h];rfl];simp only[e]
end
def kj:∀r:Vb,a8 (!8)=!(r.map λ(k:Nat)=>(k:Int))
 |[]=>rfl
 |k::r=>by
  show(a8 (!8)).bind (λxs=>!((k:Int)::xs))=_;rw[kj r];rfl
def Gg{r:Vb}(h:r.Perm (!20)):ge (r.map λ(k:Nat)=>(k:Int))=(!20).map λ(k:Nat)=>(k:Int):=by
 refine(BU (h.symm.map _) ?_).symm;rw[List.pairwise_map];exact List.pairwise_lt_range.imp λh=>by omega
def C9(h:r.Perm (!20))(j:n<=24):k9 [rowD r]=!((!20).map λ(k:Nat)=>D.int (k:Int)):=by
 show((a8 (!8)).bind λg=>if g.length<64 then !((ge g).map D.int)else none)=_;rw[kj];simp only[Option.bind_some];have l:r.length=n:=by rw[h.length_eq,length_range]
 rw[if_pos (by rw[length_map];omega),Gg h,List.map_map];rfl
def Kx{n:Nat}(g:n<=24):Py [.int (n:Int)]=!((!20).map λ(k:Nat)=>D.int (k:Int)):=by
 show(if HA (n:Int)/\(n:Int)<1000000 then !(m6 0 (n:Int).toNat)else none)=_;rw[if_pos ⟨yA (!1),by omega⟩,Int.toNat_natCast,wQ]
def so:∀r:Vb,pV (!8)=true/\dU (!8)=0
 |[]=>⟨rfl,rfl⟩
 |k::r=>⟨by show(true&&pV _)=true;rw[(so r).1];rfl,by show max 0 (dU _)=0;rw[(so r).2];rfl⟩
def yE(neg:Bool)(h2:ke d=true)(j:mK d<=50)(g:Jj d d=true)(h1:bN d=false):aB neg d d=!(.bl (not neg)):=by
 unfold aB kU;rw[show(bN d&&bN d&&AC (ou d) (ou d))=false by rw[h1];rfl,if_neg (!2),h2,g,decide_eq_true j,if_pos (by rfl),uc _ h2];cases neg<;>rfl
def Ky(neg:Bool)(r:Vb):aB neg (rowD r) (rowD r)=!(.bl (not neg)):=yE neg (so r).1 (by show dU _+1<=50;rw[(so r).2];decide) rfl rfl
def mT(h:L Y=!ds):D7 xs L Y=!(.lst ds):=by
 unfold D7 aW aQ;have:(xs Y).bind oX=none:=by cases xs Y<;>rfl
 grind
def RW(g:n<=24)(h:ys Y=![.int (n:Int)]):aW (PC ys) zs Y=!((!20).map λ(k:Nat)=>D.int (k:Int)):=by
 have:PC ys Y=!((!20).map λ(k:Nat)=>D.int (k:Int)):=by
  unfold PC;rw[h];exact Kx g
 unfold aW;rw[this]
def  Wide(ps:U4):Prop:=∀p∈ps,∀k∈p,1<=k.2
def Da(o:U6)(Y:Ev):di (o::Y)=Jq o::di Y:=rfl
@[simp]def wY(a b c d:D):bM (![a,b,c,d])=![a,b,c,d]:=dI (show 4<big by decide)
@[simp]def P7(a b c d e f g h i j:D):bM (![a,b,c,d,e,f,g,h,i,j])=![a,b,c,d,e,f,g,h,i,j]:=dI (show 10<big by decide)
section
variable{α:Type}{G F:U1}{Y Y':Ev}{out:α->Option Out}{P:α->Prop}
def jE(h:F Y=!(.nx Y'))(k:∃a,G Y'=out a/\P a):∃a,ab F G Y=out a/\P a:=k.imp λ_ q=>⟨(ar h).trans q.1,q.2⟩
def x_set(h:g Y=!(s,Y'))(k:∃a,G (Y'.set i (!s))=out a/\P a):∃a,ab (aw i g) G Y=out a/\P a:=jE (cf h) k
def N7{c}(h:c (vw Y)=!false)(k:∃a,G Y=out a/\P a):∃a,ab (dj c F aE) G Y=out a/\P a:=jE ((dX h).trans rfl) k
def uV{b:Bool}(h:c (vw Y)=!b)(k1:∃Y',(if b then F Y else g Y)=!(.nx Y')/\∃a,G Y'=out a/\P a):∃a,ab (dj c F g) G Y=out a/\P a:=by
 let⟨Y',e,k⟩:=k1;cases b with
 |true=>exact jE ((ifS_t h).trans e) k
 |false=>exact jE ((dX h).trans e) k
def x_rng{v:Nat->Int}(I:Nat->Ev->Prop)(j:J (di Y)=!((!20).map λi=>D.int (v i)))(h0:I 0 Y)(g:∀(i:Nat)(Y:Ev),i<n->I i Y->∃Y',F (Y.set s (!(.sh,.int (v i))))=!(.nx Y')/\I (i+1) Y')(k:∀Y',I n Y'->∃a,G Y'=out a/\P a):∃a,ab (iq J (dk s) F) G Y=out a/\P a:=by
 let⟨Y',e,i⟩:=lr I j h0 g;exact jE e (k _ i)
def x_for{j:Type}{xs:List j}{mk}(I:Nat->Ev->Prop)(o:J (di Y)=!(xs.map mk))(h0:I 0 Y)(l:∀(i:Nat)(x:j)(Y:Ev),xs[i]?=!x->I i Y->∃Y',(tg (mk x) Y).bind F=!(.nx Y')/\I (i+1) Y')(k:∀Y',I xs.length Y'->∃a,G Y'=out a/\P a):∃a,ab (iq J tg F) G Y=out a/\P a:=by
 let⟨Y',e,i⟩:=jn I o h0 (λi d Y hd hi=>by
  rw[getElem?_map]at hd;cases g:xs[i]? with
  |none=>rw[g]at hd;cases hd
  |some x=>rw[g]at hd;cases hd;exact l i x Y g hi)
 rw[length_map]at i;exact jE e (k _ i)
def x_end{P:Ev->Prop}(h:P Y):∃a,aE Y=!(.nx a)/\P a:=⟨Y,rfl,h⟩
def N8{P:Ev->Prop}(h:g Y=!(.nx Y'))(p:P Y'):∃a,ab g aE Y=!(.nx a)/\P a:=jE h (x_end p)
end
abbrev dp(d:D):U6:=!(.deep,d)
abbrev sn(d:D):U6:=!(.sh,d)
abbrev iN(n:Nat):D:=.int (n:Int)
abbrev Fn:=List D->Option Sl
abbrev Fv:=Vv->Option D
abbrev Fx:=Vv->Option (List D)
abbrev cm(R:Fv):=bb R af af
abbrev l5(f:Fn)(xs:Fx):=bb (bz f xs) af (HR f xs)
abbrev tB:=bb (aQ (cJ ax)) (cJ ax) (CA ax)
abbrev jR(xs:Fx):=jX (NO xs) (bn oX xs)
abbrev gG(g:U3):=ab (eC g) aE
abbrev x1(a:Fv):Fx:=ac a ax
abbrev x2(a b:Fv):Fx:=ac a (x1 b)
abbrev x3(a b c:Fv):Fx:=ac a (x2 b c)
abbrev x4(a b c d:Fv):Fx:=ac a (x3 b c d)
abbrev x5(a b c d e:Fv):Fx:=ac a (x4 b c d e)
abbrev x6(a b c d e f:Fv):Fx:=ac a (x5 b c d e f)
abbrev cK(a:Fv):Fv:=bn eB (x1 a)
def tr{α:Type}{P:α->Prop}{f g}(h:P g)(e:f=g:=by kernel_rfl):P f:=e▸h
def fP:x1 a Y=ac a ax Y:=rfl
def pA:x2 a b Y=ac a (x1 b) Y:=rfl
def uW:x3 a b c Y=ac a (x2 b c) Y:=rfl
noncomputable def  S9:=And.intro @vw_o (And.intro @vw_nil (And.intro @vw_some (And.intro @vw_none (And.intro @map_some.{0,0} (And.intro @Option.map_none.{0,0} (And.intro @set_cons_succ.{0} (And.intro @set_cons_zero.{0} (And.intro @consX_a (And.intro @nilX_a (And.intro @va_a (And.intro @shAt_s (And.intro @shAt_0 (And.intro @shAt_1 (And.intro @Option.bind_some.{0,0} (And.intro @bin2_a (And.intro @biF_a (And.intro @clF_a (And.intro @fCl_a (And.intro @cI_a (And.intro @cS_a (And.intro @testB_a (And.intro @notQ_a (And.intro @trF_a (And.intro @andQ_a (And.intro @valO_some (And.intro @asB_bl (And.intro @truD_bl (And.intro @addD_ii (And.intro @subD_ii (And.intro @lsF_a (And.intro @dpF_a (And.intro @capL_1 (And.intro @capL_2 (And.intro @stepF_a (And.intro @wipe_cons (And.intro @wipe_nil (And.intro @gNm_a (And.intro @tQ_a (@if_true.{1})))))))))))))))))))))))))))))))))))))))
def sB:type_of%S9:=S9
end L2
namespace K16
open PySem PySem.Spec PyProof.Rows L2
abbrev pB:=List (Int×Int)
noncomputable def  eD(ls:pB)(a:Int):Int:=(ls.getD a.toNat (0,0)).2
def qS{α:Type}{p q r}(hd:∀a,p a=true->q a=false)(hr:∀a,r a=(p a||q a)):∀l:List α,(l.filter p++l.filter q).Perm (l.filter r)
 |[]=>.refl _
 |a::l=>by
  have ih:=qS hd hr l;have e:=hr a;cases hp:p a with
  |true=>
   have hq:=hd a hp;rw[hp,Bool.true_or]at e;rw[List.filter_cons_of_pos hp,List.filter_cons_of_neg (by rw[hq];decide),List.filter_cons_of_pos e];exact ih.cons a
  |false=>
   rw[hp,Bool.false_or]at e;rw[List.filter_cons_of_neg (by rw[hp];decide)];cases hq:q a with
   |true=>
    rw[List.filter_cons_of_pos hq,List.filter_cons_of_pos (by rw[e];exact hq)];exact List.perm_middle.trans (ih.cons a)
   |false=>
    rw[List.filter_cons_of_neg (by rw[hq];decide),List.filter_cons_of_neg (by rw[e,hq];decide)];exact ih
noncomputable def  l6(f:Int->Int)(l:Vd)(n:Nat):Vd:=(!20).flatMap λ(t:Nat)=>l.filter λa=>decide (f a=(t:Int))
def mU(f:Int->Int)(l:Vd)(n:Nat):l6 f l (n+1)=l6 f l n++l.filter λa=>decide (f a=(n:Int)):=by
 unfold l6;rw[List.range_succ,List.flatMap_append];simp
def mV(h0:∀a∈l,0<=f a):∀n:Nat,(l6 f l n).Perm (l.filter λa=>decide (f a<(n:Int)))
 |0=>by
  have e:(l.filter λa=>decide (f a<((0:Nat):Int)))=[]:=List.filter_eq_nil_iff.mpr λa ha=>by have:=h0 a ha;simp;omega
  rw[e];exact .refl _
 |n+1=>by
  rw[mU];refine((mV h0 n).append_right _).trans (qS (λa h=>?_) (λa=>?_) l)
  .have:=Vt h;exact decide_eq_false (!1)
  .rw[<-Bool.decide_or];exact decide_eq_decide.mpr (!1)
def  uX(f:Int->Int)(a b:Int):Prop:=HT.lexLt [f b,b] [f a,a]=false
def Gh(h:f a<f b):uX f a b:=by
 unfold uX;rw[HT.lexLt_cons,if_neg (!1)];exact decide_eq_false (!1)
def Gi(h:f a=f b)(h2:a<=b):uX f a b:=by
 unfold uX;rw[HT.lexLt_cons,if_pos h.symm,HT.lexLt_cons];split
 .rfl
 grind
def Aa(h1:uX f a b)(h2:uX f b a):a=b:=by
 have:=rX _ _ h2 h1;grind
def j2(hs:l.Pairwise (·<=·)):∀n:Nat,(l6 f l n).Pairwise (uX f)
 |0=>.nil
 |n+1=>by
  rw[mU];refine List.pairwise_append.mpr ⟨j2 hs n,?_,λa ha b hb=>?_⟩
  .refine((hs.sublist List.filter_sublist).imp_of_mem λ{a b} ha hb hab=>?_);have ea:=Vt (List.mem_filter.mp ha).2;have eb:=Vt (List.mem_filter.mp hb).2;exact Gi (ea.trans eb.symm) hab
  .let⟨t,ht,ha⟩:=List.mem_flatMap.mp ha;have ea:=Vt (List.mem_filter.mp ha).2;have eb:=Vt (List.mem_filter.mp hb).2;have:=VG.mp ht;exact Gh (by rw[ea,eb];omega)
def jp(g:Vd):(ge g).Perm g:=List.mergeSort_perm _ _
def uY(g:Vd):(ge g).Pairwise (·<=·):=by
 have h:=List.pairwise_mergeSort (le:=λa b:Int=>decide (a<=b)) (λa b c h1 h2=>decide_eq_true (Int.le_trans (Vt h1) (Vt h2))) (λa b=>by
  rw[Bool.or_eq_true];rcases Int.le_total a b with h|h
  .exact .inl (decide_eq_true h)
  .exact .inr (decide_eq_true h)) g
 grind [ge]
def  gH(ls:pB)(ms:Vd):Vd:=l6 (eD ls) (ge ms) 10
def  bS(ls:pB):Prop:=∀p∈ls,0<=p.2/\p.2<10
def qT(h:bS ls)(a:Int):0<=eD ls a/\eD ls a<10:=by
 unfold eD;rw[List.getD_eq_getElem?_getD];cases e:ls[a.toNat]? with
 |none=>exact⟨Int.le_refl _,by decide⟩
 |some p=>exact h p (VH e)
def jq(h:bS ls)(g:Vd):(gH ls g).Perm g:=by
 refine(mV (λa _=>(qT h a).1) 10).trans ?_;have e:((ge g).filter λa=>decide (eD ls a<((10:Nat):Int)))=ge g:=List.filter_eq_self.mpr λa _=>decide_eq_true (qT h a).2;rw[e];exact jp g
def yF(h:bS ls)(h1:out.Perm g)(h2:out.Pairwise (uX (eD ls))):out=gH ls g:=
 List.Perm.eq_of_pairwise (λa b _ _ x y=>Aa x y) h2 (j2 (uY g) 10) (h1.trans (jq h g).symm)
def  keyL(ls:pB)(a:Int):D:=.tup [.int (eD ls a),.int a]
def yG(ls:pB)(a:Int):flt (keyL ls a)=[eD ls a,a]:=rfl
def getD_map'{α g:Type}(f:α->g)(l:List α)(h:i<l.length)(x:α)(y:g):(l.map f).getD i y=f (l.getD i x):=by grind
def Db(h:bS ls)(g:Vd):((plcK (g.map (keyL ls))).map λj=>(g.map D.int).getD j .non)=(gH ls g).map D.int:=by
 have p:=jo (g.map (keyL ls));have t:=uS (g.map (keyL ls));rw[length_map]at p;have l:∀j∈plcK (g.map (keyL ls)),j<g.length:=λj r=>VG.mp (p.mem_iff.mp r);have J:((plcK (g.map (keyL ls))).map λj=>(g.map D.int).getD j .non)=((plcK (g.map (keyL ls))).map λj=>g.getD j 0).map D.int:=by
  rw[List.map_map];exact List.map_congr_left λj r=>getD_map' D.int g (l j r) 0 .non
 rw[J];congr 1;refine yF h ?_ ?_
 .have:=p.map λj=>g.getD j 0;rw[bO]at this;exact this
 .refine List.pairwise_map.mpr (t.imp_of_mem λ{a b} I C o=>?_);rw[getD_map' (keyL ls) g (l a I) 0 .non,getD_map' (keyL ls) g (l b C) 0 .non,yG,yG]at o;exact o
end K16
namespace K16
open PySem PySem.Spec PyProof.Rows L2
def Dc{α:Type}(k:α->Vd)(L:List α):(L.mergeSort λa b=>not (HT.lexLt (k b) (k a))).Pairwise λa b=>HT.lexLt (k b) (k a)=false:=by
 refine(List.pairwise_mergeSort (λa b c h1 h2=>?_) (λa b=>?_) L).imp λh=>by simpa using h
 .simp only[Bool.not_eq_true']at h1 h2⊢;cases e:HT.lexLt (k c) (k a)with
  |false=>rfl
  |true=>rw[oP _ _ _ e h1]at h2;cases h2
 .cases e:HT.lexLt (k b) (k a)with
  |false=>rfl
  |true=>rw[rW _ _ e];rfl
def l7{α:Type}{g}(l:∀a,∃ds,g a=.tup ds){L}(j:L.length<64)(h:cW (L.map g)):
  ∃T:List α,T.Perm L/\T.Pairwise (λa b=>HT.lexLt (flt (g b)) (flt (g a))=false)/\cX [.lst (L.map g)]=!(T.map g):=by
 refine⟨L.mergeSort λa b=>not (HT.lexLt _ _),List.mergeSort_perm _ _,Dc (λa=>flt (g a)) L,?_⟩
 have e:qb (L.map g)=(L.mergeSort λa b=>not (HT.lexLt _ _)).map g:=(rY h ((List.mergeSort_perm _ _).map g) (List.pairwise_map.mpr (Dc (λa=>flt (g a)) L))).symm
 rw[<-e]
 cases L with
 |nil=>
  refine nE ?_;show(if([]:Vd).length<64 then !((ge []).map D.int)else none)=_;rw[show ge []=[]from List.mergeSort_nil,show qb (List.map g [])=[]from List.mergeSort_nil];rfl
 |cons a L=>
  refine FG ?_ ?_
  .let⟨ds,e⟩:=l a;rw[List.map_cons,e];rfl
  .show(if((a::L).map g).length<64/\cW ((a::L).map g)then !(qb ((a::L).map g))else none)=_;rw[if_pos ⟨by rw[length_map];exact j,h⟩]
noncomputable abbrev Sd:=Int×Int
def  dm(p:Sd):D:=.tup [.int p.1,.int p.2]
def  Ab(q:Sd×List Nat):D:=.tup [dm q.1,wD q.2]
def uZ:∀w:Vb,a8 (w.map λ(k:Nat)=>D.int (k:Int))=!(w.map λ(k:Nat)=>(k:Int))
 |[]=>rfl
 |k::w=>by
  show(a8 (w.map λ(k:Nat)=>D.int (k:Int))).bind _=_;rw[uZ w];rfl
def H0(q:Sd×List Nat):qI (Ab q)=!([some 2,!q.2.length],[q.1.1,q.1.2]++q.2.map λ(k:Nat)=>(k:Int)):=by
 have a:lg (dm q.1)=!(some 2,[q.1.1,q.1.2]):=rfl;have b:lg (wD q.2)=!(!q.2.length,q.2.map λ(k:Nat)=>(k:Int)):=by
  show(a8 (q.2.map λ(k:Nat)=>D.int (k:Int))).bind _=_;rw[uZ,Option.bind_some,length_map]
 show gh [dm q.1,wD q.2]=_;simp only[gh,a,b,Option.bind_some,List.append_nil]
def Dd(q:Sd×List Nat):flt (Ab q)=[q.1.1,q.1.2]++q.2.map λ(k:Nat)=>(k:Int):=by unfold flt;rw[H0]
def Gj(h:S.length<64):∃T:List Sd,T.Perm S/\T.Pairwise (λa b=>HT.lexLt [b.1,b.2] [a.1,a.2]=false)/\cX [.lst (S.map dm)]=!(T.map dm):=
 l7 (g:=dm) (λ_=>⟨_,rfl⟩) h ⟨[none,none],by decide,λd hd=>by
  let⟨p,_,rfl⟩:=Vz.mp hd;exact⟨[p.1,p.2],rfl⟩⟩
def Gk(h:L.length<64)(l:∀q∈L,q.2.length=n):∃T:List (Sd×List Nat),T.Perm L/\T.Pairwise (λa b=>HT.lexLt [b.1.1,b.1.2] [a.1.1,a.1.2]=false)/\cX [.lst (L.map Ab)]=!(T.map Ab):=by
 let⟨T,h1,h2,o⟩:=l7 (g:=Ab) (λ_=>⟨_,rfl⟩) h ⟨[some 2,!n],by simp,λd hd=>by
  let⟨q,j,rfl⟩:=Vz.mp hd;exact⟨_,by rw[H0,l q j]⟩⟩
 refine⟨T,h1,h2.imp λ{a b} z=>?_,o⟩;rw[Dd,Dd,ww (a:=[b.1.1,b.1.2]) (b:=[a.1.1,a.1.2]) _ _ rfl]at z;by_cases c:[b.1.1,b.1.2]=[a.1.1,a.1.2]
 .rw[c];exact wv _
 grind
def UH(a b c d:Int):HT.lexLt [a,b] [c,d]=decide (a<c\/(a=c/\b<d)):=by
 rw[HT.lexLt_cons,HT.lexLt_cons];by_cases h:a=c
 .rw[if_pos h];by_cases g:b=d
  .rw[if_pos g];refine(decide_eq_false ?_).symm;omega
  .rw[if_neg g];by_cases k:b<d
   .rw[decide_eq_true k];exact(decide_eq_true (.inr ⟨h,k⟩)).symm
   .rw[decide_eq_false k];exact(decide_eq_false (!1)).symm
 grind
def  D9(r:Int)(p:Sd):Sd:=(p.1,p.2*r)
def Ac(l:0<=r){S T:List Sd}{Q U:List (Sd×List Nat)}(h1:T.Perm S)(h2:T.Pairwise λa b=>HT.lexLt [b.1,b.2] [a.1,a.2]=false)(p:U.Perm Q)(o:U.Pairwise λa b=>HT.lexLt [b.1.1,b.1.2] [a.1.1,a.1.2]=false)(e:Q.map (·.1)=S.map (D9 r)):U.map (·.1)=T.map (D9 r):=by
 refine List.Perm.eq_of_pairwise (le:=λa b:Sd=>HT.lexLt [b.1,b.2] [a.1,a.2]=false) (λa b _ _ x y=>?_) (List.pairwise_map.mpr o) (List.pairwise_map.mpr (h2.imp λ{a b} z=>?_)) ?_
 .have:=rX _ _ y x;injection this with j g;injection g with g;exact Prod.ext j g
 .rw[UH]at z⊢;refine decide_eq_false λq=>?_;have z:=of_decide_eq_false z;rcases q with q|⟨j,g⟩
  .exact z (.inl q)
  .have j:b.1=a.1:=j;have g:b.2*r<a.2*r:=g;refine z (.inr ⟨j,?_⟩);by_cases k:b.2<a.2
   .exact k
   .have:=Int.mul_le_mul_of_nonneg_right (show a.2<=b.2 by omega) l;omega
 grind
noncomputable def  yH(W:List (Vb))(p:List Pk):List (Vb):=(List.range p.length).flatMap λk=>W.map λw=>w++[k]
def  wds(rs:U4):List (Vb):=rs.foldl yH [[]]
def ly(g:U4)(p:List Pk):wds (g++[p])=yH (wds g) p:=by unfold wds;rw[List.foldl_append];rfl
noncomputable def  jF(p:List Pk)(k:Nat):Pk:=p.getD k (true,0)
def  b9(n k:Nat)(pk:Pk)(c:Sd):Sd:=((k:Int)*(n:Int)+(if pk.1 then c.1 else(n:Int)-1-c.1),if pk.1 then c.2 else -c.2)
def  pl:Nat->U4->Vb->Sd->Sd
 |_,[],_,c=>c
 |_,_::_,[],c=>c
 |n,p::rs,k::w,c=>pl (n*p.length) rs w (b9 n k (jF p k) c)
def nJ:∀{rs:U4}{w:Vb}(n:Nat)(c:Sd)(p:List Pk)(k:Nat),w.length=rs.length->pl n (rs++[p]) (w++[k]) c=b9 (n*prod rs) k (jF p k) (pl n rs w c)
 |[],[],n,c,p,k,_=>by show b9 n k _ c=b9 (n*1) k _ c;rw[Nat.mul_one]
 |[],_::_,_,_,_,_,h=>by cases h
 |_::_,[],_,_,_,_,h=>by cases h
 |q::rs,j::w,n,c,p,k,h=>by
  show pl (n*q.length) (rs++[p]) (w++[k]) (b9 n j (jF q j) c)=b9 (n*(q.length*prod rs)) k (jF p k) (pl (n*q.length) rs w (b9 n j (jF q j) c));rw[nJ _ _ _ _ (Nat.succ.inj h),Nat.mul_assoc]
def  fitW(s:Int):U4->Vb->Bool
 |[],_=>true
 |_::_,[]=>true
 |p::rs,k::w=>decide (s<=(jF p k).2)&&fitW s rs w
def pC:∀{rs:U4}{w:Vb}(p:List Pk)(k:Nat),w.length=rs.length->fitW s (rs++[p]) (w++[k])=(fitW s rs w&&decide (s<=(jF p k).2))
 |[],[],p,k,_=>by show(decide _&&true)=(true&&_);rw[Bool.and_true,Bool.true_and]
 |[],_::_,_,_,h=>by cases h
 |_::_,[],_,_,h=>by cases h
 |q::rs,j::w,p,k,h=>by
  show(decide _&&fitW s (rs++[p]) (w++[k]))=((decide _&&fitW s rs w)&&_);rw[pC _ _ (Nat.succ.inj h),Bool.and_assoc]
def jr{α:Type}{P:List α->Prop}(h0:P [])(h1:∀l a,P l->P (l++[a]))(l:List α):P l:=by
 have:∀l:List α,P l.reverse:=λl=>by
  induction l with
  |nil=>exact h0
  |cons a l g=>rw[List.reverse_cons];exact h1 _ _ g
 have z:=this l.reverse;grind
def jt:∀(l:U4),∀w∈wds l,w.length=l.length/\∀q∈w.zip l,q.1<q.2.length:=by
 refine jr (λw g=>?_) λl p o w g=>?_
 .cases mem_singleton.mp g;exact⟨rfl,λ_ h=>nomatch h⟩
 .rw[ly]at g;let⟨k,t,g⟩:=List.mem_flatMap.mp g;let⟨v,r,rfl⟩:=Vz.mp g;let⟨h1,h2⟩:=o v r;refine⟨by rw[length_append,length_append,h1];rfl,λq j=>?_⟩;rw[List.zip_append h1]at j;rcases mem_append.mp j with j|j
  .exact h2 q j
  .cases mem_singleton.mp j;exact VG.mp t
def nK:∀(g:U4),(wds g).length=prod g:=by
 refine jr rfl λg p j=>?_;rw[ly,dD,<-j];unfold yH;rw[List.length_flatMap];have:∀l:Vb,(l.map λk=>((wds g).map λw=>w++[k]).length).sum=(wds g).length*l.length:=λl=>by
  induction l with
  |nil=>rfl
  |cons a l j=>rw[List.map_cons,List.sum_cons,j,length_map,length_cons,Nat.mul_succ,Nat.add_comm]
 grind
def  De(s:Int)(n:Nat)(p:List Pk)(S:List Sd):List Sd:=(List.range p.length).flatMap λk=>if s<=(jF p k).2 then S.map (b9 n k (jF p k))else[]
def  vz(s:Int)(n:Nat)(rs:U4):List Sd:=((wds rs).filter (fitW s rs)).map λw=>pl n rs w ((n:Int)-1,1)
def Dg(s:Int)(n:Nat)(g:U4)(p:List Pk):vz s n (g++[p])=De s (n*prod g) p (vz s n g):=by
 unfold vz De;rw[ly];unfold yH;rw[List.filter_flatMap,List.map_flatMap];refine congrArg (λf=>List.flatMap f _) (funext λk=>?_);have e:((wds g).map λw=>w++[k]).filter (fitW s (g++[p]))=if s<=(jF p k).2 then((wds g).filter (fitW s g)).map (λw=>w++[k])else[]:=by
  rw[List.filter_map];by_cases h:s<=(jF p k).2
  .rw[if_pos h];refine congrArg _ (List.filter_congr λw j=>?_);show fitW s (g++[p]) (w++[k])=_;rw[pC _ _ (jt g w j).1,decide_eq_true h,Bool.and_true]
  .rw[if_neg h];have:(wds g).filter (fitW s (g++[p])∘λw=>w++[k])=[]:=List.filter_eq_nil_iff.mpr λw j=>by
    show¬fitW s (g++[p]) (w++[k])=true;rw[pC _ _ (jt g w j).1,decide_eq_false h,Bool.and_false];decide
   rw[this];rfl
 rw[e];by_cases h:s<=(jF p k).2
 .rw[if_pos h,if_pos h,List.map_map,List.map_map];exact List.map_congr_left λw j=>nJ _ _ _ _ (jt g w (List.mem_filter.mp j).1).1
 grind
def Gm(s:Int)(n:Nat)(g:U4):(vz s n g).length<=prod g:=by
 unfold vz;rw[length_map,<-nK];grind
end K16
namespace K16
open PySem PySem.Spec PyProof.Rows L2
def  wZ(aD:Fn):U1:=(ab (dj (t4 (cP (mP (bn fO (x2 (va 0) (cT "tuple"))))) (t4 (ai (aa (aB true) (cK (va 0)) (cI 2))) (ai (aa vV (aa ak (va 0) (cI 0)) (cD (.tup [(.str "any"),(.str "come"),(.str "row")])))))) (gG (cm (cB false))) aE) (ab (dj (t4 (cP (mP (bn fO (x2 (aa ak (va 0) (cI 1)) (bQ (x2 (cT "list") (cT "tuple"))))))) (ai (aa (!19) (cK (aa ak (va 0) (cI 1))) (cI 0)))) (gG (cm (cB false))) aE) (gG (bb (bn jB (x1 (aQ (ae [2] (jX af (aa ak (va 0) (cI 1))) (gNm 2) tQ (bz aD (x3 (va 2) (cI 0) (aa cb (va 1) (cI 1)))))))) af (fNo (x1 (aQ (ae [2] (jX af (aa ak (va 0) (cI 1))) (gNm 2) tQ (bz aD (x3 (va 2) (cI 0) (aa cb (va 1) (cI 1))))))))))))
def  lz:U1:=(ab (aw 1 tB) (ab (CB 0 (jX af (va 0)) (zu 2 (b8 (dk 2) (b8 (dk 3) lU))) (ab (lV 1 (va 3)) aE)) (ab (uF 1) aE)))
def  sr(bi ia:Fn):U1:=(ab (dj (t4 (cP (mP (bn fO (x2 (va 0) (bQ (x2 (cT "list") (cT "tuple"))))))) (cP (mP (bn jB (x1 (aQ (ae [2] (jX af (va 0)) (gNm 2) tQ (bz ia (x2 (va 2) (va 1)))))))))) (gG (cm (cB false))) aE) (gG (cm (aa (!19) (D7 (x1 (bz bi (x1 (va 0)))) (wM (x1 (bz bi (x1 (va 0)))))) (D7 (x1 (bn oX (x1 (va 1)))) (aW (PC (x1 (va 1))) (l1F (x1 (bn oX (x1 (va 1)))))))))))
def  i8:U1:=Gc (ac (va 1) λ_=>![]) (bQ (x2 (aa ak (aa ak (va 1) (va 0)) (cI 1)) (va 0))) 0
def  pD(de:Fn):U1:=(ab (dj (ai (aa (!19) (va 1) (cS "any"))) (gG (bb (aQ (cJ (x1 (D7 (x1 (va 2)) (wM (x1 (va 2))))))) (cJ (x1 (D7 (x1 (va 2)) (wM (x1 (va 2)))))) (CA (x1 (frX (D7 (x1 (va 2)) (wM (x1 (va 2)))) (wM (x1 (va 2))) (fNo (x1 (va 2)))))))) aE) (ab (aw 3 (cm (EK (ai (aa (!19) (va 1) (cS "row"))) (va 2) (bz de (x2 (va 0) (va 2)))))) (gG (bb (aQ (ae [4] (jX af (va 3)) (gNm 4) tQ (aQ (cJ (!16))))) (ae [4] (jX af (va 3)) (gNm 4) tQ (aQ (cJ (!16)))) (fCo [4] (jX af (va 3)) (gNm 4) tQ (frX (aQ (cJ (!16))) (cJ (!16)) (CA (x1 (frX (va 4) af af)))))))))
def  kdS:Nat->Str
 |0=>"any"
 |1=>"come"
 |_=>"row"
abbrev Gr:=Nat×List Nat
def  ss(g:Gr):D:=.tup [.str (kdS g.1),rowD g.2]
def  gI(gs:List Gr):D:=.lst (gs.map ss)
noncomputable def  ltD'(p:Int×Int):D:=.tup [.int p.1,.int p.2]
def  lsD'(ls:pB):D:=.lst (ls.map ltD')
def  nh(lv:List (Vd)):D:=.lst (lv.map aM)
def  bT(gs:List Gr):Vb:=gs.flatMap (·.2)
structure Good(m:Nat)(gs:List Gr):Prop where
 pm:(bT gs).Perm (List.range m)
 ne:∀g∈gs,g.2≠[]
 kd:∀g∈gs,g.1<3
 le:m<=24
def Dh(j:g∈o)(l:a∈g.2):a∈bT o:=List.mem_flatMap.mpr ⟨g,j,l⟩
def Good.lt(h:Good m o)(j:g∈o)(l:a∈g.2):a<m:=VG.mp (h.pm.mem_iff.mp (Dh j l))
def Good.len(h:Good m g):(bT g).length=m:=by rw[h.pm.length_eq,length_range]
def pE:∀{gs:List Gr},(∀g∈gs,g.2≠[])->gs.length<=(bT gs).length
 |[],_=>VI _
 |g::gs,h=>by
  have ih:=pE (gs:=gs) λx hx=>h x (Vs _ hx);have:=List.length_pos_iff.mpr (h g Vr);show gs.length+1<=(g.2++bT gs).length;rw[length_append];omega
def Di(l:g∈j):g.2.length<=(bT j).length:=by
 induction j with
 |nil=>cases l
 |cons x j o=>
  show g.2.length<=(x.2++bT j).length;rw[length_append];rcases mem_cons.mp l with rfl|h
  .omega
  .have:=o h;omega
def yI(r:Vb):seqD (rowD r)=!(!8):=rfl
def Gn(r:Vb):eB [rowD r]=!(.int (r.length:Int)):=by
 simp only[bf,yI,Option.bind_some,length_map]
def Kz{o:Type}{xs:List o}{mk}(I:Nat->Ev->Prop)(r:J (di Y)=!(xs.map mk))(h0:I 0 Y)(p:∀(i:Nat)(x:o)(Y:Ev),xs[i]?=!x->I i Y->∃Y',(tg (mk x) Y).bind F=!(.nx Y')/\I (i+1) Y')(k:∀Y',I xs.length Y'->G Y'=out):ab (CB j J tg F) G Y=out:=by
 have l:∀(i:Nat)(d:D)(Y:Ev),(xs.map mk)[i]?=!d->I i Y->∃Y',(tg d Y).bind F=!(.nx Y')/\I (i+1) Y':=λi d Y hd hi=>by
  rw[getElem?_map]at hd;cases g:xs[i]? with
  |none=>rw[g]at hd;cases hd
  |some x=>rw[g]at hd;cases hd;exact p i x Y g hi
 let⟨Y',e,i⟩:=forD_inv (xs.map mk) I _ h0 l;rw[length_map]at i;have t:gT J tg F Y=!(.nx Y'):=by unfold gT;rw[r];exact e
 refine(ar ?_).trans (k _ i);unfold CB aW;rw[t]
def  w4(f:Fn):Prop:=∀(g:Gr)(m:Nat),g.1<3->g.2≠[]->(∀a∈g.2,a<m)->g.2.length<=24->f [ss g,.int (m:Int)]=!(.deep,.bl true)
def Go(hw:fS w):w4 (aK 2 3 (wZ w)):=λ⟨k,r⟩ m hk hne ha hl=>by
 have hs:aH 3 [ss (k,r),.int (m:Int)]=[!_,!(.sh,.int (m:Int)),none]:=rfl;have i1:ak (ss (k,r)) (.int 1)=!_:=rfl;have hm:ae [2] (jX af (aa ak (va 0) (cI 1))) (gNm 2) tQ (bz w (x3 (va 2) (cI 0) (aa cb (va 1) (cI 1)))) [!(ss (k,r)),!(.int (m:Int)),none]=!(r.map λ_=>.bl true):=by
  refine aq (mk:=λ(k:Nat)=>D.int (k:Int)) (by simp only[bA,bin2_a,cI_a,va_a,shAt_0,Option.bind_some,i1,yI]) (λa h=>?_) (Vw hl (!2));have h1:=ha a h;have h2:(0:Int)<=(a:Int):=by omega
  have h3:(a:Int)<=(m:Int)-1:=by omega
  simp only[stepF_a,wipe_cons,wipe_nil,gNm_a,tQ_a,set_cons_succ,set_cons_zero,Option.bind_some,if_true,clF_a,consX_a,nilX_a,va_a,shAt_0,shAt_s,cI_a,bin2_a,subD_ii,hw (a:Int) 0 ((m:Int)-1),valO_some,h2,h3,decide_true];rfl
 refine aj rfl ?_;rw[hs];refine q_if0 ?_ (q_if0 ?_ (q_ret (evX_lf ?_ rfl)))
 .rcases(show k=0\/k=1\/k=2 by have:k<3:=hk;omega)with rfl|rfl|rfl<;>rfl
 .simp only[vw_some,vw_none,vw_nil,qK,notQ_a,trF_a,testB_a,bin2_a,biF_a,consX_a,nilX_a,va_a,shAt_0,iZ,NQ,cI_a,Option.bind_some,i1,capL_2,HV,CK,show cu (rowD r)=some "list"from rfl,List.any_cons,List.any_nil,CL,truD_bl,Gn];simp[show¬r=[]from hne]
 .simp only[vw_some,vw_none,vw_nil,biF_a,consX_a,nilX_a,lsF_a,hm,map_some,Option.bind_some,cY r λ_=>true];simp
def  pF(f:Fn):Prop:=∀gs:List Gr,(bT gs).length<=24->f [gI gs]=!(.deep,rowD (bT gs))
def Ad:pF (aK 1 4 lz):=λgs h24=>by
 refine aj rfl ?_;refine q_set (evX_lfs (d:=.lst []) (ds:=[]) (by simp) rfl (by simp) rfl) ?_;refine Kz (xs:=gs) (mk:=ss) (λi Y=>∃o2 o3,Y=[!_,!(.deep,rowD (bT (gs.take i))),o2,o3]) ?_ ⟨none,none,rfl⟩ ?_ ?_
 .simp only[set_cons_succ,set_cons_zero,Da,bA,va_a,shAt_0];rfl
 .rintro i g Y hg ⟨o2,o3,rfl⟩;have hi:=(Vq.mp hg).1;have hl:(bT (gs.take i)).length+g.2.length<=24:=by
   have e:bT gs=bT (gs.take i)++(g.2++bT (gs.drop (i+1))):=by
    conv=>lhs;rw[<-List.take_append_drop i gs,List.drop_eq_getElem_cons hi]
    rw[(List.getElem?_eq_some_iff.mp hg).2];unfold bT;rw[List.flatMap_append,List.flatMap_cons]
   rw[e,length_append,length_append]at h24;omega
  refine⟨_,(ar (l0 rfl rfl ?_ ?_)).trans rfl,⟨!(.sh,.str (kdS g.1)),!(.sh,rowD g.2),?_⟩⟩
  .exact ck λd hd=>by let⟨p,_,rfl⟩:=Vz.mp hd;rfl
  .rw[length_map,length_map];exact Vw hl (!2)
  .rw[List.take_add_one,hg];have e:bT (gs.take i++(!g).toList)=bT (gs.take i)++g.2:=by
    unfold bT;rw[List.flatMap_append];simp
   rw[e];unfold rowD;rw[List.map_append];rfl
 .rintro Y ⟨o2,o3,rfl⟩;rw[List.take_length];rfl
def w5(r:Vb):fw (!8)=true:=ck λd hd=>by let⟨p,_,rfl⟩:=Vz.mp hd;rfl
def nL(r:Vd):fw (r.map D.int)=true:=ck λd hd=>by let⟨p,_,rfl⟩:=Vz.mp hd;rfl
def  sAre(f:Fn):Prop:=∀(m:Nat)(gs:List Gr),Good m gs->f [gI gs,.int (m:Int)]=!(.deep,.bl true)
def h_are(h1:pF gl)(h2:w4 ig):sAre (aK 2 3 (sr gl ig)):=λm gs G=>by
 have hs:aH 3 [gI gs,.int (m:Int)]=[!_,!(.sh,.int (m:Int)),none]:=rfl;have hfl:=G.len;have hle:=G.le;have hgl:=pE G.ne;have y:seqD (gI gs)=!_:=rfl;have hm:ae [2] (jX af (va 0)) (gNm 2) tQ (bz ig (x2 (va 2) (va 1))) [!(gI gs),!(.int (m:Int)),none]=!(gs.map λ_=>.bl true):=by
  refine aq (mk:=ss) (by simp only[bA,va_a,shAt_0,Option.bind_some,y]) (λg h=>?_) (Vw (show gs.length<=24 by omega) (!2));have e:=h2 g m (G.kd g h) (G.ne g h) (λa ha=>G.lt h ha) (by have:=Di h;omega);simp only[stepF_a,wipe_cons,wipe_nil,gNm_a,tQ_a,set_cons_succ,set_cons_zero,Option.bind_some,if_true,clF_a,consX_a,nilX_a,va_a,shAt_0,shAt_s,e,valO_some]
 have e1:=h1 gs (!1);have s1:wM (x1 (bz gl (x1 (va 0)))) [!(gI gs),!(.int (m:Int)),none]=!((List.range m).map λ(k:Nat)=>D.int (k:Int)):=by
  show(x1 (bz gl (x1 (va 0))) _).bind cX=_;simp only[consX_a,nilX_a,clF_a,va_a,shAt_0,Option.bind_some,e1,valO_some,nE (C9 G.pm hle)]
 refine aj rfl ?_;rw[hs];refine q_if0 ?_ (q_ret (evX_lf ?_ rfl))
 .simp only[vw_some,vw_none,vw_nil,qK,notQ_a,trF_a,biF_a,consX_a,nilX_a,va_a,shAt_0,iZ,NQ,Option.bind_some,capL_2,HV,CK,show cu (gI gs)=some "list"from rfl,List.any_cons,List.any_nil,CL,truD_bl,lsF_a,hm,map_some,cY gs λ_=>true];simp
 .simp only[vw_some,vw_none,vw_nil,bin2_a];rw[mT s1,mT (RW hle (by simp only[consX_a,nilX_a,va_a,shAt_0,shAt_s,Option.bind_some]))];exact Ky false _
def  cL(r:Vb):Vd:=r.map λ(k:Nat)=>(k:Int)
def KA(r:Vb):rowD r=aM (cL r):=by
 unfold rowD aM cL;rw[List.map_map];rfl
abbrev Ea:U0:=bQ (x2 (aa ak (aa ak (va 1) (va 0)) (cI 1)) (va 0))
def N9{a:Nat}(h:a<ls.length):Ea [!(.int (a:Int)),!(lsD' ls)]=!(keyL ls (a:Int)):=by
 have e:ak (lsD' ls) (.int (a:Int))=!(ltD' (ls.getD a (0,0))):=by
  have q:=aY (mk:=ltD') (getElem?_eq_getElem h);rw[List.getD_eq_getElem?_getD,getElem?_eq_getElem h];exact q
 have e2:ak (ltD' (ls.getD a (0,0))) (.int 1)=!(.int (eD ls (a:Int))):=rfl;simp_all [pB,Ea,lsD',keyL]
def qU:∀{r:Vb},(∀a∈r,a<ls.length)->mS Ea (lsD' ls) (!8)=!((cL r).map (keyL ls))
 |[],_=>rfl
 |a::r,h=>by
  show(Ea [!(.int (a:Int)),!(lsD' ls)]).bind (λk=>(mS Ea (lsD' ls) (!8)).bind λks=>!(k::ks))=_;rw[N9 (h a mem_cons_self),qU λb hb=>h b (mem_cons_of_mem _ hb)];rfl
def qV(ls:pB)(l:Vd):cW (l.map (keyL ls)):=⟨[none,none],by simp,λd hd=>by
 let⟨a,_,rfl⟩:=Vz.mp hd;exact⟨_,rfl⟩⟩
def  Dj(f:Fn):Prop:=∀(ls:pB)(r:Vb),bS ls->(∀a∈r,a<ls.length)->r.length<=24->f [lsD' ls,rowD r]=!(.deep,aM (gH ls (cL r)))
def KC:Dj (aK 2 2 i8):=λls r l o p=>by
 have g:aH 2 [lsD' ls,rowD r]=[!_,!_]:=rfl;refine aj rfl ?_;rw[g];have e:z0 (ac (va 1) λ_=>![]) Ea 0 [!(lsD' ls),!(rowD r)]=!((gH ls (cL r)).map D.int):=by
  show((!(lsD' ls)).bind λI=>(mS Ea I (!8)).bind λks=>if(!8).length<64/\cW ks then !((plcK ks).map λj=>(!8).getD j .non)else none)=_;rw[Option.bind_some,qU o,Option.bind_some,if_pos ⟨by rw[length_map];omega,qV ls _⟩];have q:=Db l (cL r);rw[show(cL r).map D.int=r.map λ(k:Nat)=>D.int (k:Int)by unfold cL;rw[List.map_map];rfl]at q;rw[q]
 refine q_ret (Y':=[!(.sh,lsD' ls),!(.sh,rowD r)]) ?_;have C:(λY=>iA (z0 (ac (va 1) λ_=>![]) Ea 0 Y)) (vw [!(.sh,lsD' ls),!(.sh,rowD r)])=!(aM (gH ls (cL r))):=by
  show iA (z0 (ac (va 1) λ_=>![]) Ea 0 [!(lsD' ls),!(rowD r)])=_;rw[e];unfold iA;rw[Option.bind_some,if_pos (nL _)];rfl
 have t:kX (λY=>iA (z0 (ac (va 1) λ_=>![]) Ea 0 Y)) [!(.sh,lsD' ls),!(.sh,rowD r)]=!((.deep,aM (gH ls (cL r))),[!(.sh,lsD' ls),!(.sh,rowD r)]):=by
  unfold kX;rw[C];rfl
 unfold aW;rw[t]
def  levG(ls:pB)(g:Gr):List (Vd):=if g.1=0 then[ge (cL g.2)]else if g.1=1 then(gH ls (cL g.2)).map ([·])else(cL g.2).map ([·])
def Dk(h:r.length<=24):k9 [rowD r]=!((ge (cL r)).map D.int):=by
 show((a8 (!8)).bind λg=>if g.length<64 then !((ge g).map D.int)else none)=_;rw[kj,Option.bind_some,if_pos (by rw[length_map];omega)];rfl
def km{R L Sp}(h:R Y=!(.lst ds))(g:L Y=!ds)(j:fw ds=true):frX R L Sp Y=!(.lst ds):=by
 unfold frX aW;simp only[h,g,vq,iA,Option.bind_some,FX,j,if_true];rfl
def seq_sc(g:Vd):seqD (aM g)=!(g.map D.int):=rfl
def yJ(hl:ns.length<=24)(hn:ns≠[])(o4:U6):bb (aQ (ae [4] (jX af (va 3)) (gNm 4) tQ (aQ (cJ (!16))))) (ae [4] (jX af (va 3)) (gNm 4) tQ (aQ (cJ (!16)))) (fCo [4] (jX af (va 3)) (gNm 4) tQ (frX (aQ (cJ (!16))) (cJ (!16)) (CA (x1 (frX (va 4) af af)))))
  [!(.sh,ls),!(.sh,d1),!(.sh,d2),!(.sh,aM ns),none]=!((.deep,nh (ns.map ([·]))),[!(.sh,ls),!(.sh,d1),!(.sh,d2),!(.sh,aM ns),none]):=by
 have big24:ns.length<big:=Vw hl (!2)
 have h1:ae [4] (jX af (va 3)) (gNm 4) tQ (aQ (cJ (!16))) [!ls,!d1,!d2,!(aM ns),none]=!(ns.map λa=>.lst [.int a]):=by
  refine aq (mk:=D.int) (by simp only[bA,va_a,shAt_0,shAt_s,Option.bind_some,seq_sc]) (λa h=>?_) big24;simp only[stepF_a,wipe_cons,wipe_nil,gNm_a,tQ_a,set_cons_succ,set_cons_zero,Option.bind_some,if_true,lsF_a,dpF_a,consX_a,nilX_a,va_a,shAt_0,shAt_s,capL_1,map_some]
 have h2:ae [4] (jX af (va 3)) (gNm 4) tQ (frX (aQ (cJ (!16))) (cJ (!16)) (CA (x1 (frX (va 4) af af)))) [!ls,!d1,!d2,!(aM ns),none]=!(ns.map λa=>.lst [.int a]):=by
  refine aq (mk:=D.int) (by simp only[bA,va_a,shAt_0,shAt_s,Option.bind_some,seq_sc]) (λa h=>?_) big24;have e:frX (aQ (cJ (!16))) (cJ (!16)) (CA (x1 (frX (va 4) af af))) [!ls,!d1,!d2,!(aM ns),!(.int a)]=!(.lst [.int a]):=
   km (by simp only[lsF_a,dpF_a,consX_a,nilX_a,va_a,shAt_0,shAt_s,Option.bind_some,capL_1,map_some]) (by simp only[dpF_a,consX_a,nilX_a,va_a,shAt_0,shAt_s,Option.bind_some,capL_1]) rfl
  simp only[stepF_a,wipe_cons,wipe_nil,gNm_a,tQ_a,set_cons_succ,set_cons_zero,Option.bind_some,if_true,e]
 have e3:nh (ns.map ([·]))=.lst (ns.map λa=>.lst [.int a]):=by unfold nh;rw[List.map_map];rfl
 rw[e3]
 refine lx (d:=.lst (ns.map λa=>.lst [.int a])) (ds:=ns.map λa=>.lst [.int a]) ?_ rfl ?_ ?_ ?_
 .simp only[vw_some,vw_none,vw_nil,lsF_a,h1,map_some]
 .simp only[vw_some,vw_none,vw_nil,h1]
 .cases ns with
  |nil=>exact absurd rfl hn
  |cons a ns=>rfl
 .show(ae _ _ _ _ _ _).bind _=_;simp only[vw_some,vw_none,vw_nil,h2,Option.bind_some]
def  RX(f:Fn):Prop:=∀(ls:pB)(g:Gr),bS ls->g.1<3->g.2≠[]->(∀a∈g.2,a<ls.length)->g.2.length<=24->f [lsD' ls,.str (kdS g.1),rowD g.2]=!(.deep,nh (levG ls g))
def RY(hc:Dj co):RX (aK 3 5 (pD co)):=λls ⟨k,r⟩ hl hk hne ha h24=>by
 have hs:aH 5 [lsD' ls,.str (kdS k),rowD r]=[!_,!_,!_,none,none]:=rfl;have hne':=hne;have h24':r.length<=24:=h24;have il:(cL r).length=r.length:=length_map _;have ine:cL r≠[]:=λz=>hne' (by
  have:=congrArg List.length z;rw[il]at this;exact List.length_eq_zero_iff.mp this)
 refine aj rfl ?_;rw[hs];rcases(show k=0\/k=1\/k=2 by have:k<3:=hk;omega)with rfl|rfl|rfl
 .have s1:wM (x1 (va 2)) [!(lsD' ls),!(.str (kdS 0)),!(rowD r),none,none]=!((ge (cL r)).map D.int):=by
   show(x1 (va 2) _).bind cX=_;simp only[consX_a,nilX_a,va_a,shAt_0,shAt_s,Option.bind_some,nE (Dk h24')]
  refine aS ((ifS_t rfl).trans (q_ret (Y':=[!(.sh,lsD' ls),!(.sh,.str (kdS 0)),!(.sh,rowD r),none,none]) ?_));refine lx (d:=.lst [aM (ge (cL r))]) (ds:=[aM (ge (cL r))]) ?_ rfl ?_ rfl ?_
  .simp only[vw_some,vw_none,vw_nil,lsF_a,dpF_a,consX_a,mT s1,nilX_a,Option.bind_some,capL_1,map_some];rfl
  .simp only[vw_some,vw_none,vw_nil,dpF_a,consX_a,mT s1,nilX_a,Option.bind_some,capL_1];rfl
  .have e:=km (Sp:=fNo (x1 (va 2))) (mT (xs:=x1 (va 2)) s1) s1 (nL _);simp only[vw_some,vw_none,vw_nil,NR,consX_a,e,nilX_a,Option.bind_some,capL_1];rfl
 .have e:=hc ls r hl ha h24';refine q_if0 rfl (q_set (s:=(.sh,aM (gH ls (cL r)))) (oY ?_ rfl rfl rfl rfl ?_) (q_ret (Y':=[!(.sh,lsD' ls),!(.sh,.str (kdS 1)),!(.sh,rowD r),!(.sh,aM (gH ls (cL r))),none]) ?_))
  .show(EK _ _ _ [!(lsD' ls),!(.str (kdS 1)),!(rowD r),none,none])=_;rw[yu,show ai (aa (!19) (va 1) (cS "row")) [!(lsD' ls),!(.str (kdS 1)),!(rowD r),none,none]=some false from rfl];simp only[Option.bind_some,Bool.false_eq_true,if_false,clF_a,consX_a,nilX_a,va_a,shAt_0,shAt_s,e,valO_some]
  .show(EK _ _ _ [!(lsD' ls),!(.str (kdS 1)),!(rowD r),none,none])=_;rw[yu,show ai (aa (!19) (va 1) (cS "row")) [!(lsD' ls),!(.str (kdS 1)),!(rowD r),none,none]=some false from rfl];simp only[Option.bind_some,Bool.false_eq_true,if_false,clF_a,consX_a,nilX_a,va_a,shAt_0,shAt_s,e,valO_some]
  .have cl:(gH ls (cL r)).length=r.length:=by rw[(jq hl _).length_eq,il]
   exact yJ (!1) (λz=>by rw[z]at cl;exact hne' (List.length_eq_zero_iff.mp cl.symm)) none
 .refine q_if0 rfl (q_set (s:=(.sh,aM (cL r))) (by rw[<-KA];exact oY rfl rfl rfl rfl rfl rfl) (q_ret (Y':=[!(.sh,lsD' ls),!(.sh,.str (kdS 2)),!(.sh,rowD r),!(.sh,aM (cL r)),none]) ?_));exact yJ (!1) ine none
end K16
namespace K16
open PySem PySem.Spec PyProof.Rows L2
def  mW(df:Fn):U1:=(ab (aw 2 tB) (ab (CB 1 (jX af (va 1)) (zu 2 (b8 (dk 3) (b8 (dk 4) lU))) (ab (lV 2 (bz df (x3 (va 0) (va 3) (va 4)))) aE)) (ab (uF 2) aE)))
def  su:U1:=(ab (aw 1 (bb af af Uy)) (ab (iq (jX (LJ (x1 (va 0))) (bn oX (x1 (va 0)))) (zu 2 (b8 (dk 2) (b8 (dk 3) lU))) (ab (iq (jX af (va 3)) (dk 4) (ab (uG 1 (va 4) (cm (va 2)) (va 2)) aE)) aE)) (ab (uF 1) aE)))
def KD(h0:fI i k g Y=none)(h:BS i k R Y=!o):uG i k g R Y=!o:=by unfold uG aW;rw[h0];exact h
abbrev Wd:=List jz×List D
def  wD'(w:Wd):D:=.dct w.1 w.2
def  pu(n:Int)(w:Wd)(a:Int):Wd:=(k7 w.1 (.inl a),k8 w.1 w.2 (.inl a) (.int n))
def  j3(n:Int)(l:Vd)(w:Wd):Wd:=l.foldl (pu n) w
def  pG:List (Vd)->Nat->Wd->Wd
 |[],_,w=>w
 |l::lv,n,w=>pG lv (n+1) (j3 (n:Int) l w)
def qW:∀(lv:List (Vd))(l:Vd)(n:Nat)(w:Wd),pG (lv++[l]) n w=j3 ((n+lv.length:Nat):Int) l (pG lv n w)
 |[],l,n,w=>rfl
 |x::lv,l,n,w=>by
  show pG (lv++[l]) (n+1) _=_;rw[qW lv l (n+1)];show j3 ((n+1+lv.length:Nat):Int) l _=j3 ((n+(lv.length+1):Nat):Int) l _;rw[show n+1+lv.length=n+(lv.length+1)by omega];rfl
structure WOk(k:Nat)(w:Wd):Prop where
 len:w.1.length=w.2.length
 sz:w.1.length<=k
 lf:fw w.2=true
def Oa(h:WOk k w)(n a:Int):WOk (k+1) (pu n w a):=by
 have j:=h.len;have g:=h.sz;refine⟨?_,?_,BQ rfl h.lf⟩
 .show(k7 w.1 (.inl a)).length=(k8 w.1 w.2 _ _).length;unfold k7 k8;split
  .rw[List.length_zipWith];omega
  .rw[length_append,length_append];show _+1=_+1;omega
 .show(k7 w.1 (.inl a)).length<=k+1;unfold k7;split
  .omega
  .rw[length_append];show _+1<=_;omega
def sv:∀{l:Vd}{k:Nat}{w:Wd},WOk k w->WOk (k+l.length) (j3 n l w)
 |[],k,w,h=>h
 |a::l,k,w,h=>by
  have:=sv (n:=n) (l:=l) (Oa h n a);rw[show k+1+l.length=k+(a::l).length by rw[length_cons];omega]at this;exact this
def Dl:∀{lv:List (Vd)}{n k:Nat}{w:Wd},WOk k w->WOk (k+lv.flatten.length) (pG lv n w)
 |[],n,k,w,h=>h
 |l::lv,n,k,w,h=>by
  have:=Dl (lv:=lv) (n:=n+1) (sv (n:=(n:Int)) (l:=l) h);rw[show k+l.length+lv.flatten.length=k+(l::lv).flatten.length by rw[List.flatten_cons,length_append];omega]at this;exact this
def  KE(lv:List (Vd)):D:=wD' (pG lv 0 ([],[]))
def UI:WOk 0 (([],[]):Wd):=⟨rfl,VI _,rfl⟩
def Gp{R L Sp}(j:WOk m w)(t:m<=100)(g:iB Y i=!(.deep,wD' w))(p:k (vw Y)=!(.int a))(l:R (vw Y)=!(.int n)):uG i k (bb R L Sp) R Y=!(.nx (Y.set i (!(.deep,wD' (pu n w a))))):=by
 have r:bb R L Sp Y=!_:=evX_lf l rfl;have o:ownL Y i=none:=by unfold ownL;rw[g];rfl
 refine KD ?_ ?_
 .unfold fI;rw[r];show(ownL Y i).bind _=none;rw[o];rfl
 .unfold BS;rw[show FC Y i=some w by unfold FC;rw[g];rfl,l,p];show(if fw w.2=true/\w.1.length+1<big then _ else _)=_;rw[if_pos ⟨j.lf,lt_of_le_of_lt (show w.1.length+1<=101 by have:=j.sz;omega) (!2)⟩];rfl
def KF{lv:List (Vd)}(h:∀l∈lv,l≠[]):lv.length<=lv.flatten.length:=by
 induction lv with
 |nil=>exact VI _
 |cons l lv g=>
  have:=g λx j=>h x (Vs _ j);have:=List.length_pos_iff.mpr (h l Vr);rw[List.flatten_cons,length_append,length_cons];omega
def Ae{l:Vd}(h:l[i]?=!a):pu n (j3 n (l.take i) w) a=j3 n (l.take (i+1)) w:=by
 rw[List.take_add_one,h];unfold j3;grind
def Af{lv:List (Vd)}(h:lv[i]?=!l):(lv.take i).flatten.length+l.length<=lv.flatten.length:=by
 have hi:=(Vq.mp h).1;have e:lv=lv.take i++(l::lv.drop (i+1)):=by
  conv=>lhs;rw[<-List.take_append_drop i lv,List.drop_eq_getElem_cons hi]
  rw[(List.getElem?_eq_some_iff.mp h).2]
 grind
def  KG(f:Fn):Prop:=∀lv:List (Vd),lv.flatten.length<=24->lv.length<1000->f [nh lv]=!(.deep,KE lv)
def Ob:KG (aK 1 5 su):=λlv h24 U=>by
 refine aj rfl ?_;refine q_set rfl ?_;refine q_forB (xs:=lv.zipIdx) (mk:=λp=>.tup [.int (p.2:Nat),aM p.1]) (λi Y=>∃r o g,Y=[!_,!(.deep,wD' (pG (lv.take i) 0 ([],[]))),r,o,g]) ?_ ⟨none,none,none,rfl⟩ ?_ ?_
 .have e:jX (LJ (x1 (va 0))) (bn oX (x1 (va 0))) [!(nh lv),none,none,none,none]=!((lv.zipIdx).map λp=>.tup [.int (p.2:Nat),aM p.1]):=by
   have q:LJ (x1 (va 0)) [!(nh lv),none,none,none,none]=!((lv.zipIdx).map λp=>.tup [.int (p.2:Nat),aM p.1]):=by
    show(seqD (nh lv)).bind (λxs=>!(mN xs))=_;rw[show seqD (nh lv)=some _ from rfl,Option.bind_some,qQ]
   unfold jX aW;rw[q]
  exact e
 .rintro i ⟨l,n⟩ Y I ⟨r,o,g,rfl⟩;rw[List.getElem?_zipIdx]at I;let⟨l',t,e⟩:=Option.map_eq_some_iff.mp I;rw[Nat.zero_add]at e;cases e;have tf:=Af t;have T:=Dl (lv:=lv.take i) (n:=0) UI;have nx:pG (lv.take (i+1)) 0 ([],[])=j3 (i:Int) l (pG (lv.take i) 0 ([],[])):=by
   have hi:=(Vq.mp t).1;rw[List.take_add_one,t];show pG (lv.take i++[l]) 0 _=_;rw[qW,List.length_take,Nat.min_eq_left (Nat.le_of_lt hi),Nat.zero_add]
  refine x_for (λj Y=>∃g,Y=[!_,!(.deep,wD' (j3 (i:Int) (l.take j) (pG _ 0 _))),!(.sh,.int (i:Nat)),!_,g]) rfl ⟨g,rfl⟩ ?_ ?_
  .rintro j a Y J ⟨g,rfl⟩;have hj:j<l.length:=(Vq.mp J).1;have C:=sv (n:=(i:Int)) (l:=l.take j) T;rw[List.length_take,Nat.min_eq_left (Nat.le_of_lt hj)]at C;refine⟨_,(ar (Gp C (!1) rfl rfl rfl)).trans rfl,⟨!(.sh,.int a),?_⟩⟩;rw[Ae J];rfl
  .rintro Y ⟨g,rfl⟩;rw[List.take_length,<-nx];exact x_end ⟨_,_,_,rfl⟩
 .rintro Y ⟨r,o,g,rfl⟩;rw[List.length_zipIdx,List.take_length];rfl
end K16
namespace K16
open PySem PySem.Spec PyProof.Rows L2
def  levs(ls:pB)(gs:List Gr):List (Vd):=gs.flatMap (levG ls)
def yK(r:Vb):(cL r).length=r.length:=length_map _
def qX(l:Vd):(l.map ([·])).flatten=l:=by
 induction l with
 |nil=>rfl
 |cons a l g=>rw[List.map_cons,List.flatten_cons,g];rfl
def Dm(h:bS ls)(g:Gr):(levG ls g).flatten.Perm (cL g.2):=by
 unfold levG;split
 .simp only[List.flatten_cons,List.flatten_nil,List.append_nil];exact jp _
 .split
  .rw[qX];exact jq h _
  .rw[qX]
def KH(h:bS ls)(o:g.2≠[]):∀l∈levG ls g,l≠[]:=λl j=>by
 unfold levG at j;split at j
 .rw[mem_singleton.mp j];intro z;have:=(jp (cL g.2)).length_eq;rw[z,yK]at this;exact o (List.length_eq_zero_iff.mp this.symm)
 grind
def qY(h:bS ls):∀gs:List Gr,(levs ls gs).flatten.Perm (cL (bT gs))
 |[]=>.refl _
 |g::gs=>by
  show(levG ls g++levs ls gs).flatten.Perm (cL (g.2++bT gs));rw[List.flatten_append];unfold cL;rw[List.map_append];exact(Dm h g).append (qY h gs)
def Gq(h:bS ls)(o:∀g∈p,g.2≠[]):∀l∈levs ls p,l≠[]:=λl j=>by
 let⟨g,h1,h2⟩:=List.mem_flatMap.mp j;exact KH h (o g h1) l h2
def u6(h:bS ls)(l:∀g∈j,g.2≠[]):(levs ls j).length<=(bT j).length/\(levs ls j).flatten.length=(bT j).length:=by
 have e:=(qY h j).length_eq;rw[yK]at e;exact⟨by rw[<-e];exact KF (Gq h l),e⟩
def qZ{j:List Gr}(h:j[i]?=!g):levs ls (j.take (i+1))=levs ls (j.take i)++levG ls g:=by
 rw[List.take_add_one,h];unfold levs;simp
def Ag:(bT (gs.take i)).length<=(bT gs).length:=by
 conv=>rhs;rw[<-List.take_append_drop i gs]
 unfold bT;grind
def yL(h:c≠.sh):∀es:Vg,extC c es≠.sh
 |[]=>h
 |d::es=>yL (qG c (extS d)) es
def Oc(h:iB Y i=!(c,.lst ds))(g:c≠.sh):ownL Y i=!(c,ds):=by
 unfold ownL;rw[h];cases c with
 |sh=>exact absurd rfl g
 |deep=>rfl
 |top=>rfl
def KI(h0:iB Y i=!(c,.lst ds))(j:c≠.sh)(l:R (di Y)=!(.lst es))(g:ds.length+es.length<big):lV i R Y=!(.nx (Y.set i (!(extC c es,.lst (ds++es))))):=by
 have e:zB i R Y=!(.nx (Y.set i (!(extC c es,.lst (ds++es))))):=by
  unfold zB;rw[Oc h0 j];simp only[Option.bind_some,l];show(if ds.length+es.length<big then _ else _)=_;rw[if_pos g]
 unfold lV aW;rw[e]
def  KJ(f:Fn):Prop:=∀(m:Nat)(ls:pB)(gs:List Gr),bS ls->ls.length=m->Good m gs->∃c,c≠Cat.sh/\f [lsD' ls,gI gs]=!(c,nh (levs ls gs))
def lt_big(h:n<=100):n<big:=Vw h (!2)
def Gs(a b:List (Vd)):nh (a++b)=.lst (a.map aM++b.map aM):=by unfold nh;rw[List.map_append]
def KL{α o:Type}{out:α->Option Out}{P:α->Prop}{xs:List o}{mk}(I:Nat->Ev->Prop)(r:J (di Y)=!(xs.map mk))(h0:I 0 Y)(p:∀(i:Nat)(x:o)(Y:Ev),xs[i]?=!x->I i Y->∃Y',(tg (mk x) Y).bind F=!(.nx Y')/\I (i+1) Y')(k:∀Y',I xs.length Y'->∃a,G Y'=out a/\P a):∃a,ab (CB j J tg F) G Y=out a/\P a:=by
 have l:∀(i:Nat)(d:D)(Y:Ev),(xs.map mk)[i]?=!d->I i Y->∃Y',(tg d Y).bind F=!(.nx Y')/\I (i+1) Y':=λi d Y hd hi=>by
  rw[getElem?_map]at hd;cases g:xs[i]? with
  |none=>rw[g]at hd;cases hd
  |some x=>rw[g]at hd;cases hd;exact p i x Y g hi
 let⟨Y',e,i⟩:=forD_inv (xs.map mk) I _ h0 l;rw[length_map]at i;have t:gT J tg F Y=!(.nx Y'):=by unfold gT;rw[r];exact e
 refine jE ?_ (k _ i);unfold CB aW;rw[t]
def Od(hg:RX gl):KJ (aK 2 5 (mW gl)):=λm ls gs hl hm G=>by
 have hs:aH 5 [lsD' ls,gI gs]=[!_,!_,none,none,none]:=rfl;have key:∃c,mW gl [!(.sh,lsD' ls),!(.sh,gI gs),none,none,none]=!(.rt (c,nh (levs ls gs)))/\c≠Cat.sh:=by
  refine x_set (s:=(.deep,.lst [])) (evX_lfs (d:=.lst []) (by simp) rfl (by simp) rfl) ?_;refine KL (λi Y=>∃c o3 o4,c≠Cat.sh/\Y=[!_,!_,!(c,nh (levs ls (gs.take i))),o3,o4]) rfl ⟨.deep,none,none,by simp,rfl⟩ ?_ ?_
  .rintro i g Y hx ⟨c,o3,o4,hc,rfl⟩;have gm:=VH hx;have hfl:=G.len;have hle:=G.le;have e:=hg ls g hl (G.kd g gm) (G.ne g gm) (λa ha=>by rw[hm];exact G.lt gm ha) (by have:=Di gm;omega);have n1:∀x∈gs.take (i+1),x.2≠[]:=λx hx=>G.ne x (List.mem_of_mem_take hx);have b1:=(u6 hl n1).1;have b2:=Ag (gs:=gs) (i:=i+1);rw[qZ hx,length_append]at b1;refine⟨_,(ar (KI (es:=(levG ls g).map aM) rfl hc ?_ ?_)).trans rfl,⟨extC c ((levG ls g).map aM),!(.sh,.str (kdS g.1)),!(.sh,rowD g.2),yL hc _,?_⟩⟩
   .show bz gl _ [!(lsD' ls),!(gI gs),_,!(.str (kdS g.1)),!(rowD g.2)]=_;simp only[clF_a,consX_a,nilX_a,va_a,shAt_0,shAt_s,Option.bind_some,e,valO_some];rfl
   .rw[length_map,length_map];exact lt_big (!1)
   .rw[qZ hx,Gs];rfl
  .rintro Y ⟨c,o3,o4,hc,rfl⟩;refine⟨c,?_,hc⟩;rw[List.take_length];rfl
 let⟨c,e,hc⟩:=key;exact⟨c,hc,aj rfl (by rw[hs];exact e)⟩
end K16
namespace K16
open PySem PySem.Spec PyProof.Rows L2
def  l8(bF bU bE:Fn)(y:Addr):vt:=(stI (dj (cP (mP (bz bE (x2 (va 2) (cK (va 1)))))) (ab noO' aE) aE) (uj y 0 "groups" (bb (aQ (ae [3,4] (jX af (va 2)) (kc 2 (ao (gNm 3) (ao (gNm 4) bd))) tQ (bQ (x2 (va 3) (liF (!16)))))) (ae [3,4] (jX af (va 2)) (kc 2 (ao (gNm 3) (ao (gNm 4) bd))) tQ (bQ (x2 (va 3) (liF (!16))))) (fCo [3,4] (jX af (va 2)) (kc 2 (ao (gNm 3) (ao (gNm 4) bd))) tQ (frX (bQ (x2 (va 3) (liF (!16)))) af (vx (x2 (frX (va 3) af af) (frX (liF (!16)) (l1F (!16)) (fNo (!16)))))))) (uj y 0 "level_letters" (l5 bU (x2 (va 1) (va 2))) (Ch y 0 "level_numbers" "level_letters" bF BE))))
def Gu{R L Sp}(h:R Y=!d)(f:lfD d=false)(j:L Y=none)(g:Sp Y=!e):frX R L Sp Y=!e:=by
 unfold frX aW;simp only[h,j,vq,iA,Option.bind_none,Option.bind_some,f,g];rfl
def pH(r:Vb):mI [rowD r]=!(!8):=rfl
def KM(h:j≠[]):fw (j.map ss)=false:=by
 cases j with
 |nil=>exact absurd rfl h
 |cons g j=>rfl
instance gwDec(p:Prop):Decidable p:=Classical.propDecidable p
def  gW(I:Addr->vt):Vg->Option (List (Str×D)):=λds=>if h:∃r,∀y,rO 3 5 I y ds=!r then !(Classical.choose h)else none
def KN(h:gW I ds=!r):∀y,rO 3 5 I y ds=!r:=by
 unfold gW at h;split at h
 .rename_i q;cases h;exact Classical.choose_spec q
 .cases h
def Oe(h:∀y,rO 3 5 I y ds=!r):gW I ds=!r:=by
 have q:∃r,∀y,rO 3 5 I y ds=!r:=⟨r,h⟩;unfold gW;rw[dif_pos];have:=(Classical.choose_spec q 0).symm.trans (h 0);exact this
def  UJ(ls:pB)(gs:List Gr):List (Str×D):=[("groups",gI gs),("level_letters",nh (levs ls gs)),("level_numbers",KE (levs ls gs))]
def  aZ(ls:pB)(gs:List Gr):D:=.obj "Wish" ["groups","level_letters","level_numbers"] [gI gs,nh (levs ls gs),KE (levs ls gs)]
def  Dn(g:Vg->Option (List (Str×D))):Prop:=∀(m:Nat)(ls:pB)(gs:List Gr),bS ls->ls.length=m->Good m gs->g [lsD' ls,gI gs]=!(UJ ls gs)
def yM{fs}(h:g Y=!(s,Y))(hi:iB Y i=!(.sh,.adr x))(j:fs.length<900):uj x i f g G Y fs=G Y (oI f s.2 fs):=by
 unfold uj;grind
def Gv{g:Fn}{fs}(hd:fs.lookup h=!d)(l:g [d]=!s)(hi:iB Y i=!(.sh,.adr x))(j:fs.length<900):Ch x i f h g G Y fs=G Y (oI f s.2 fs):=by
 unfold Ch;grind
def KO(h1:KG num)(h2:KJ lev)(h3:sAre are):Dn (gW (l8 num lev are)):=λm ls gs hl hm G=>Oe λy=>by
 have hfl:=G.len;have hle:=G.le;have hgl:=pE G.ne;let⟨b1,b2⟩:=u6 hl G.ne;let⟨c,hc,e2⟩:=h2 m ls gs hl hm G;have e1:=h1 (levs ls gs) (!1) (!1);have e3:=h3 m gs G;have len1:eB [lsD' ls]=!(.int (m:Int)):=by
  rw[<-hm];simp only[bf,show seqD (lsD' ls)=some _ from rfl,Option.bind_some,length_map]
 show l8 num lev are y [!(.sh,.adr y),!(.sh,lsD' ls),!(.sh,gI gs),none,none] []=_;unfold l8;have c0:dj (cP (mP (bz are (x2 (va 2) (cK (va 1)))))) (ab noO' aE) aE [!(.sh,.adr y),!(.sh,lsD' ls),!(.sh,gI gs),none,none]=!(.nx [!(.sh,.adr y),!(.sh,lsD' ls),!(.sh,gI gs),none,none]):=by
  refine(dX ?_).trans rfl;simp only[vw_some,vw_none,vw_nil,notQ_a,trF_a,clF_a,biF_a,consX_a,nilX_a,va_a,shAt_0,shAt_s,Option.bind_some,len1,e3,valO_some,truD_bl,map_some,Bool.not_true]
 unfold L2.stI;rw[c0];have c1:ae [3,4] (jX af (va 2)) (kc 2 (ao (gNm 3) (ao (gNm 4) bd))) tQ (bQ (x2 (va 3) (liF (!16)))) [!(.adr y),!(lsD' ls),!(gI gs),none,none]=!(gs.map ss):=by
  refine aq rfl (λg hg=>?_) (lt_big (!1));rfl
 have c2:ae [3,4] (jX af (va 2)) (kc 2 (ao (gNm 3) (ao (gNm 4) bd))) tQ (frX (bQ (x2 (va 3) (liF (!16)))) af (vx (x2 (frX (va 3) af af) (frX (liF (!16)) (l1F (!16)) (fNo (!16)))))) [!(.adr y),!(lsD' ls),!(gI gs),none,none]=!(gs.map ss):=by
  refine aq rfl (λg hg=>?_) (lt_big (!1));have e2:frX (liF (!16)) (l1F (!16)) (fNo (!16)) [!(.adr y),!(lsD' ls),!(gI gs),!(.str (kdS g.1)),!(rowD g.2)]=!(rowD g.2):=km (by simp only[pd,consX_a,nilX_a,va_a,shAt_0,shAt_s,Option.bind_some,pH,map_some]) (by simp only[yt,consX_a,nilX_a,va_a,shAt_0,shAt_s,Option.bind_some,pH]) (w5 _);have e3:frX (bQ (x2 (va 3) (liF (!16)))) af (vx (x2 (frX (va 3) af af) (frX (liF (!16)) (l1F (!16)) (fNo (!16))))) [!(.adr y),!(lsD' ls),!(gI gs),!(.str (kdS g.1)),!(rowD g.2)]=!(ss g):=by
   refine Gu (d:=ss g) ?_ rfl rfl ?_
   .simp only[iZ,pd,consX_a,nilX_a,va_a,shAt_0,shAt_s,Option.bind_some,pH,map_some,capL_2];rfl
   .simp only[NS,consX_a,e1,e2,nilX_a,Option.bind_some,capL_2];rfl
  show qC _ _ _ _ (.tup [.str (kdS g.1),rowD g.2])=_;simp only[stepF_a,wipe_cons,wipe_nil,HW,uJ,yy,gNm_a,tQ_a,set_cons_succ,set_cons_zero,length_cons,List.length_nil,Option.bind_some,if_true,e3]
 refine(yM (s:=(.deep,gI gs)) ?_ rfl (!2)).trans ?_
 .cases hg:gs with
  |nil=>rfl
  |cons g0 g1=>
   rw[<-hg];refine lx (ds:=gs.map ss) (by simp only[vw_some,vw_none,vw_nil,lsF_a,c1];rfl) rfl (by simp only[vw_some,vw_none,vw_nil,c1]) (KM (by rw[hg];simp)) ?_;show(ae _ _ _ _ _ _).bind _=_;simp only[vw_some,vw_none,vw_nil,c2,Option.bind_some];rfl
 .have cv:bz lev (x2 (va 1) (va 2)) [!(.adr y),!(lsD' ls),!(gI gs),none,none]=!(nh (levs ls gs)):=by
   simp only[clF_a,consX_a,nilX_a,va_a,shAt_0,shAt_s,Option.bind_some,e2,valO_some]
  have fc:HR lev (x2 (va 1) (va 2)) [!(.adr y),!(lsD' ls),!(gI gs),none,none]=qF (!(c,nh (levs ls gs))):=by
   simp only[fCl_a,consX_a,nilX_a,va_a,shAt_0,shAt_s,Option.bind_some,e2]
  have ev:∃c',l5 lev (x2 (va 1) (va 2)) [!(.sh,.adr y),!(.sh,lsD' ls),!(.sh,gI gs),none,none]=!((c',nh (levs ls gs)),[!(.sh,.adr y),!(.sh,lsD' ls),!(.sh,gI gs),none,none]):=by
   cases c with
   |sh=>exact absurd rfl hc
   |deep=>exact⟨.deep,evX_call cv rfl rfl fc⟩
   |top=>exact⟨.sh,oY cv rfl rfl fc rfl cv⟩
  let⟨c',ev⟩:=ev;refine(yM ev rfl (by show 1<900;decide)).trans ?_;refine(Gv rfl e1 rfl (by show 2<900;decide)).trans ?_;rfl
end K16
namespace K16
open PySem PySem.Spec PyProof.Rows L2
def  gi(fl:Str->Str->Bool):U1:=(gG (bb (aQ (ae [1] (jX af (ku fl "level_letters" (va 0))) (gNm 1) tQ (liF (x1 (va 1))))) (ae [1] (jX af (ku fl "level_letters" (va 0))) (gNm 1) tQ (liF (x1 (va 1)))) (fCo [1] (jX af (ku fl "level_letters" (va 0))) (gNm 1) tQ (frX (liF (x1 (va 1))) (l1F (x1 (va 1))) (fNo (x1 (va 1)))))))
def  dE(fl:Str->Str->Bool):U1:=(gG (bb (bn jB (x1 (aQ (ae [1] (jX af (ku fl "level_letters" (va 0))) (gNm 1) tQ (aa (!19) (cK (va 1)) (cI 1)))))) af (fNo (x1 (aQ (ae [1] (jX af (ku fl "level_letters" (va 0))) (gNm 1) tQ (aa (!19) (cK (va 1)) (cI 1))))))))
def Do{fl:Str->Str->Bool}(hfl:fl "Wish" "level_letters"=true)(ls:pB)(gs:List Gr):m8 fl "level_letters" (aZ ls gs)=!(nh (levs ls gs)):=by
 simp[m8,aZ,hfl];rfl
def sw(l:Vd):mI [aM l]=!(l.map D.int):=rfl
def KP(l:Vd):eB [aM l]=!(.int (l.length:Int)):=by
 simp only[bf,show seqD (aM l)=some (l.map D.int)from rfl,Option.bind_some,length_map]
def KQ{lv:List (Vd)}(h:lv≠[]):fw (lv.map aM)=false:=by
 cases lv with
 |nil=>exact absurd rfl h
 |cons g gs=>rfl
def  Gw(f:Fn):Prop:=∀(ls:pB)(gs:List Gr),(levs ls gs).length<=24->f [aZ ls gs]=!(.deep,nh (levs ls gs))
def Of{fl}(hfl:fl "Wish" "level_letters"=true):Gw (aK 1 2 (gi fl)):=λls gs h24=>by
 refine aj rfl ?_;show gi fl [!(.sh,aZ ls gs),none]=_;unfold gi;have hJ:jX af (ku fl "level_letters" (va 0)) [!(aZ ls gs),none]=!((levs ls gs).map aM):=by
  show(ku fl "level_letters" (va 0) [!(aZ ls gs),none]).bind seqD=_;simp only[CC,va_a,shAt_0,Option.bind_some,Do hfl];rfl
 have c1:ae [1] (jX af (ku fl "level_letters" (va 0))) (gNm 1) tQ (liF (x1 (va 1))) [!(aZ ls gs),none]=!((levs ls gs).map aM):=by
  refine aq (xs:=levs ls gs) (mk:=aM) (out:=aM) hJ (λl hl=>?_) (lt_big (!1));simp only[stepF_a,wipe_cons,wipe_nil,gNm_a,tQ_a,set_cons_succ,set_cons_zero,Option.bind_some,if_true,pd,consX_a,nilX_a,va_a,shAt_0,shAt_s,sw,map_some];rfl
 have c2:ae [1] (jX af (ku fl "level_letters" (va 0))) (gNm 1) tQ (frX (liF (x1 (va 1))) (l1F (x1 (va 1))) (fNo (x1 (va 1)))) [!(aZ ls gs),none]=!((levs ls gs).map aM):=by
  refine aq (xs:=levs ls gs) (mk:=aM) (out:=aM) hJ (λl hl=>?_) (lt_big (!1));have e2:frX (liF (x1 (va 1))) (l1F (x1 (va 1))) (fNo (x1 (va 1))) [!(aZ ls gs),!(aM l)]=!(aM l):=km (by simp only[pd,consX_a,nilX_a,va_a,shAt_0,shAt_s,Option.bind_some,sw,map_some]) (by simp only[yt,consX_a,nilX_a,va_a,shAt_0,shAt_s,Option.bind_some,sw]) (nL _);simp only[stepF_a,wipe_cons,wipe_nil,gNm_a,tQ_a,set_cons_succ,set_cons_zero,Option.bind_some,if_true,e2]
 refine q_ret (Y':=[!(.sh,aZ ls gs),none]) ?_;cases hg:levs ls gs with
 |nil=>
  rw[hg]at c1;exact evX_lfs (d:=nh []) (ds:=[]) (by simp only[vw_some,vw_none,vw_nil,lsF_a,c1];rfl) rfl (by simp only[vw_some,vw_none,vw_nil,c1];rfl) rfl
 |cons g0 g1=>
  rw[<-hg];refine lx (d:=nh (levs ls gs)) (ds:=(levs ls gs).map aM) (by simp only[vw_some,vw_none,vw_nil,lsF_a,c1];rfl) rfl (by simp only[vw_some,vw_none,vw_nil,c1]) (KQ (by rw[hg];simp)) ?_;show(ae _ _ _ _ _ _).bind _=_;simp only[vw_some,vw_none,vw_nil,c2,Option.bind_some];rfl
def  Gx(lv:List (Vd)):Bool:=lv.all λl=>decide (l.length=1)
def  Gy(f:Fn):Prop:=∀(ls:pB)(gs:List Gr),(levs ls gs).length<=24->f [aZ ls gs]=!(.deep,.bl (Gx (levs ls gs)))
def Og{fl}(hfl:fl "Wish" "level_letters"=true):Gy (aK 1 2 (dE fl)):=λls gs h24=>by
 refine aj rfl ?_;show dE fl [!(.sh,aZ ls gs),none]=_;unfold dE;have hJ:jX af (ku fl "level_letters" (va 0)) [!(aZ ls gs),none]=!((levs ls gs).map aM):=by
  show(ku fl "level_letters" (va 0) [!(aZ ls gs),none]).bind seqD=_;simp only[CC,va_a,shAt_0,Option.bind_some,Do hfl];rfl
 have c1:ae [1] (jX af (ku fl "level_letters" (va 0))) (gNm 1) tQ (aa (!19) (cK (va 1)) (cI 1)) [!(aZ ls gs),none]=!((levs ls gs).map λl=>.bl (decide (l.length=1))):=by
  refine aq (xs:=levs ls gs) (mk:=aM) (out:=λl=>.bl (decide (l.length=1))) hJ (λl hl=>?_) (lt_big (!1));simp only[stepF_a,wipe_cons,wipe_nil,gNm_a,tQ_a,set_cons_succ,set_cons_zero,Option.bind_some,if_true,bin2_a,biF_a,consX_a,nilX_a,va_a,shAt_0,shAt_s,KP,cI_a,jZ];by_cases h:l.length=1
  .simp[h]
  .have:¬ ((l.length:Int)=1):=by omega
   simp[h,this]
 refine q_ret (Y':=[!(.sh,aZ ls gs),none]) (evX_lf ?_ rfl);simp only[vw_some,vw_none,vw_nil,biF_a,consX_a,nilX_a,lsF_a,c1,map_some,Option.bind_some,cY];rfl
end K16
namespace K16
open PySem PySem.Spec PyProof.Rows L2
def  pI(mh:Fn):U1:=(ab (aw 4 tB) (ab (iq (jX (LJ (x1 (va 0))) (bn oX (x1 (va 0)))) (zu 2 (b8 (dk 5) (b8 (dk 6) lU))) (ab (dj (ai (aa ot (va 1) (aa ak (va 6) (cI 1)))) (ab (aw 7 (cm (EK (ai (aa (!19) (aa ak (va 6) (cI 0)) (cS "queue"))) (cI 1) (ng (cI 1))))) (ab (lV 4 (aQ (ae [8,9] (jX af (va 3)) (kc 2 (ao (gNm 8) (ao (gNm 9) bd))) tQ (bQ (x2 (aa av (aa aL (va 5) (va 2)) (bz mh (x3 (aa ak (va 6) (cI 0)) (va 2) (va 8)))) (aa aL (va 7) (va 9))))))) aE)) aE) aE)) (ab (uF 4) aE)))
def  sx(fl:Str->Str->Bool)(db bB:Fn):U1:=(ab (aw 3 (l5 bB (x1 (ca (ku fl "passes" (va 0)) cG (au (va 2)))))) (ab (aw 4 (bb (aQ (cJ (x1 (bQ (x2 (aa cb (va 3) (cI 1)) (cI 1)))))) (cJ (x1 (bQ (x2 (aa cb (va 3) (cI 1)) (cI 1))))) (CA (x1 (frX (bQ (x2 (aa cb (va 3) (cI 1)) (cI 1))) af (vx (x2 (frX (aa cb (va 3) (cI 1)) af af) (frX (cI 1) af af)))))))) (ab (iq (jX af (ca (ku fl "passes" (va 0)) (au (va 2)) cG)) (dk 5) (ab (aw 4 (l5 db (x4 (va 5) (va 1) (va 3) (va 4)))) (ab (aw 3 (cm (aa aL (va 3) (cK (va 5))))) aE))) (gG (bb (D7 (!16) (wM (!16))) (wM (!16)) (fNo (!16)))))))
def  qd(bZ jy a7:Fn):U1:=(ab (jW (bz a7 (x2 (va 0) (va 1)))) (ab (aw 3 (l5 jy (x2 (va 1) (va 2)))) (gG (bb (aQ (ae [4,5] (jX af (bz bZ (x3 (va 0) (aa ak (aa ak (va 1) (va 2)) (cI 0)) (aa ak (aa ak (va 1) (va 2)) (cI 1))))) (kc 2 (ao (gNm 4) (ao (gNm 5) bd))) tQ (bQ (x2 (va 4) (aa aL (va 5) (va 3)))))) (ae [4,5] (jX af (bz bZ (x3 (va 0) (aa ak (aa ak (va 1) (va 2)) (cI 0)) (aa ak (aa ak (va 1) (va 2)) (cI 1))))) (kc 2 (ao (gNm 4) (ao (gNm 5) bd))) tQ (bQ (x2 (va 4) (aa aL (va 5) (va 3))))) (fCo [4,5] (jX af (bz bZ (x3 (va 0) (aa ak (aa ak (va 1) (va 2)) (cI 0)) (aa ak (aa ak (va 1) (va 2)) (cI 1))))) (kc 2 (ao (gNm 4) (ao (gNm 5) bd))) tQ (frX (bQ (x2 (va 4) (aa aL (va 5) (va 3)))) af (vx (x2 (frX (va 4) af af) (frX (aa aL (va 5) (va 3)) af af)))))))))
def w6(S:List Sd):fw (S.map dm)=true:=ck λd hd=>by
 let⟨p,_,rfl⟩:=Vz.mp hd;rfl
def Dp(h:p[k]?=!a):jF p k=a:=by unfold jF;rw[List.getD_eq_getElem?_getD,h];rfl
def Ah{S:List Sd}(i:Nat):((List.range i).flatMap λk=>if s<=(jF p k).2 then S.map (b9 n k (jF p k))else[]).length<=i*S.length:=by
 induction i with
 |zero=>exact Nat.le_of_eq (by simp)
 |succ i g=>
  rw[List.range_succ,List.flatMap_append,length_append,Nat.succ_mul];have:(List.flatMap (λk=>if s<=(jF p k).2 then S.map (b9 n k (jF p k))else[]) [i]).length<=S.length:=by
   rw[List.flatMap_cons,List.flatMap_nil,List.append_nil];split
   .rw[length_map];exact VI _
   .exact Nat.zero_le _
  omega
def  sy(f:Fn):Prop:=∀(p:List Pk)(s:Int)(n:Nat)(S:List Sd),p.length<=6->n<=1000->S.length<=1000->f [eg p,.int s,.int (n:Int),.lst (S.map dm)]=!(.deep,.lst ((De s n p S).map dm))
def Dq(hl:qO la):sy (aK 4 10 (pI la)):=λp s n S hp hn hS=>by
 refine aj rfl ?_;refine q_set (evX_lfs (d:=.lst []) (by simp) rfl (by simp) rfl) (q_forB (xs:=p.zipIdx) (mk:=λq=>.tup [.int (q.2:Nat),kx q.1])
  (λi Y=>∃o5 o6 o7,Y=[!_,!_,!(.sh,.int (n:Int)),!(.sh,.lst _),!(.deep,.lst (((List.range i).flatMap λk=>if s<=(jF p k).2 then S.map (b9 n k (jF p k))else[]).map dm)),o5,o6,o7,none,none]) ?_ ⟨none,none,none,rfl⟩ ?_ ?_)
 .refine N5 ?_;show(seqD (eg p)).bind (λxs=>!(mN xs))=_;rw[show seqD (eg p)=some _ from rfl,Option.bind_some,qQ]
 .rintro i ⟨⟨b,w⟩,j⟩ Y hq ⟨o5,o6,o7,rfl⟩;obtain⟨hq1,hq2⟩:p[i]?=!(b,w)/\i=j:=by
   rw[List.getElem?_zipIdx]at hq;cases e:p[i]? with
   |none=>rw[e]at hq;cases hq
   |some a=>rw[e]at hq;cases hq;exact⟨rfl,by simp⟩
  subst hq2;have hi:=(Vq.mp hq1).1;have pk:=Dp hq1;have x0:ak (kx (b,w)) (.int 0)=!_:=qL _ _;have x1:ak (kx (b,w)) (.int 1)=!_:=uI _ _ _;have e1:((List.range (i+1)).flatMap λk=>if s<=(jF p k).2 then S.map (b9 n k (jF p k))else[])=((List.range i).flatMap λk=>if s<=(jF p k).2 then S.map (b9 n k (jF p k))else[])++(if s<=w then S.map (b9 n i (b,w))else[]):=by
   rw[List.range_succ,List.flatMap_append];simp[pk]
  have hlen:=Ah (s:=s) (n:=n) (p:=p) (S:=S) i;have hlen2:i*S.length<=6*1000:=Nat.mul_le_mul (!1) hS;rw[e1];generalize ((List.range i).flatMap λk=>if s<=(jF p k).2 then S.map (b9 n k (jF p k))else[])=T at hlen;by_cases hw:s<=w
  .rw[if_pos hw];obtain⟨t,ht,ht1⟩:∃t:Int,(if b then 1 else -1)=t/\(t=1\/t= -1):=⟨_,rfl,by cases b<;>simp⟩;have mi:aL (.int (i:Int)) (.int (n:Int))=!(.int ((i:Int)*(n:Int))):=eU (!1) (!1);refine uV (b:=true) (by simp[vw_o,x1,hw]) ⟨_,q_set (evX_lf (d:=.int t) ?_ rfl) (q_st (l0 (es:=(S.map (b9 n i (b,w))).map dm) rfl ?_ (w6 _) ?_) rfl),⟨_,rfl,⟨!(.sh,.int (i:Int)),!(.sh,kx (b,w)),!(.deep,.int t),?_⟩⟩⟩
   .simp only[set_cons_succ,set_cons_zero,vw_o,vw_nil,map_some,yu,testB_a,bin2_a,va_a,shAt_s,shAt_0,shAt_1,cI_a,cS_a,Option.bind_some,x0,yx,asB_bl];cases b with
    |true=>
     have e:decide (kd true="queue")=true:=by decide+kernel
     simp only[e];subst ht;rfl
    |false=>
     have e:decide (kd false="queue")=false:=by decide+kernel
     simp only[e];subst ht;rfl
   .have hc:ae [8,9] (jX af (va 3)) (kc 2 (ao (gNm 8) (ao (gNm 9) bd))) tQ (bQ (x2 (aa av (aa aL (va 5) (va 2)) (bz la (x3 (aa ak (va 6) (cI 0)) (va 2) (va 8)))) (aa aL (va 7) (va 9))))
      [!(eg p),!(.int s),!(.int (n:Int)),!(.lst (S.map dm)),none,!(.int (i:Int)),!(kx (b,w)),!(.int t),none,none]=!(S.map λc=>dm (b9 n i (b,w) c)):=by
     refine aq (mk:=dm) (by simp) (λc _=>?_) (Vw hS (!2))
     have mt:aL (.int t) (.int c.2)=!(.int _):=sf (!1) (!1)
     simp[dm,mi,x0,hl b (n:Int) c.1,mt]
     cases b with
     |true=>subst ht;simp[b9,HY]
     |false=>subst ht;simp[b9,HY]
    show aQ _ [!(eg p),!(.int s),!(.int (n:Int)),!(.lst (S.map dm)),none,!(.int (i:Int)),!(kx (b,w)),!(.int t),none,none]=_;rw[lsF_a,hc,List.map_map];rfl
   .rw[length_map,length_map,length_map];exact Vw (show T.length+S.length<=10000 by omega) (!2)
   .rw[List.map_append];rfl
  .rw[if_neg hw];refine uV (b:=false) (by simp[vw_o,x1,hw]) ⟨_,rfl,⟨_,rfl,⟨!(.sh,.int (i:Int)),!(.sh,kx (b,w)),o7,?_⟩⟩⟩;rw[List.append_nil];rfl
 .rintro Y ⟨o5,o6,o7,rfl⟩;rw[List.length_zipIdx];rfl
def  w9(f:Fn):Prop:=∀(ps:U4)(s:Int)(t:Nat),Valid ps->prod ps<64->t<=ps.length->∃T:List Sd,T.Perm (vz s (prod (ps.take t)) (!5))/\T.Pairwise (λa b=>HT.lexLt [b.1,b.2] [a.1,a.2]=false)/\f [aA ps,.int s,.int (t:Int)]=!(.deep,.lst (T.map dm))
def ju{α:Type}(l:List α)(t i:Nat)(a:α)(h:(l.drop t)[i]?=!a):(l.drop t).take (i+1)=(l.drop t).take i++[a]:=by rw[List.take_add_one,h];rfl
def lA(ps:U4)(t i:Nat):prod (ps.take t)*prod ((!5).take i)=prod (ps.take (t+i)):=by rw[<-bR,List.take_add]
def nM(l:Valid ps)(k:Nat):prod (ps.take k)<=prod ps:=by
 have e:prod ps=prod (ps.take k)*prod (ps.drop k):=by rw[<-bR,List.take_append_drop]
 have h1:1<=prod (ps.drop k):=by
  have:∀g:U4,(∀p∈g,p∈ps)->1<=prod g:=λg=>by
   induction g with
   |nil=>intro _;decide
   |cons p g j=>intro h;exact Nat.mul_pos (l.p (h p Vr)).1 (j λq o=>h q (Vs _ o))
  exact this _ λp r=>List.mem_of_mem_drop r
 rw[e];exact Nat.le_mul_of_pos_right _ h1
def u7(l:Valid ps)(t i:Nat):1<=prod ((!5).take i):=by
 have:∀g:U4,(∀p∈g,p∈ps)->1<=prod g:=λg=>by
  induction g with
  |nil=>intro _;decide
  |cons p g j=>intro h;exact Nat.mul_pos (l.p (h p Vr)).1 (j λq o=>h q (Vs _ o))
 grind
def Dr(g:Valid ps)(s:Int)(t i:Nat):(vz s (prod (ps.take t)) ((!5).take i)).length<=prod ps:=by
 refine Vx (Gm _ _ _) ?_;have h1:1<=prod (ps.take t):=by have:=u7 g 0 t;rwa [List.drop_zero]at this
 refine Vx ?_ (Vx (Nat.le_of_eq (lA ps t i)) (nM g (t+i)));exact Nat.le_mul_of_pos_left _ h1
def RZ(g:j "Mill" "passes"=true){t:Nat}(h0:bx Y 0=!(aA ps))(h1:bx Y 2=!(.int (t:Int))):ca (ku j "passes" (va 0)) cG (au (va 2)) Y=!(.tup ((ps.take t).map eg)):=by
 unfold ca aW rH;simp[h0,h1,lq g,az,i7]
def R0(g:j "Mill" "passes"=true){t:Nat}(h0:bx Y 0=!(aA ps))(h1:bx Y 2=!(.int (t:Int))):ca (ku j "passes" (va 0)) (au (va 2)) cG Y=!(.tup ((!5).map eg)):=by
 unfold ca aW rH;simp[h0,h1,lq g,az,i6]
def Ai(C:ki co)(t:∀p∈ps,p.length<1000):co [.tup (ps.map eg)]=!(.deep,.int (prod ps:Nat)):=by
 have l:(ps.map λp=>(false,p)).map (·.2)=ps:=by rw[List.map_map];exact List.map_id ps
 have j:(ps.map λp=>(false,p)).map tz=ps.map eg:=by rw[List.map_map];rfl
 have q:=C false (ps.map λp=>(false,p)) λp g=>by
  let⟨r,o,rfl⟩:=Vz.mp g;exact t r o
 rw[l,j]at q;exact q
def Gz(hfl:fl "Mill" "passes"=true)(hsb:sy sb)(hco:ki co):w9 (aK 3 6 (sx fl sb co)):=λps s t hv h64 ht=>by
 have hs:aH 6 [aA ps,.int s,.int (t:Int)]=[!_,!_,!(.sh,.int (t:Int)),none,none,none]:=rfl;obtain⟨n0,hn0⟩:∃n,n=prod (ps.take t):=⟨_,rfl⟩;have ec:co [.tup ((ps.take t).map eg)]=!(.deep,.int (n0:Nat)):=by rw[hn0];exact Ai hco λp hp=>by have:=(hv.p (List.mem_of_mem_take hp)).2.1;omega
 have hle:∀i,n0*prod ((!5).take i)<=prod ps:=λi=>by rw[hn0,lA];exact nM hv _
 have hsl:∀i,(vz s n0 ((!5).take i)).length<=prod ps:=λi=>by rw[hn0];exact Dr hv s t i
 let⟨T,h1,h2,h3⟩:=Gj (S:=vz s n0 (!5)) (by have:=hsl (!5).length;rw[List.take_length]at this;omega);rw[<-hn0];refine⟨T,h1,h2,aj rfl ?_⟩;rw[hs];refine q_set (evX_lf (d:=.int (n0:Int)) ?_ rfl) (q_set (evX_lfs (d:=.lst [dm ((n0:Int)-1,1)]) (ds:=[dm ((n0:Int)-1,1)]) ?_ rfl ?_ rfl) (q_forB (xs:=ps.drop t) (mk:=eg)
  (λi Y=>∃o5,Y=[!(.sh,aA ps),!(.sh,.int s),!(.sh,.int (t:Int)),!(.deep,.int ((n0*prod ((!5).take i):Nat):Int)),!(.deep,.lst ((vz s n0 ((!5).take i)).map dm)),o5]) ?_ ⟨none,?_⟩ ?_ ?_))
 .have e:=RZ hfl (Y:=[!(aA ps),!(.int s),!(.int (t:Int)),none,none,none]) rfl rfl;simp only[vw_some,vw_none,vw_nil,clF_a,consX_a,nilX_a,e,Option.bind_some,ec,valO_some]
 .simp[dm]
 .simp[dm]
 .show jX af _ (di _)=_;rw[bA,R0 hfl rfl rfl];rfl
 .have e:n0*prod ((!5).take 0)=n0:=Nat.mul_one n0;rw[e];rfl
 .rintro i p Y hp ⟨o5,rfl⟩;have hpm:=List.mem_of_mem_drop (VH hp);have hl6:=(hv.p hpm).2.1;have hb:=hle i;have e:=hsb p s (n0*prod ((!5).take i)) (vz s n0 ((!5).take i)) hl6 (!1) (by have:=hsl i;omega);rw[<-Dg,<-ju ps t i p hp]at e;refine⟨_,q_set (evX_call (d:=.lst ((vz s n0 ((!5).take (i+1))).map dm)) (e:=.lst ((vz s n0 ((!5).take (i+1))).map dm)) ?_ rfl rfl ?_) (q_set (evX_lf (d:=.int ((n0*prod ((!5).take i)*p.length:Nat):Int)) ?_ rfl) rfl),⟨!(.sh,eg p),?_⟩⟩
  .simp only[set_cons_succ,set_cons_zero,vw_o,vw_nil,map_some,clF_a,consX_a,nilX_a,va_a,shAt_s,shAt_0,shAt_1,Option.bind_some,e,valO_some]
  .simp only[set_cons_succ,set_cons_zero,vw_o,vw_nil,map_some,fCl_a,consX_a,nilX_a,va_a,shAt_s,shAt_0,shAt_1,Option.bind_some,e,wO]
  .have y:seqD (eg p)=!_:=rfl;simp only[set_cons_succ,set_cons_zero,vw_o,vw_nil,map_some,bin2_a,biF_a,consX_a,nilX_a,va_a,shAt_s,shAt_0,shAt_1,Option.bind_some,bf,y,length_map,C0 (show n0*prod ((!5).take i)<1000000 by omega)]
  .rw[ju ps t i p hp,dD,<-Nat.mul_assoc];rfl
 .rintro Y ⟨o5,rfl⟩;rw[List.take_length];have s1:wM (!16) (vw [!(.sh,aA ps),!(.sh,.int s),!(.sh,.int (t:Int)),!(.deep,.int ((n0*prod (!5):Nat):Int)),!(.deep,.lst ((vz s n0 (!5)).map dm)),o5])=!(T.map dm):=by
   show(x1 (va 4) _).bind cX=_;simp only[vw_o,vw_nil,map_some,consX_a,nilX_a,va_a,shAt_s,shAt_0,Option.bind_some,h3]
  refine q_ret (evX_lfs (mT s1) rfl s1 (w6 T))
noncomputable abbrev Lz:=Int×Nat
def  yN(l:Lz):D:=.tup [.int l.1,.int (l.2:Int)]
def  aC(ls:List Lz):D:=.lst (ls.map yN)
structure LzOk(ps:U4)(l:Lz):Prop where
 s1:1<=l.1
 s9:l.1<=9
 t:l.2<=ps.length
def  pJ(f:Fn):Prop:=∀(ps:U4)(l:Lz),LzOk ps l->f [aA ps,yN l]=!(.deep,.bl true)
def Aj(p:yB j)(o:CP g):pJ (aK 2 2 (uU j g)):=λps l h=>by
 refine aj rfl ?_;refine(ar ((dX ?_).trans rfl)).trans (aS (bo (evX_lf ?_ rfl)))
 .simp[aH,yN]
 .simp[aH,yN,o l.1,p ps l.2 h.t,h.s1,h.s9]
def  sA(f:Fn):Prop:=∀(ps:U4)(ls:List Lz),ls.length<=24->(∀l∈ls,LzOk ps l)->f [aA ps,aC ls]=!(.deep,.non)
def GA(r:pJ le):sA (aK 2 3 (lw le)):=λps ls j h=>by
 have o:aH 3 [aA ps,aC ls]=[!_,!_,none]:=rfl;refine lm rfl (Y:=aH 3 [aA ps,aC ls]) ?_;rw[o];refine(ar ((dX ?_).trans rfl)).trans ((ar ((dX ?_).trans rfl)).trans rfl)
 .have h':¬ (24:Int)<(ls.length:Int):=by omega
  simp[aC,h']
 .have p:ae [2] (jX af (va 1)) (gNm 2) tQ (bz le (x2 (va 0) (va 2))) [!(aA ps),!(aC ls),none]=!(ls.map λ_=>.bl true):=by
   refine aq (mk:=yN) (by simp[aC]) (λl g=>?_) (Vw j (!2));simp[r ps l (h l g)]
  simp[p,cY ls λ_=>true]
def Ds{k:Nat}(h:ls[k]?=!l):ak (aC ls) (.int (k:Int))=!(yN l):=aY h
def  xa(f:Fn):Prop:=∀(ls:List Lz)(k:Nat)(l:Lz),ls.length<=24->ls[k]?=!l->f [aC ls,.int (k:Int)]=!(.deep,.int ((k:Int)+(ls.length:Int)*(l.2:Int)))
def GB:xa (aK 2 2 z9):=λls k l h24 hk=>by
 have hs:aH 2 [aC ls,.int (k:Int)]=[!_,!(.sh,.int (k:Int))]:=rfl;have x1:ak (yN l) (.int 1)=!(.int (l.2:Int)):=uI _ _ _;have y1:=Ds hk;have y3:seqD (aC ls)=!_:=rfl;refine aj rfl ?_;rw[hs];refine aS (bo (evX_lf ?_ rfl));simp only[vw_some,vw_none,vw_nil,biF_a,consX_a,nilX_a,bin2_a,va_a,shAt_s,shAt_0,shAt_1,cI_a,Option.bind_some,y1,x1,y3,bf,length_map,wW (show ls.length<1000000 by omega),addD_ii]
abbrev u8(ls:List Lz)(k:Nat)(l:Lz):Int:=(k:Int)+(ls.length:Int)*(l.2:Int)
def  xc(f:Fn):Prop:=∀(ps:U4)(ls:List Lz)(k:Nat)(l:Lz),Valid ps->prod ps<64->ls.length<=24->(∀l∈ls,LzOk ps l)->ls[k]?=!l->
 ∃T:List Sd,T.Perm (vz l.1 (prod (ps.take l.2)) (ps.drop l.2))/\T.Pairwise (λa b=>HT.lexLt [b.1,b.2] [a.1,a.2]=false)/\f [aA ps,aC ls,.int (k:Int)]=!(.deep,.lst ((T.map (D9 (u8 ls k l))).map dm))
def Dt(j:Valid ps)(g:ls.length<=24)(h:LzOk ps l)(o:ls[k]?=!l):0<=u8 ls k l/\u8 ls k l<1000:=by
 have h1:=(Vq.mp o).1;have h2:=h.t;have r:=j.len;have p:ls.length*l.2<=24*6:=Nat.mul_le_mul g (!1);unfold u8;omega
def GC{os rk lo}(hos:w9 os)(hrk:xa rk)(hlo:sA lo):xc (aK 3 6 (qd os rk lo)):=λps ls k l hv h64 h24 h hk=>by
 have hs:aH 6 [aA ps,aC ls,.int (k:Int)]=[!_,!_,!(.sh,.int (k:Int)),none,none,none]:=rfl;have hl:=h l (VH hk);let⟨T,h1,h2,h3⟩:=hos ps l.1 l.2 hv h64 hl.t;have x0:ak (yN l) (.int 0)=!_:=qL _ _;have x1:ak (yN l) (.int 1)=!(.int (l.2:Int)):=uI _ _ _;have y1:=Ds hk;have hr:=Dt hv h24 hl hk;have er:=hrk ls k l h24 hk;have hT:T.length<big:=by
  rw[h1.length_eq];refine Vw (?_:_<=1000) (!2);have:=Dr hv l.1 l.2 (ps.drop l.2).length;rw[List.take_length]at this;omega
 have hc:ae [4,5] (jX af (bz os (x3 (va 0) (aa ak (aa ak (va 1) (va 2)) (cI 0)) (aa ak (aa ak (va 1) (va 2)) (cI 1))))) (kc 2 (ao (gNm 4) (ao (gNm 5) bd))) tQ (bQ (x2 (va 4) (aa aL (va 5) (va 3))))
   [!(aA ps),!(aC ls),!(.int (k:Int)),!(.int (u8 ls k l)),none,none]=!(T.map λc=>dm (D9 (u8 ls k l) c)):=by
  refine aq (mk:=dm) ?_ (λc _=>?_) hT
  .simp only[bA,clF_a,consX_a,nilX_a,bin2_a,va_a,shAt_s,shAt_0,shAt_1,cI_a,Option.bind_some,y1,x0,x1,h3,valO_some,CF]
  .have m:aL (.int c.2) (.int (u8 ls k l))=!(.int _):=eU (!1) (!1);simp[dm,D9,m]
 refine⟨T,h1,h2,aj rfl ?_⟩;rw[hs];refine pz (d:=.non) ?_ (q_set (evX_lf (d:=.int (u8 ls k l)) ?_ rfl) (q_ret (evX_lfs (d:=.lst ((T.map (D9 (u8 ls k l))).map dm)) ?_ rfl ?_ (w6 _))))
 .simp only[vw_some,vw_none,vw_nil,clF_a,consX_a,nilX_a,va_a,shAt_s,shAt_0,shAt_1,Option.bind_some,hlo ps ls h24 h,valO_some]
 .simp only[vw_some,vw_none,vw_nil,clF_a,consX_a,nilX_a,va_a,shAt_s,shAt_0,shAt_1,Option.bind_some,er,valO_some]
 .show aQ _ [!(aA ps),!(aC ls),!(.int (k:Int)),!(.int (u8 ls k l)),none,none]=_;rw[lsF_a,hc,List.map_map];rfl
 .show ae _ _ _ _ _ [!(aA ps),!(aC ls),!(.int (k:Int)),!(.int (u8 ls k l)),none,none]=_;rw[hc,List.map_map];rfl
end K16
namespace K16
open PySem PySem.Spec PyProof.Rows L2
def  mX(fl:Str->Str->Bool)(mh:Fn)(mt_codes:MT)(kk:Nat)(aD dc:Fn):U1:=(ab (jW (bz dc (x2 (va 0) (va 1)))) (ab (dj (cP (mP (bz aD (x3 (va 2) (cI 0) (aa cb (wL (va 0) ax mt_codes kk "codes") (cI 1)))))) (ab noO' aE) aE) (ab (aw 3 tB) (ab (aw 4 (cm (wL (va 0) ax mt_codes kk "codes"))) (ab (aw 5 (cm (va 2))) (ab (iq (jX (NM (x1 (ca (ku fl "passes" (va 0)) (au (va 1)) cG))) (bn oX (x1 (ca (ku fl "passes" (va 0)) (au (va 1)) cG)))) (dk 6) (ab (aw 4 (cm (aa cO (va 4) (cK (va 6))))) (ab (aw 7 (cm (aa cO (va 5) (va 4)))) (ab (aw 5 (l5 mh (x3 (aa ak (aa ak (va 6) (va 7)) (cI 0)) (va 4) (aa cb (va 5) (aa aL (va 7) (va 4)))))) (ab (m9 3 7 (cm (va 7)) (va 7)) aE))))) (ab (dj (ai (aa (aB true) (va 5) (aa cb (va 4) (cI 1)))) (gG (cm cN)) aE) (gG (bb (Ux (x1 (va 3))) af (fNo (x1 (bn oX (x1 (va 3))))))))))))))
def  gX(fl:Str->Str->Bool)(bB:Fn):U1:=(gG (l5 bB (x1 (ku fl "passes" (va 0)))))
def  Ta(mt:MT)(k:Nat):Prop:=∀ps:U4,Valid ps->iY mt k "codes" (aA ps) []=!(.deep,.int (prod ps:Nat))
def R1(hfl:fl "Mill" "passes"=true)(hc:ki co)(hv:Valid ps):aK 1 1 (gX fl co) [aA ps]=!(.deep,.int (prod ps:Nat)):=by
 have fm:m8 fl "passes" (aA ps)=!(az ps):=by simp[m8,aA,hfl]
 have hp:co [az ps]=!(.deep,.int (prod ps:Nat)):=zW hc ps λp hp=>by have:=(hv.p hp).2.1;omega
 refine aj rfl ?_;show gX fl co [!(.sh,aA ps)]=_;refine q_ret (evX_lf ?_ rfl);simp_all
def Oh(h:(xs Y).bind Pw=!ds):jX (NM xs) R Y=!ds:=by
 unfold jX aW NM;simp[h]
def  layN(q:Bool)(a c:Nat):Nat:=if q=true then c else a-1-c
def yO(q:Bool)(h:c<a):layN q a c<a:=by unfold layN;split<;>omega
def Du(q:Bool){a c:Nat}(h:c<a):HY q (a:Int) (c:Int)=((layN q a c:Nat):Int):=by
 unfold HY layN;split<;>omega
def GD(q:Bool){a c:Nat}(h:c<a):HY q (a:Int) ((layN q a c:Nat):Int)=(c:Int):=by
 unfold HY layN;split<;>omega
def  Eb(s:Nat×Nat×List Nat)(p:List Pk):Nat×Nat×List Nat:=(s.1/p.length,layN (pkAt (s.2.1/(s.1/p.length),p)).1 (s.1/p.length) (s.2.1%(s.1/p.length)),s.2.2++[s.2.1/(s.1/p.length)])
def  Ap(s:Nat×Nat×List Nat)(rs:U4):Nat×Nat×List Nat:=rs.foldl Eb s
def u9(s)(g:U4)(i:Nat)(p)(h:g[i]?=!p):Ap s (g.take (i+1))=Eb (Ap s (g.take i)) p:=by
 unfold Ap;rw[List.take_succ,h];simp
def nN:∀{ps:U4},(∀p∈ps,1<=p.length)->1<=prod ps
 |[],_=>VI 1
 |p::r,h=>Nat.mul_le_mul (h p (Vr ..)) (nN λq hq=>h q (Vs _ hq))
def sC(g:Valid ps)(k:Nat):1<=prod (ps.take k)/\prod (ps.take k)<=1000/\prod ps=prod (ps.take k)*prod (ps.drop k):=by
 have h1:1<=prod (ps.take k):=nN λp j=>(g.p (List.mem_of_mem_take j)).1;have h2:1<=prod (ps.drop k):=nN λp j=>(g.p (List.mem_of_mem_drop j)).1;have r:prod ps=prod (ps.take k)*prod (ps.drop k):=by rw[<-bR,List.take_append_drop]
 have o:=g.codes;have l:prod (ps.take k)*1<=prod (ps.take k)*prod (ps.drop k):=Nat.mul_le_mul_left _ h2;grind
def rev_at{ps:U4}(h:(!5).reverse[i]?=!p):i+t<ps.length/\ps[ps.length-1-i]?=!p:=by grind
structure BkOk(ps:U4)(c i:Nat)(s:Nat×Nat×List Nat):Prop where
 a:s.1=prod (ps.take (ps.length-i))
 l:s.2.1<s.1
 n:s.2.2.length=i
 w:∀q∈s.2.2.reverse.zip (ps.drop (ps.length-i)),q.1<q.2.length
 c:HZ ((s.1:Nat),(s.2.1:Nat)) (s.2.2.reverse.zip (ps.drop (ps.length-i)))=(((prod ps:Nat):Int),(c:Int))
def yP(o:Valid ps)(ok:BkOk ps c i s)(g:(!5).reverse[i]?=!p):
  s.1/p.length=prod (ps.take (ps.length-(i+1)))/\s.1=s.1/p.length*p.length/\0<s.1/p.length/\s.1/p.length<=1000/\s.2.1/(s.1/p.length)<p.length/\s.2.1%(s.1/p.length)<s.1/p.length:=by
 let⟨hi,g⟩:=rev_at g
 have J:=o.p (VH g)
 have C:ps.length-i=(ps.length-1-i)+1:=by omega
 have e2:ps.length-(i+1)=ps.length-1-i:=by omega
 have j:s.1=prod (ps.take (ps.length-1-i))*p.length:=by rw[ok.a,C,List.take_succ,g,Option.toList_some,dD]
 have I:=sC o (ps.length-1-i)
 have r:s.1/p.length=prod (ps.take (ps.length-1-i)):=by rw[j];exact Nat.mul_div_cancel _ (!1)
 rw[r,e2]
 refine⟨rfl,j,by omega,by omega,?_,Nat.mod_lt _ (!1)⟩
 have:=ok.l
 rw[j]at this
 exact Nat.div_lt_of_lt_mul this
def GE(C:Valid ps)(ok:BkOk ps c i s)(l:(!5).reverse[i]?=!p):BkOk ps c (i+1) (Eb s p):=by
 let⟨h1,h2,h3,h4,J,o⟩:=yP C ok l;let⟨hi,g⟩:=rev_at l;have e2:ps.length-(i+1)=ps.length-1-i:=by omega
 have e1:ps.length-i=(ps.length-1-i)+1:=by omega
 have U:ps.drop (ps.length-(i+1))=p::ps.drop (ps.length-i):=by
  rw[e2,e1];have I:ps.length-1-i<ps.length:=by omega
  rw[List.drop_eq_getElem_cons];rw[getElem?_eq_getElem I]at g;cases g;rfl
 have T:(s.2.2++[s.2.1/(s.1/p.length)]).reverse=(s.2.1/(s.1/p.length))::s.2.2.reverse:=by rw[List.reverse_append];rfl
 have r:(Eb s p).2.2.reverse.zip (ps.drop (ps.length-(i+1)))=(s.2.1/(s.1/p.length),p)::s.2.2.reverse.zip (ps.drop (ps.length-i)):=by
  show(s.2.2++[s.2.1/(s.1/p.length)]).reverse.zip _=_;rw[T,U,List.zip_cons_cons]
 refine⟨h1,yO _ o,?_,?_,?_⟩
 .show(s.2.2++[s.2.1/(s.1/p.length)]).length=i+1;rw[length_append,ok.n];rfl
 .rw[r];intro q j;rcases mem_cons.mp j with rfl|j
  .exact J
  .exact ok.w q j
 .rw[r,<-ok.c];show HZ (P5 (((s.1/p.length:Nat):Int),((layN (pkAt (s.2.1/(s.1/p.length),p)).1 (s.1/p.length) (s.2.1%(s.1/p.length)):Nat):Int)) (s.2.1/(s.1/p.length),p)) _=_;have es:P5 (((s.1/p.length:Nat):Int),((layN (pkAt (s.2.1/(s.1/p.length),p)).1 (s.1/p.length) (s.2.1%(s.1/p.length)):Nat):Int)) (s.2.1/(s.1/p.length),p)=(((s.1:Nat):Int),((s.2.1:Nat):Int)):=by
   unfold P5;rw[GD _ o];refine Prod.ext ?_ ?_
   .show(((s.1/p.length:Nat):Int))*((p.length:Nat):Int)=_;rw[<-Int.natCast_mul,<-h2]
   .show(((s.2.1/(s.1/p.length):Nat):Int))*((s.1/p.length:Nat):Int)+((s.2.1%(s.1/p.length):Nat):Int)=((s.2.1:Nat):Int);rw[<-Int.natCast_mul,<-Int.natCast_add,Nat.div_add_mod']
  rw[es]
def R3(hc:c<prod ps):BkOk ps c 0 (prod ps,c,[]):=by
 refine⟨by rw[Nat.sub_zero,List.take_length],hc,rfl,λq hq=>?_,rfl⟩;simp_all
def Dv(hv:Valid ps)(hc:c<prod ps)(t:Nat):∀i,i<=ps.length-t->BkOk ps c i (Ap (prod ps,c,[]) ((!5).reverse.take i))
 |0,_=>R3 hc
 |i+1,h=>by
  have hi:i<(!5).reverse.length:=by rw[List.length_reverse,List.length_drop];omega
  rw[u9 _ _ _ _ (getElem?_eq_getElem hi)];exact GE hv (Dv hv hc t i (!1)) (getElem?_eq_getElem hi)
abbrev sW(ps:U4)(t c:Nat)(ws:Vb)(A L:Nat)(o6 o7:U6):Ev:=[sn (aA ps),sn (iN t),sn (iN c),dp (rowD ws),dp (iN A),dp (iN L),o6,o7]
abbrev FB(la:Fn):U1:=ab (aw 4 (cm (aa cO (va 4) (cK (va 6))))) (ab (aw 7 (cm (aa cO (va 5) (va 4)))) (ab (aw 5 (l5 la (x3 (aa ak (aa ak (va 6) (va 7)) (cI 0)) (va 4) (aa cb (va 5) (aa aL (va 7) (va 4)))))) (ab (m9 3 7 (cm (va 7)) (va 7)) aE)))
def cw_step(hl:qO la)(hv:Valid ps)(ok:BkOk ps c i s)(hp:(!5).reverse[i]?=!p)(o6 o7:U6):
  ∃q6 q7,(dk 6 (eg p) (sW ps t c s.2.2 s.1 s.2.1 o6 o7)).bind (FB la)=!(.nx (sW ps t c (Eb s p).2.2 (Eb s p).1 (Eb s p).2.1 q6 q7)):=by
 let⟨h1,h2,h3,h4,h5,h6⟩:=yP hv ok hp
 let⟨hi,hp'⟩:=rev_at hp
 have h66:=hv.len
 have hq:=hv.p (VH hp')
 let⟨A,L,ws⟩:=s
 have hn:=ok.n
 have eA:(A:Int)/(p.length:Int)=((A/p.length:Nat):Int):=rfl
 have eK:(L:Int)/((A/p.length:Nat):Int)=((L/(A/p.length):Nat):Int):=rfl
 show∃q6 q7,_=!(Out.nx (sW ps t c (ws++[L/(A/p.length)]) (A/p.length) (layN (pkAt (L/(A/p.length),p)).1 (A/p.length) (L%(A/p.length))) q6 q7))
 have eM:(L:Int)-((L/(A/p.length):Nat):Int)*((A/p.length:Nat):Int)=((L%(A/p.length):Nat):Int):=by
  have:=Nat.div_add_mod' L (A/p.length);have e:((L/(A/p.length):Nat):Int)*((A/p.length:Nat):Int)=((L/(A/p.length)*(A/p.length):Nat):Int):=(Int.natCast_mul _ _).symm;rw[e];omega
 generalize hB:A/p.length=B at*
 generalize hk:L/B=k at*
 have e0:∀q:Pk,ak (kx q) (.int 0)=!(.str _):=λq=>qL _ _
 have e6:ak (eg p) (iN k)=!(kx _):=N2 (q:=(k,p)) h5
 have e7:seqD (eg p)=!_:=rfl
 have el:=hl (pkAt (k,p)).1 (B:Int) ((L%B:Nat):Int)
 rw[Du _ h6]at el
 have ec:∀Y:Vv,bx Y 6=!(eg p)->bx Y 7=!(iN k)->bx Y 4=!(iN B)->bx Y 5=!(iN L)->x3 (aa ak (aa ak (va 6) (va 7)) (cI 0)) (va 4) (aa cb (va 5) (aa aL (va 7) (va 4))) Y=![.str (kd (pkAt (k,p)).1),.int (B:Int),.int ((L%B:Nat):Int)]:=λY g6 g7 g4 g5=>by
  simp only[bin2_a,consX_a,nilX_a,va_a,cI_a,Option.bind_some,g4,g5,g6,g7,wW (show k<1000000 by omega),subD_ii,eM,e6,e0]
 refine⟨sn (eg p),dp (iN k),?_⟩
 show ab _ _ (sW ps t c ws A L (sn (eg p)) o7)=_
 refine q_set (evX_lf (d:=iN B) ?_ rfl) ?_
 .simp only[vw_o,vw_nil,map_some,Option.map_none,bin2_a,biF_a,consX_a,nilX_a,va_a,shAt_s,shAt_0,shAt_1,Option.bind_some,bf,e7,length_map];rw[cg (!1) (!1),eA]
 show ab _ _ (sW ps t c ws B L (sn (eg p)) o7)=_;refine q_set (evX_lf (d:=iN k) ?_ rfl) ?_
 .simp only[vw_o,vw_nil,map_some,Option.map_none,bin2_a,va_a,shAt_s,shAt_0,shAt_1,Option.bind_some];rw[cg (!1) (!1),eK]
 refine q_set (evX_lf (d:=iN (layN (pkAt (k,p)).1 B (L%B))) ?_ rfl) ?_
 .rw[clF_a,ec _ rfl rfl rfl rfl,Option.bind_some,el];rfl
 refine q_st (qM rfl (evX_lf rfl rfl) rfl ?_) ?_
 .rw[length_map,hn];exact Vw (show i+1<=6 by omega) (!2)
 have em:rowD (ws++[k])=.lst ((ws.map λ(k:Nat)=>D.int (k:Int))++[iN k]):=by unfold rowD;rw[List.map_append];rfl
 simp only[sW,em];rfl
def cw_loop(hf:o "Mill" "passes"=true)(U:qO T)(r:Valid ps)(ht:t<=ps.length)(hc:c<prod ps):
  ∃j g,iq (jX (NM (x1 (ca (ku o "passes" (va 0)) (au (va 1)) cG))) (bn oX (x1 (ca (ku o "passes" (va 0)) (au (va 1)) cG)))) (dk 6) (FB T) (sW ps t c [] (prod ps) c none none)=!(.nx (sW ps t c (Ap (prod ps,c,[]) (!5).reverse).2.2 (Ap (prod ps,c,[]) (!5).reverse).1 (Ap (prod ps,c,[]) (!5).reverse).2.1 j g)):=by
 let⟨Y',e,j,g,rfl⟩:=jn
  (J:=jX (NM (x1 (ca _ _ cG))) (bn oX (x1 (ca _ _ cG))))
  (ds:=((!5).reverse).map eg) (Y:=sW ps t c [] (prod ps) c none none)
  (λi Y=>∃j g,Y=sW ps t c (Ap (prod ps,c,[]) ((!5).reverse.take i)).2.2 (Ap (prod ps,c,[]) ((!5).reverse.take i)).1 (Ap (prod ps,c,[]) ((!5).reverse.take i)).2.1 j g)
  (Oh (by
   have e:ca (ku o "passes" (va 0)) (au (va 1)) cG (di (sW ps t c [] (prod ps) c none none))=!(.tup _):=F4 hf rfl rfl;rw[fP,consX_a,e];show some ((!5).map eg).reverse=_;rw[List.map_reverse]))
  ⟨none,none,rfl⟩ (by
   rintro i d Y hd ⟨j,g,rfl⟩;rw[getElem?_map]at hd;cases l:(!5).reverse[i]? with
   |none=>rw[l]at hd;cases hd
   |some p=>
    rw[l]at hd;cases hd;have hi:=(Vq.mp l).1;rw[List.length_reverse,List.length_drop]at hi;let⟨I,C,e⟩:=cw_step U r (Dv r hc t i (!1)) l j g;refine⟨_,e,I,C,?_⟩;rw[u9 _ _ _ _ l])
 rw[length_map,List.take_length]at e
 exact⟨j,g,e⟩
def GF:∀(g:U4)(w:Vb)(n:Nat)(c:Sd)(j:Vb),0<n->0<=c.1->c.1<n->w.length=g.length->(∀q∈w.zip g,q.1<q.2.length)->
  0<=(pl n g w c).1/\(pl n g w c).1<((n*prod g:Nat):Int)/\Ap (n*prod g,(pl n g w c).1.toNat,j) g.reverse=(n,c.1.toNat,j++w.reverse):=by
 refine jr (λw n c j U h0 h1 o t=>?_) λg p ih w n c j U h0 h1 o t=>?_
 .cases w with
  |nil=>
   refine⟨h0,by show c.1<((n*1:Nat):Int);rw[Nat.mul_one];exact h1,?_⟩;show(n*1,c.1.toNat,j)=(n,c.1.toNat,j++[]);rw[Nat.mul_one,List.append_nil]
  |cons _ _=>cases o
 .obtain⟨v,k,rfl⟩:∃v k,w=v++[k]:=by
   have r:w≠[]:=λz=>by rw[z,length_append]at o;cases o
   exact⟨w.dropLast,w.getLast r,(List.dropLast_concat_getLast r).symm⟩
  have l:v.length=g.length:=by rw[length_append,length_append]at o;exact Nat.add_right_cancel o
  rw[List.zip_append l]at t;have hk:k<p.length:=t (k,p) (VC _ Vr);have hp:0<p.length:=by omega
  have I:∀q∈v.zip g,q.1<q.2.length:=λq hq=>t q (VB _ hq);rw[nJ n c p k l,dD,<-Nat.mul_assoc];let⟨_,_,b2⟩:=ih v n c (j++[k]) U h0 h1 l I;generalize hm:n*prod g=m at*;generalize pl n g v c=q at*;obtain⟨y,T⟩:∃y:Nat,q.1=(y:Int):=⟨q.1.toNat,by omega⟩;have C:y<m:=by omega
  have e0:pkAt (k,p)=jF p k:=by unfold pkAt jF;rw[List.getD_eq_getElem?_getD]
  have e1:(b9 m k (jF p k) q).1=((k*m+layN (pkAt (k,p)).1 m y:Nat):Int):=by
   unfold b9 layN;rw[e0,T];split
   .push_cast;rfl
   .push_cast;omega
  have J:=yO (pkAt (k,p)).1 C;have ll:layN (pkAt (k,p)).1 m (layN (pkAt (k,p)).1 m y)=y:=by unfold layN;split<;>omega
  generalize layN (pkAt (k,p)).1 m y=z at*;rw[e1,Int.toNat_natCast];have d1:(k*m+z)/m=k:=by rw[Nat.add_comm,Nat.add_mul_div_right _ _ (!1),Nat.div_eq_of_lt J,Nat.zero_add]
  have d2:(k*m+z)%m=z:=by rw[Nat.add_comm,Nat.add_mul_mod_self_right,Nat.mod_eq_of_lt J]
  have d3:m*p.length/p.length=m:=Nat.mul_div_cancel _ hp;refine⟨by omega,?_,?_⟩
  .have:=Nat.mul_le_mul_right m (show k+1<=p.length by omega);rw[Nat.succ_mul,Nat.mul_comm p.length]at this;omega
  .rw[List.reverse_append,List.reverse_append];show Ap (Eb (m*p.length,k*m+z,j) p) g.reverse=_;have:Eb (m*p.length,k*m+z,j) p=(m,y,j++[k]):=by
    unfold Eb;rw[d3,d1,d2,ll]
   rw[this];rw[T,Int.toNat_natCast]at b2;rw[b2,List.append_assoc];rfl
def  R4(f:Fn):Prop:=∀(ps:U4)(t:Nat)(w:Vb),Valid ps->t<=ps.length->w.length=(!5).length->(∀q∈w.zip (!5),q.1<q.2.length)->f [aA ps,iN t,.int (pl (prod (ps.take t)) (!5) w (((prod (ps.take t):Nat):Int)-1,1)).1]=dp (wD w)
def GG{fl la mt kk wi lo}(hf:fl "Mill" "passes"=true)(hl:qO la)(hm:Ta mt kk)(hw:fS wi)(hlo:wU lo):R4 (aK 3 8 (mX fl la mt kk wi lo)):=λps t w hv ht hlen hok=>by
 let⟨p1,p2,p3⟩:=sC hv t;let⟨b0,b1,b2⟩:=GF (!5) w (prod (ps.take t)) (((prod (ps.take t):Nat):Int)-1,1) [] (!1) (by show(0:Int)<=(prod (ps.take t):Nat)-1;omega) (by show((prod (ps.take t):Nat):Int)-1<_;omega) hlen hok;rw[<-p3]at b1 b2;obtain⟨c,hc⟩:∃c:Nat,(pl (prod (ps.take t)) (!5) w (((prod (ps.take t):Nat):Int)-1,1)).1=(c:Int):=⟨_,(Int.toNat_of_nonneg b0).symm⟩;rw[hc]at b1 b2⊢;rw[Int.toNat_natCast]at b2;have hcp:c<prod ps:=by omega
 let⟨o6,o7,e⟩:=cw_loop hf hl hv ht hcp;rw[b2,List.nil_append]at e;have em:∀Y:Vv,bx Y 0=!(aA ps)->wL (va 0) ax mt kk "codes" Y=!(.int (prod ps:Nat)):=λY h=>by
  show cx (kY (va 0) ax mt kk "codes" Y)=_;unfold kY;rw[va_a,h,Option.bind_some];show cx (iY mt kk "codes" (aA ps) [])=_;rw[hm ps hv];rfl
 have e2:(decide ((c:Int)<=((prod ps:Nat):Int)-1))=true:=decide_eq_true (!1);refine aj rfl ?_;show mX fl la mt kk wi lo [sn (aA ps),sn (iN t),sn (iN c),none,none,none,none,none]=_;refine pz (d:=.non) ?_ (q_if0 ?_ (q_set (evX_lfs rfl rfl rfl rfl) (q_set (evX_lf (em _ rfl) rfl) (q_set (evX_lf rfl rfl) (q_st e (q_if0 ?_ (q_ret (evX_lf ?_ (lf_w _)))))))))
 .simp only[vw_some,vw_none,vw_nil,clF_a,consX_a,nilX_a,va_a,shAt_s,shAt_0,shAt_1,Option.bind_some,hlo ps t ht,valO_some]
 .rw[notQ_a,trF_a,clF_a,uW,consX_a,pA,consX_a,fP,consX_a,bin2_a,em _ rfl];simp only[vw_some,vw_none,vw_nil,nilX_a,va_a,shAt_s,shAt_0,shAt_1,cI_a,Option.bind_some,subD_ii,hw (c:Int) 0 (((prod ps:Nat):Int)-1),valO_some,e2];rfl
 .simp only[vw_o,vw_nil,map_some,testB_a,bin2_a,va_a,cI_a,shAt_s,shAt_0,shAt_1,Option.bind_some,subD_ii,jZ,asB_bl];have:(((((prod (ps.take t):Nat):Int)-1).toNat:Nat):Int)=((prod (ps.take t):Nat):Int)-1:=by omega
  rw[this];simp
 .show some (D.tup (w.reverse.map λ(k:Nat)=>D.int (k:Int)).reverse)=_;rw[<-List.map_reverse,List.reverse_reverse];rfl
end K16
namespace K16
open PySem PySem.Spec PyProof.Rows L2
def  pK(aD:Fn):U1:=(gG (l5 aD (x3 (va 0) (cI 0) (aa lP (cI 10) (cI 30)))))
def  fT(fL:Fn):U1:=(ab (dj (t4 (cP (mP (bn fO (x2 (va 1) (bQ (x2 (cT "list") (cT "tuple"))))))) (ai (aa (aB true) (cK (va 1)) (cK (va 0))))) (gG (cm (cB false))) aE) (gG (bb (bn jB (x1 (aQ (ae [2] (jX af (va 1)) (gNm 2) tQ (bz fL (x1 (va 2))))))) af (fNo (x1 (aQ (ae [2] (jX af (va 1)) (gNm 2) tQ (bz fL (x1 (va 2))))))))))
def  gJ(fl:Str->Str->Bool)(bK:Fn)(mt_many:MT)(kk:Nat):U1:=(ab (dj (t4 (cP (mP (bn fO (x2 (va 1) (bQ (x2 (cT "list") (cT "tuple"))))))) (ai (aa (aB true) (cK (va 1)) (wL (va 0) ax mt_many kk "many")))) (ab noO' aE) aE) (ab (dj (cP (mP (bn jB (x1 (aQ (ae [2,3] (jX (Ke (x2 (ku fl "passes" (va 0)) (va 1))) (bn oX (x2 (ku fl "passes" (va 0)) (va 1)))) (kc 2 (ao (gNm 2) (ao (gNm 3) bd))) tQ (bz bK (x2 (va 2) (va 3))))))))) (ab noO' aE) aE) aE))
def  vc:U1:=(gG (bb (bn vT (x1 (aQ (ae [3,4] (jX (Ke (x2 (va 2) (ca (va 0) (au (va 1)) cG))) (bn oX (x2 (va 2) (ca (va 0) (au (va 1)) cG)))) (kc 2 (ao (gNm 3) (ao (gNm 4) bd))) tQ (aa ak (va 4) (va 3)))))) af (fNo (x1 (aQ (ae [3,4] (jX (Ke (x2 (va 2) (ca (va 0) (au (va 1)) cG))) (bn oX (x2 (va 2) (ca (va 0) (au (va 1)) cG)))) (kc 2 (ao (gNm 3) (ao (gNm 4) bd))) tQ (aa ak (va 4) (va 3))))))))
def  vd:U1:=(gG (bb (bn vT (x1 (aQ (ae [3] (jR (x1 (cK (va 2)))) (gNm 3) tQ (aa ak (aa ak (va 0) (aa av (va 1) (va 3))) (aa ak (va 2) (va 3))))))) af (fNo (x1 (aQ (ae [3] (jR (x1 (cK (va 2)))) (gNm 3) tQ (aa ak (aa ak (va 0) (aa av (va 1) (va 3))) (aa ak (va 2) (va 3)))))))))
def  TT:Int:=10^(30:Int).toNat
def Dw:0<TT:=Int.pow_pos (!2)
def P8:lP (.int 10) (.int 30)=!(.int TT):=by unfold lP;exact if_pos ⟨by decide,by decide,by decide⟩
def  dY(rs:List (Vd)):D:=.lst (rs.map aM)
structure PrOk(ps:U4)(rs:List (Vd)):Prop where
 len:rs.length=ps.length
 each:∀q∈ps.zip rs,q.2.length=q.1.length/\∀x∈q.2,0<=x/\x<=TT
def  xf(f:Fn):Prop:=∀v:Int,f [.int v]=!(.deep,.bl (decide (0<=v)&&decide (v<=TT)))
def GH(hw:fS w):xf (aK 1 1 (pK w)):=λv=>by
 refine aj rfl ?_;show pK w [!(.sh,.int v)]=_;refine q_ret (evX_lf ?_ rfl);simp only[vw_some,vw_nil,clF_a,consX_a,nilX_a,bin2_a,va_a,shAt_0,cI_a,Option.bind_some,P8,hw v 0 TT,valO_some]
def  KR(f:Fn):Prop:=∀(p:List Pk)(row:Vd),row.length=p.length->p.length<1000->(∀x∈row,0<=x/\x<=TT)->f [eg p,aM row]=!(.deep,.bl true)
def Oi(hg:xf g):KR (aK 2 3 (fT g)):=λp row hl h1 hx=>by
 have e1:seqD (eg p)=!_:=rfl;have e2:seqD (aM row)=!_:=rfl;refine aj rfl ?_;show fT g [!(.sh,eg p),!(.sh,aM row),none]=_;refine q_if0 ?_ (q_ret (evX_lf ?_ rfl))
 .have i1:bn fO (x2 (va 1) (bQ (x2 (cT "list") (cT "tuple")))) (vw [!(.sh,eg p),!(.sh,aM row),none])=!(.bl true):=by simp[aM]
  have i2:ai (aa (aB true) (cK (va 1)) (cK (va 0))) (vw [!(.sh,eg p),!(.sh,aM row),none])=!false:=by
   simp only[vw_some,vw_none,vw_nil,testB_a,bin2_a,biF_a,consX_a,nilX_a,va_a,shAt_s,shAt_0,shAt_1,Option.bind_some,bf,e1,e2,length_map,jZ,asB_bl,if_true,hl,decide_true];rfl
  rw[qK,notQ_a,trF_a,i1,i2];rfl
 .have hm:ae [2] (jX af (va 1)) (gNm 2) tQ (bz g (x1 (va 2))) (vw [!(.sh,eg p),!(.sh,aM row),none])=!(row.map λx=>.bl (decide (0<=x)&&decide (x<=TT))):=by
   refine aq (mk:=D.int) (by simp[e2]) (λx _=>?_) (Vw (show row.length<=1000 by omega) (!2));simp[hg x]
  rw[biF_a,fP,consX_a,lsF_a,hm];refine(cY row λx=>decide _&&decide _).trans ?_;rw[show(row.all λx=>decide _&&decide _)=true from List.all_eq_true.mpr λx h=>by
   rw[decide_eq_true (hx x h).1,decide_eq_true (hx x h).2];rfl]
def  sD(f:Fn):Prop:=∀(ps:U4)(rs:List (Vd)),Valid ps->PrOk ps rs->f [aA ps,dY rs]=!(.deep,.non)
def Dx{fl g mt kk}(hfl:fl "Mill" "passes"=true)(hg:KR g)(hm:CV mt kk):sD (aK 2 4 (gJ fl g mt kk)):=λps rs hv ok=>by
 have h6:=hv.len;have fm:m8 fl "passes" (aA ps)=!(az ps):=by simp[m8,aA,hfl]
 have e2:seqD (dY rs)=!_:=rfl;have em:∀Y:Vv,bx Y 0=!(aA ps)->wL (va 0) ax mt kk "many" Y=!(.int (ps.length:Nat)):=λY h=>by
  show cx (kY (va 0) ax mt kk "many" Y)=_;unfold kY;rw[va_a,h,Option.bind_some];show cx (iY mt kk "many" (aA ps) [])=_;rw[hm];rfl
 refine lm rfl (Y:=[!(.sh,aA ps),!(.sh,dY rs),none,none]) ?_;show gJ fl g mt kk [!(.sh,aA ps),!(.sh,dY rs),none,none]=_;refine q_if0 ?_ (q_if0 ?_ rfl)
 .have i1:bn fO (x2 (va 1) (bQ (x2 (cT "list") (cT "tuple")))) (vw [!(.sh,aA ps),!(.sh,dY rs),none,none])=!(.bl true):=by simp[dY]
  have i2:ai (aa (aB true) (cK (va 1)) (wL (va 0) ax mt kk "many")) (vw [!(.sh,aA ps),!(.sh,dY rs),none,none])=!false:=by
   rw[testB_a,bin2_a,em _ rfl];simp only[vw_some,vw_none,vw_nil,biF_a,consX_a,nilX_a,va_a,shAt_s,shAt_0,shAt_1,Option.bind_some,bf,e2,length_map,ok.len,jZ,asB_bl,if_true,decide_true];rfl
  rw[qK,notQ_a,trF_a,i1,i2];rfl
 .have hc:ae [2,3] (jX (Ke (x2 (ku fl "passes" (va 0)) (va 1))) (bn oX (x2 (ku fl "passes" (va 0)) (va 1)))) (kc 2 (ao (gNm 2) (ao (gNm 3) bd))) tQ (bz g (x2 (va 2) (va 3))) (vw [!(.sh,aA ps),!(.sh,dY rs),none,none])=!((ps.zip rs).map λ_=>.bl true):=by
   refine aq (mk:=λq:List Pk×List Int=>.tup [eg q.1,aM q.2]) (HU ?_) (λq hq=>?_) ?_
   .simp only[vw_some,vw_none,vw_nil,consX_a,nilX_a,CC,va_a,shAt_s,shAt_0,shAt_1,Option.bind_some,fm];rw[uL rfl rfl,pf]
   .have z:=ok.each q hq;have hp:=hv.p (List.of_mem_zip hq).1;simp[hg q.1 q.2 z.1 (!1) z.2]
   .rw[List.length_zip];exact Vw (show min ps.length rs.length<=6 by omega) (!2)
  rw[notQ_a,trF_a,biF_a,fP,consX_a,lsF_a,hc];have ha:=cY (ps.zip rs) λ_=>true;rw[show((ps.zip rs).all λ_=>true)=true from List.all_eq_true.mpr λ_ _=>rfl]at ha;show Option.map _ ((jB [.lst ((ps.zip rs).map λ_=>D.bl true)]).bind t5)=_;rw[ha];rfl
def ve{β:Type}(g:β->Int):∀xs:List β,zo (xs.map λx=>.int (g x))=!(xs.map g)
 |[]=>rfl
 |x::xs=>by
  show(zo (xs.map λx=>.int (g x))).bind _=_;rw[ve g xs];rfl
def vf{β:Type}(g:β->Int)(xs:List β):vT [.lst (xs.map λx=>.int (g x))]=!(.int (ud (xs.map g))):=by
 show(zo (xs.map λx=>.int (g x))).bind _=_;rw[ve];rfl
def  ir(rs:List (Vd))(t:Nat)(w:Vb):Int:=ud ((w.zip (rs.drop t)).map λq=>q.2.getD q.1 0)
def H9(ok:PrOk ps rs)(hk:WordOk ps t w)(hq:q∈w.zip (rs.drop t)):q.1<q.2.length:=by
 let⟨i,hi⟩:=List.getElem?_of_mem hq;let⟨h1,h2⟩:=List.getElem?_zip_eq_some.mp hi;rw[List.getElem?_drop]at h2;have hl:t+i<ps.length:=by rw[<-ok.len];exact(Vq.mp h2).1
 have hp:=getElem?_eq_getElem hl;have z:=ok.each (ps[t+i],q.2) (VH (List.getElem?_zip_eq_some.mpr ⟨hp,h2⟩));have y:=hk.each (q.1,ps[t+i]) (VH (List.getElem?_zip_eq_some.mpr ⟨h1,by rw[List.getElem?_drop];exact hp⟩));have z1:q.2.length=ps[t+i].length:=z.1;have y1:q.1<ps[t+i].length:=y;omega
def Dy{k:Nat}(h:k<row.length):ak (aM row) (.int (k:Int))=!(.int (row.getD k 0)):=by
 show nX (row.map D.int) (k:Int)=_;rw[aY (getElem?_eq_getElem h),List.getD_eq_getElem?_getD,getElem?_eq_getElem h];rfl
def GI(hv:Valid ps)(ok:PrOk ps rs)(t:Nat)(w:Vb):(w.zip (rs.drop t)).length<big:=by
 have h6:=hv.len;have:=ok.len;rw[List.length_zip,List.length_drop];exact Vw (show min w.length (rs.length-t)<=6 by omega) (!2)
def  LN(f:Fn):Prop:=∀(ps:U4)(rs:List (Vd))(t:Nat)(w:Vb),Valid ps->PrOk ps rs->WordOk ps t w->f [dY rs,.int (t:Int),wD w]=!(.deep,.int (ir rs t w))
def q0{lo hi}(e:a Y=!(.lst ds))(e1:lo Y=!l)(e2:hi Y=!h):ca a lo hi Y=!(.lst (cutD ds l h)):=by
 unfold ca aW rH kW;simp[e,e1,e2]
def R5:LN (aK 3 5 vc):=λps rs t w hv ok hk=>by
 refine aj rfl ?_;refine q_ret (evX_lf ?_ rfl);have es:ca (va 0) (au (va 1)) cG [!(dY rs),!(.int (t:Int)),!(wD w),none,none]=!(.lst ((rs.drop t).map aM)):=by
  refine(q0 rfl rfl rfl).trans ?_;rw[i6]
 have hc:ae [3,4] (jX (Ke (x2 (va 2) (ca (va 0) (au (va 1)) cG))) (bn oX (x2 (va 2) (ca (va 0) (au (va 1)) cG)))) (kc 2 (ao (gNm 3) (ao (gNm 4) bd))) tQ (aa ak (va 4) (va 3)) [!(dY rs),!(.int (t:Int)),!(wD w),none,none]=!((w.zip (rs.drop t)).map λq=>.int (q.2.getD q.1 0)):=by
  refine aq (mk:=λq:Nat×List Int=>.tup [.int (q.1:Int),aM q.2]) (HU ?_) (λq hq=>?_) (GI hv ok t w)
  .rw[pA,consX_a,fP,consX_a,es];simp only[va_a,shAt_s,shAt_0,shAt_1,nilX_a,Option.bind_some];rw[uL rfl rfl,pf]
  .simp only[stepF_a,wipe_cons,wipe_nil,HW,uJ,yy,gNm_a,tQ_a,set_cons_succ,set_cons_zero,length_cons,List.length_nil,if_true,Option.bind_some,bin2_a,va_a,shAt_s,shAt_0,shAt_1,Dy (H9 ok hk hq)]
 show bn vT (x1 (aQ _)) [!(dY rs),!(.int (t:Int)),!(wD w),none,none]=_;rw[biF_a,fP,consX_a,lsF_a,hc];exact vf _ _
def GJ:LN (aK 3 4 vd):=λps rs t w hv ok hk=>by
 have h6:=hv.len;have hlw:=hk.len;rw[List.length_drop]at hlw;have ew:seqD (wD w)=!(w.map λ(i:Nat)=>.int (i:Int)):=rfl;have hzl:(w.zip (rs.drop t)).length=w.length:=by rw[List.length_zip,List.length_drop,ok.len];omega
 refine aj rfl ?_;refine q_ret (evX_lf ?_ rfl);have hc:ae [3] (jR (x1 (cK (va 2)))) (gNm 3) tQ (aa ak (aa ak (va 0) (aa av (va 1) (va 3))) (aa ak (va 2) (va 3))) [!(dY rs),!(.int (t:Int)),!(wD w),none]=!((List.range w.length).map λj=>.int ((λq:Nat×List Int=>q.2.getD q.1 0) ((w.zip (rs.drop t))[j]?.getD (0,[])))):=by
  refine aq (mk:=λ(i:Nat)=>D.int (i:Int)) (fR ?_) (λj hj=>?_) (by rw[length_range];exact Vw (show w.length<=6 by omega) (!2))
  .simp only[consX_a,nilX_a,biF_a,va_a,shAt_s,shAt_0,shAt_1,Option.bind_some,bf,ew,length_map];exact bv (!1)
  .have hj:=VG.mp hj;have hjr:j<(rs.drop t).length:=by rw[List.length_drop,ok.len];omega
   have hz:(w.zip (rs.drop t))[j]?=!(w[j],(rs.drop t)[j]):=List.getElem?_zip_eq_some.mpr ⟨getElem?_eq_getElem hj,getElem?_eq_getElem hjr⟩;have hlt:=H9 ok hk (VH hz);have ea:(t:Int)+(j:Int)=((t+j:Nat):Int):=by omega
   have eb:ak (wD w) (.int (j:Int))=!(.int ((w[j]:Nat):Int)):=aY (getElem?_eq_getElem hj);have ec:ak (dY rs) (.int ((t+j:Nat):Int))=!(aM (rs.drop t)[j]):=aY (by rw[<-List.getElem?_drop];exact getElem?_eq_getElem hjr);simp only[stepF_a,wipe_cons,wipe_nil,gNm_a,tQ_a,set_cons_succ,set_cons_zero,if_true,Option.bind_some,bin2_a,va_a,shAt_s,shAt_0,shAt_1,addD_ii,ea,eb,ec,Dy (hlt),hz,Option.getD_some]
 show bn vT (x1 (aQ _)) [!(dY rs),!(.int (t:Int)),!(wD w),none]=_;rw[biF_a,fP,consX_a,lsF_a,hc];refine(vf _ _).trans ?_;rw[<-hzl,zX (w.zip _) (λq:Nat×List Int=>q.2.getD q.1 0) (0,[])];rfl
end K16
namespace K16
open PySem PySem.Spec PyProof.Rows L2
def  sE:U1:=(ab (aw 2 tB) (ab (aw 3 (cm (cI 0))) (ab (aw 4 (cm cN)) (ab (iq (jX af (va 1)) (zu 2 (b8 (dk 5) (b8 (dk 6) lU))) (ab (LI (tZ (ai (aa oq (va 3) (cK (va 0)))) (ai (aa oq (aa ak (aa ak (va 0) (va 3)) (cI 0)) (va 5)))) (ab (aw 4 (cm (EK (ai (aa (oB false) (va 4) cN)) (aa ak (aa ak (va 0) (va 3)) (cI 1)) (bn minD' (x2 (va 4) (aa ak (aa ak (va 0) (va 3)) (cI 1))))))) (ab (aw 3 (bb (aa av (va 3) (cI 1)) (bI (va 3) (cI 1)) af)) aE))) (ab (dj (ai (aa (oB true) (va 4) cN)) (ab (gA 2 (bb (bQ (x2 (va 5) (aa av (va 4) (va 6)))) af (vx (x2 (frX (va 5) af af) (frX (aa av (va 4) (va 6)) (bI (va 4) (va 6)) af))))) aE) aE) aE))) (ab (uF 2) aE)))))
def  lt(a b:Sd):Bool:=HT.lexLt [a.1,a.2] [b.1,b.2]
def sG:lt a b=true↔a.1<b.1\/(a.1=b.1/\a.2<b.2):=by
 unfold lt;rw[HT.lexLt_cons,HT.lexLt_cons,HT.lexLt_nil_nil];by_cases h:a.1=b.1
 .rw[if_pos h];by_cases h2:a.2=b.2
  .rw[if_pos h2];exact⟨λz=>(nomatch z),λz=>by omega⟩
  .rw[if_neg h2,decide_eq_true_eq];omega
 .rw[if_neg h,decide_eq_true_eq];omega
abbrev Pe:=Sd×Int
def  kz(e:Pe):D:=.tup [dm e.1,.int e.2]
def  rwD(r:List Pe):D:=.lst (r.map kz)
def  Up(A:List Pe):Prop:=A.Pairwise λa b=>lt b.1 a.1=false
def  lss(A:List Pe)(p:Sd):Vd:=(A.filter λx=>lt x.1 p).map (·.2)
def  Dz(A:List Pe)(e:Pe):Option Pe:=if(lss A e.1).isEmpty then none else !(e.1,mnZ (lss A e.1)+e.2)
def  jG(A C:List Pe):List Pe:=C.filterMap (Dz A)
def  nb(A:List Pe)(p:Sd):Nat:=(A.takeWhile λx=>lt x.1 p).length
def DA:∀{A:List Pe}(p:Sd),Up A->A.filter (λx=>lt x.1 p)=A.take (nb A p)
 |[],_,_=>rfl
 |a::A,p,h=>by
  let⟨h1,h2⟩:=List.pairwise_cons.mp h;unfold nb;rw[List.takeWhile_cons];cases c:lt a.1 p with
  |true=>
   rw[List.filter_cons,c,if_pos rfl,DA p h2];rfl
  |false=>
   rw[List.filter_cons,c];refine List.filter_eq_nil_iff.mpr λx hx=>?_;have:=h1 x hx;rw[Bool.eq_false_iff,ne_eq,sG]at this c;rw[sG];omega
def Ia(A:List Pe)(p:Sd):nb A p<=A.length:=(List.takeWhile_sublist _).length_le
def Ib:∀{A:List Pe}{p:Sd}{k:Nat},k<nb A p->∃x,A[k]?=!x/\lt x.1 p=true
 |[],_,_,h=>absurd h (Nat.not_lt_zero _)
 |a::A,p,k,h=>by
  unfold nb at h;rw[List.takeWhile_cons]at h;cases c:lt a.1 p with
  |false=>rw[c]at h;exact absurd h (Nat.not_lt_zero _)
  |true=>
   rw[c]at h;cases k with
   |zero=>exact⟨a,rfl,c⟩
   |succ k=>exact Ib (A:=A) (Nat.lt_of_succ_lt_succ h)
def KS(h:A[nb A p]?=!x):lt x.1 p=false:=by
 unfold nb at h;induction A with
 |nil=>cases h
 |cons a A ih=>
  rw[List.takeWhile_cons]at h;cases c:lt a.1 p with
  |false=>rw[c]at h;cases h;exact c
  |true=>rw[c]at h;exact ih h
def GK(h:lt q p=false):nb A p<=nb A q:=by
 unfold nb;induction A with
 |nil=>exact VI _
 |cons a A ih=>
  rw[List.takeWhile_cons,List.takeWhile_cons];cases c:lt a.1 p with
  |false=>exact Nat.zero_le _
  |true=>
   have:lt a.1 q=true:=by
    rw[Bool.eq_false_iff,ne_eq,sG]at h;rw[sG]at c⊢;omega
   rw[this];exact Nat.succ_le_succ ih
def  ml(A:List Pe)(k:Nat):Vj:=if k=0 then none else !(mnZ ((A.take k).map (·.2)))
def GL(x:Int)(h:l≠[]):mnZ (l++[x])=if x<mnZ l then x else mnZ l:=by
 cases l with
 |nil=>exact absurd rfl h
 |cons a l=>exact List.foldl_append
def GM(h:A[k]?=!x):ml A (k+1)=!(match ml A k with|none=>x.2|some m=>if x.2<m then x.2 else m):=by
 unfold ml;rw[if_neg (Nat.succ_ne_zero k),List.take_succ,h,Option.toList_some,List.map_append];have hk:=(Vq.mp h).1;by_cases c:k=0
 .subst c;rfl
 .rw[if_neg c];refine congrArg some (GL _ λz=>c ?_);have:=congrArg List.length z;rw[length_map,List.length_take]at this;have:min k A.length=0:=this;omega
def  GN:Vj->D
 |none=>.non
 |some i=>.int i
def lf_oi(o:Vj):lfD (GN o)=true:=by cases o<;>rfl
def sH(r:List Pe):fw (r.map kz)=true:=ck λd hd=>by
 let⟨_,_,rfl⟩:=Vz.mp hd;rfl
def DB(a b:Sd):oq (dm a) (dm b)=!(.bl (lt a b)):=rfl
def DC(I:Nat->Ev->Prop)(hs:∀m Y,I (m+1) Y->c (vw Y)=!true/\∃Y',F Y=!(.nx Y')/\I m Y')(he:∀Y,I 0 Y->c (vw Y)=!false):∀(m n:Nat)(Y:Ev),m<n->I m Y->∃Y',FO c F n Y=!(.nx Y')/\I 0 Y'
 |m,0,Y,h,_=>absurd h (Nat.not_lt_zero _)
 |0,n+1,Y,_,i=>⟨Y,by
   show(c (vw Y)).bind _=_;rw[he Y i];rfl,i⟩
 |m+1,n+1,Y,h,i=>by
  let⟨h1,Y1,h2,i1⟩:=hs m Y i;let⟨Y',e,i2⟩:=DC I hs he m n Y1 (!1) i1;refine⟨Y',?_,i2⟩;show(c (vw Y)).bind _=_;rw[h1,Option.bind_some,if_pos rfl,h2];exact e
def R6(I:Nat->Ev->Prop)(m:Nat)(hm:m<400)(h0:I m Y)(hs:∀m Y,I (m+1) Y->c (vw Y)=!true/\∃Y',F Y=!(.nx Y')/\I m Y')(he:∀Y,I 0 Y->c (vw Y)=!false)(k:∀Y',I 0 Y'->G Y'=out):ab (LI c F) G Y=out:=by
 let⟨Y',e,i⟩:=DC I hs he m 400 Y hm h0;exact(ar (e)).trans (k Y' i)
abbrev sR(A C R:List Pe)(k:Nat)(o5 o6:U6):Ev:=[sn (rwD A),sn (rwD C),dp (rwD R),dp (iN k),dp (GN (ml A k)),o5,o6]
def  KU(f:Fn):Prop:=∀A C:List Pe,Up A->Up C->A.length<100->C.length<100->f [rwD A,rwD C]=dp (rwD (jG A C))
def KW(h:Up A)(e:Pe):Dz A e=(ml A (nb A e.1)).map λm=>(e.1,m+e.2):=by
 unfold Dz lss ml;rw[DA e.1 h];by_cases c:nb A e.1=0
 .rw[c];rfl
 .rw[if_neg c,if_neg]
  .rfl
  .have:=Ia A e.1;rw[List.isEmpty_iff];intro z;have:=congrArg List.length z;rw[length_map,List.length_take]at this;have:min (nb A e.1) A.length=0:=this;omega
def Oj:KU (aK 2 7 sE):=λA C hA hC la lc=>by
 refine aj rfl ?_;refine q_set (evX_lfs rfl rfl rfl rfl) (q_set (evX_lf rfl rfl) (q_set (evX_lf rfl rfl) (q_forB
  (λi Y=>∃k o5 o6,(∀e∈C.drop i,k<=nb A e.1)/\Y=sR A C (jG A (C.take i)) k o5 o6) rfl ⟨0,none,none,λ_ _=>Nat.zero_le _,rfl⟩ ?_ ?_)))
 .rintro i e Y he ⟨k,o5,o6,hk,rfl⟩;have hi:=(Vq.mp he).1;have ed:C.drop i=e::C.drop (i+1):=by
   rw[List.drop_eq_getElem_cons];rw[getElem?_eq_getElem hi]at he;cases he;rfl
  have h0:=hk e (by rw[ed];exact Vr);have hn:∀e'∈C.drop (i+1),nb A e.1<=nb A e'.1:=λe' h'=>by
   have h2:(C.drop i).Pairwise λa b=>lt b.1 a.1=false:=List.Pairwise.sublist (List.drop_sublist _ _) hC;rw[ed]at h2;exact GK ((List.pairwise_cons.mp h2).1 e' h')
  have et:jG A (C.take (i+1))=jG A (C.take i)++(Dz A e).toList:=by
   unfold jG;rw[List.take_succ,he,List.filterMap_append];cases h:Dz A e<;>simp[h]
  have nl:=Ia A e.1;refine⟨sR A C (jG A _) _ (sn (dm e.1)) (sn (.int e.2)),?_,nb A e.1,_,_,hn,rfl⟩;refine R6 (λm Y=>∃k,k+m=nb A e.1/\Y=sR A C (jG A _) k (sn _) (sn _)) (nb A e.1-k) (!1) ⟨k,by omega,rfl⟩ ?_ ?_ ?_
  .rintro m Y ⟨k,hm,rfl⟩;let⟨x,hx,hl⟩:=Ib (A:=A) (p:=e.1) (k:=k) (!1);have ex:ak (rwD A) (iN k)=!(kz x):=aY hx;have ex0:ak (kz x) (.int 0)=!_:=rfl;have ex1:ak (kz x) (.int 1)=!_:=rfl;have kl:decide ((k:Int)<(A.length:Int))=true:=decide_eq_true (!1);refine⟨?_,sR A C (jG A _) (k+1) (sn _) (sn _),?_,k+1,by omega,rfl⟩
   .simp only[sB,bf,show seqD (rwD A)=some _ from rfl,length_map,wP,kl,ex,ex0,DB,hl,if_true]
   .have hs:ml A (k+1)=_:=GM hx;refine q_set (evX_lf ?_ (lf_oi _)) (q_set (evX_lf ?_ rfl) rfl)
    .rw[hs];simp only[sB,yu,ex,ex1];generalize ml A k=o;cases o<;>rfl
    .simp only[sB];rfl
  .rintro Y ⟨k,hm,rfl⟩;cases(show k=nb A e.1 from hm);by_cases c:nb A e.1<A.length
   .have hx:A[nb A e.1]?=some A[nb A e.1]:=getElem?_eq_getElem c;have hl:=KS hx;generalize A[nb A e.1]=x at hx hl;have ex:ak (rwD A) (iN (nb A e.1))=!(kz x):=aY hx;have ex0:ak (kz x) (.int 0)=!_:=rfl;have kl:decide (((nb A e.1:Nat):Int)<(A.length:Int))=true:=decide_eq_true (!1);simp only[sB,bf,show seqD (rwD A)=some _ from rfl,length_map,wP,kl,ex,ex0,DB,hl,if_true]
   .have kl:decide (((nb A e.1:Nat):Int)<(A.length:Int))=false:=decide_eq_false (!1);simp only[sB,bf,show seqD (rwD A)=some _ from rfl,length_map,wP,kl];rfl
  .rintro Y ⟨k,hm,rfl⟩;cases(show k=nb A e.1 from hm);rw[et,KW hA e];cases hml:ml A (nb A e.1)with
   |none=>
    refine q_if0 ?_ ?_
    .show ai (aa (oB true) (va 4) cN) [_,_,_,_,!(GN (ml A (nb A e.1))),_,_]=_;rw[hml];rfl
    .rw[Option.map_none];show some (Out.nx _)=!(Out.nx _);rw[show(none:Option Pe).toList=[]from rfl,List.append_nil]
   |some m=>
    refine(ar ((ifS_t ?_).trans (q_st (appF_deep (d:=kz (e.1,m+e.2)) rfl (evX_lf ?_ rfl) rfl ?_) rfl))).trans ?_
    .show ai (aa (oB true) (va 4) cN) [_,_,_,_,!(GN (ml A (nb A e.1))),_,_]=_;rw[hml];rfl
    .show bQ (x2 (va 5) (aa av (va 4) (va 6))) [_,_,_,_,!(GN (ml A (nb A e.1))),!(dm e.1),!(.int e.2)]=_;rw[hml];rfl
    .rw[length_map];have:(jG A (C.take i)).length<=(C.take i).length:=List.length_filterMap_le _ _;rw[List.length_take]at this;exact Vw (show _<=101 by omega) (!2)
    .rw[map_some];show some (Out.nx [_,_,dp (.lst _),_,_,_,_])=!(Out.nx [_,_,dp (.lst _),_,_,_,_]);rw[List.map_append];rfl
 .rintro Y ⟨k,o5,o6,_,rfl⟩;rw[List.take_length];rfl
end K16
namespace K16
open PySem PySem.Spec PyProof.Rows L2
def  sI(fZ:Fn):U1:=(gG (l5 fZ (x3 (va 0) (aa ak (aa ak (va 1) (va 2)) (cI 1)) (aa ak (va 3) (cI 0)))))
def  lB(eV fY:Fn):U1:=(gG (l5 fY (x3 (va 3) (aa ak (aa ak (va 1) (va 2)) (cI 1)) (bz eV (x4 (va 0) (va 1) (va 2) (va 4))))))
def  kn(bh dJ:Fn):U1:=(ab (aw 4 (l5 dJ (x3 (va 0) (va 1) (va 2)))) (gG (bb (aQ (ae [5] (jX af (va 4)) (gNm 5) tQ (bQ (x2 (va 5) (bz bh (x5 (va 0) (va 1) (va 2) (va 3) (va 5))))))) (ae [5] (jX af (va 4)) (gNm 5) tQ (bQ (x2 (va 5) (bz bh (x5 (va 0) (va 1) (va 2) (va 3) (va 5)))))) (fCo [5] (jX af (va 4)) (gNm 5) tQ (frX (bQ (x2 (va 5) (bz bh (x5 (va 0) (va 1) (va 2) (va 3) (va 5))))) af (vx (x2 (frX (va 5) af af) (frX (bz bh (x5 (va 0) (va 1) (va 2) (va 3) (va 5))) af (HR bh (x5 (va 0) (va 1) (va 2) (va 3) (va 5)))))))))))
def  ni(mt_one_order:MT)(kk:Nat):U1:=(ab (dj (cP (mP (wL (va 0) ax mt_one_order kk "one_order"))) (ab noO' aE) aE) aE)
def  xg(mt_levels:MT)(kk:Nat):U1:=(gG (bb (aQ (ae [1] (jX af (wL (va 0) ax mt_levels kk "levels")) (gNm 1) tQ (aa ak (va 1) (cI 0)))) (ae [1] (jX af (wL (va 0) ax mt_levels kk "levels")) (gNm 1) tQ (aa ak (va 1) (cI 0))) (fCo [1] (jX af (wL (va 0) ax mt_levels kk "levels")) (gNm 1) tQ (frX (aa ak (va 1) (cI 0)) af af))))
def ev_c(h:xs (vw Y)=!ds)(e:f ds=dp d):l5 f xs Y=!((.deep,d),Y):=by
 cases l:lfD d with
 |true=>exact evX_lf (by rw[clF_a,h,Option.bind_some,e,valO_some]) l
 |false=>exact evX_call (by rw[clF_a,h,Option.bind_some,e,valO_some]) l rfl (by rw[fCl_a,h,Option.bind_some,e];rfl)
abbrev Pq:=Sd×List Nat
structure Opn(ps:U4)(ls:List Lz)(k:Nat)(l:Lz)(U:List Pq):Prop where
 pm:U.Perm (((wds (ps.drop l.2)).filter (fitW l.1 (ps.drop l.2))).map λw=>(D9 (u8 ls k l) (pl (prod (ps.take l.2)) (ps.drop l.2) w ((prod (ps.take l.2):Int)-1,1)),w))
 up:U.Pairwise λa b=>HT.lexLt [b.1.1,b.1.2] [a.1.1,a.1.2]=false
structure Lok(ps:U4)(ls:List Lz):Prop where
 v:Valid ps
 c:prod ps<64
 n:ls.length<=24
 o:∀l∈ls,LzOk ps l
def Opn.w(h:Opn ps ls k l U)(hq:q∈U):WordOk ps l.2 q.2/\q.1.1=(pl (prod (ps.take l.2)) (ps.drop l.2) q.2 ((prod (ps.take l.2):Int)-1,1)).1:=by
 let⟨w,hw,rfl⟩:=Vz.mp (h.pm.mem_iff.mp hq);let⟨h1,h2⟩:=jt _ w (List.mem_filter.mp hw).1;exact⟨⟨h1,h2⟩,rfl⟩
def vg(h:ls[k]?=!l){A B:Fv}(hA:A Y=!(aC ls))(hB:B Y=!(iN k)):aa ak (aa ak A B) (cI 1) Y=!(iN l.2):=by
 rw[bin2_a,bin2_a,hA,hB,Option.bind_some,Option.bind_some,show ak (aC ls) (iN k)=some _ from aY h];rfl
def  R7(f:Fn):Prop:=∀ps ls k l U,Lok ps ls->ls[k]?=!l->Opn ps ls k l U->∀q∈U,f [aA ps,aC ls,iN k,dm q.1]=dp (wD q.2)
def R8(h:R4 cw):R7 (aK 4 4 (sI cw)):=λps ls k l U L hk O q hq=>by
 let⟨w,e⟩:=O.w hq;have hl:=(L.o l (VH hk));have ec:=h ps l.2 q.2 L.v hl.t w.len w.each;rw[<-e]at ec;refine aj rfl ?_;refine q_ret (evX_lf ?_ (lf_w _));rw[clF_a,uW,consX_a,pA,consX_a,fP,consX_a,vg hk rfl rfl];show cx (cw [aA ps,iN l.2,.int q.1.1])=_;rw[ec];rfl
def  R9(f:Fn):Prop:=∀ps ls k l U pr,Lok ps ls->ls[k]?=!l->Opn ps ls k l U->PrOk ps pr->∀q∈U,f [aA ps,aC ls,iN k,dY pr,dm q.1]=dp (.int (ir pr l.2 q.2))
def Sa(h1:R7 pw)(h2:LN wc):R9 (aK 5 5 (lB pw wc)):=λps ls k l U pr L hk O ok q hq=>by
 let⟨w,e⟩:=O.w hq;refine aj rfl ?_;show lB pw wc [sn (aA ps),sn (aC ls),sn (iN k),sn (dY pr),sn (dm q.1)]=_;refine q_ret (evX_lf ?_ rfl);have e1:bz pw (x4 (va 0) (va 1) (va 2) (va 4)) (vw [sn (aA ps),sn (aC ls),sn (iN k),sn (dY pr),sn (dm q.1)])=!(wD q.2):=by
  rw[clF_a];exact congrArg cx (h1 ps ls k l U L hk O q hq)
 rw[clF_a,uW,consX_a,pA,consX_a,fP,consX_a,vg hk rfl rfl,e1];show cx (wc [dY pr,iN l.2,wD q.2])=_;rw[show wc [dY pr,iN l.2,wD q.2]=_ from h2 ps pr l.2 q.2 L.v ok w];rfl
def  vh(pr:List (Vd))(l:Lz)(U:List Pq):List Pe:=U.map λq=>(q.1,ir pr l.2 q.2)
def  KY(f:Fn):Prop:=∀ps ls k l U pr,Lok ps ls->ls[k]?=!l->Opn ps ls k l U->PrOk ps pr->f [aA ps,aC ls,iN k,dY pr]=dp (rwD (vh pr l U))
def Opn.len(L:Lok ps ls)(h:Opn ps ls k l U):U.length<64:=by
 rw[h.pm.length_eq,length_map];have h1:=List.length_filter_le (fitW l.1 (ps.drop l.2)) (wds (ps.drop l.2));rw[nK]at h1;have h2:prod ps=prod (ps.take l.2)*prod (ps.drop l.2):=by rw[<-bR,List.take_append_drop]
 have h3:=(sC L.v l.2).1;have h4:1*prod (ps.drop l.2)<=prod (ps.take l.2)*prod (ps.drop l.2):=Nat.mul_le_mul_right _ h3;have:=L.c;omega
def Ol(h1:R9 pc)(h2:xc op):KY (aK 4 6 (kn pc op)):=λps ls k l U pr L hk O ok=>by
 let⟨T,t1,t2,eo⟩:=h2 ps ls k l L.v L.c L.n L.o hk;have hl:=O.len L;have er:T.map (D9 (u8 ls k l))=U.map (·.1):=by
  refine(Ac (Dt L.v L.n (L.o l (VH hk)) hk).1 t1 t2 O.pm O.up ?_).symm;unfold vz;rw[List.map_map,List.map_map];rfl
 have eo:op [aA ps,aC ls,iN k]=dp (.lst (U.map λq=>dm q.1)):=by
  refine eo.trans ?_;rw[er,List.map_map];rfl
 have hc:∀Y:Ev,Y=[sn (aA ps),sn (aC ls),sn (iN k),sn (dY pr),dp (.lst (U.map λq=>dm q.1)),none]->ae [5] (jX af (va 4)) (gNm 5) tQ (bQ (x2 (va 5) (bz pc (x5 (va 0) (va 1) (va 2) (va 3) (va 5))))) (vw Y)=!((vh pr l U).map kz):=by
  rintro Y rfl;unfold vh;rw[List.map_map];refine aq rfl (λq hq=>?_) (Nat.lt_trans hl (!2));have e:=h1 ps ls k l U pr L hk O ok q hq;simp only[stepF_a,wipe_cons,wipe_nil,sB,iZ,e];rfl
 refine aj rfl ?_;refine q_set (Y':=[sn _,sn _,sn (iN k),sn _,none,none]) ?_ (q_ret (evX_lfs (d:=rwD (vh pr l U)) ?_ rfl (hc _ rfl) (sH _)))
 .exact ev_c rfl eo
 .exact congrArg _ (hc _ rfl)
def KZ{mt:MT}(hm:mt "Wish"=!(k0,f))(hk:k0<=kk)(h:Gw f)(hl:(levs ls gs).length<=24):iY mt kk "levels" (aZ ls gs) []=!(.deep,nh (levs ls gs)):=by
 show((mt "Wish").bind λz=>if z.1<=kk/\("levels":Str) ∉ (["groups","level_letters","level_numbers"]:Vc)then z.2 [aZ ls gs]else none)=_;rw[hm,Option.bind_some,if_pos ⟨hk,by decide⟩];exact h ls gs hl
def K0{mt:MT}(hm:mt "Wish"=!(k0,f))(hk:k0<=kk)(h:Gy f)(hl:(levs ls gs).length<=24):iY mt kk "one_order" (aZ ls gs) []=!(.deep,.bl (Gx (levs ls gs))):=by
 show((mt "Wish").bind λz=>if z.1<=kk/\("one_order":Str) ∉ (["groups","level_letters","level_numbers"]:Vc)then z.2 [aZ ls gs]else none)=_;rw[hm,Option.bind_some,if_pos ⟨hk,by decide⟩];exact h ls gs hl
def DD{mt}(h:iY mt kk m d []=!s)(h0:bx Y 0=!d):wL (va 0) ax mt kk m Y=!s.2:=by
 show cx (kY (va 0) ax mt kk m Y)=_;unfold kY;rw[va_a,h0,Option.bind_some];show cx (iY mt kk m d [])=_;rw[h];rfl
def  K1(ls:pB)(gs:List Gr)(os:Vd):Prop:=levs ls gs=os.map ([·])/\os.length<=24
def  K2(f:Fn):Prop:=∀ls gs os,K1 ls gs os->f [aZ ls gs]=dp .non
def Om{mt:MT}(hm:mt "Wish"=!(k0,f))(hk:k0<=kk)(h:Gy f):K2 (aK 1 1 (ni mt kk)):=λls gs os ho=>by
 have e:=K0 hm hk h (by rw[ho.1,length_map];exact ho.2);rw[show Gx (levs ls gs)=true by rw[ho.1];unfold Gx;rw[List.all_map,List.all_eq_true];exactλ_ _=>rfl]at e;refine lm rfl (Y:=[sn (aZ ls gs)]) ?_;refine q_if0 ?_ rfl;rw[notQ_a,trF_a,DD e rfl];rfl
def  K3(f:Fn):Prop:=∀ls gs os,K1 ls gs os->f [aZ ls gs]=dp (aM os)
def On{mt:MT}(hm:mt "Wish"=!(k0,f))(hk:k0<=kk)(h:Gw f):K3 (aK 1 2 (xg mt kk)):=λls gs os ho=>by
 have e:=KZ hm hk h (by rw[ho.1,length_map];exact ho.2);have hc:ae [1] (jX af (wL (va 0) ax mt kk "levels")) (gNm 1) tQ (aa ak (va 1) (cI 0)) (vw [sn (aZ ls gs),none])=!(os.map D.int):=by
  refine aq (mk:=λi=>aM [i]) ?_ (λi _=>rfl) (Vw ho.2 (!2));rw[bA,DD e rfl];unfold nh;rw[ho.1,List.map_map];rfl
 refine aj rfl ?_;exact q_ret (evX_lfs (congrArg _ hc) rfl hc (lu _))
end K16
namespace K16
open PySem PySem.Spec PyProof.Rows L2
def  qe(hV eW bD bY cq a7:Fn):U1:=(ab (jW (bz a7 (x2 (va 0) (va 1)))) (ab (jW (bz cq (x1 (va 2)))) (ab (jW (bz bY (x2 (va 0) (va 3)))) (ab (aw 4 tB) (ab (iq (jX af (bz hV (x1 (va 2)))) (dk 5) (ab (aw 6 (l5 bD (x4 (va 0) (va 1) (va 5) (va 3)))) (ab (gA 4 (BC (ai (aa (!19) (cK (va 4)) (cI 0))) (JB 6) (l5 eW (x2 (aa ak (va 4) (ng (cI 1))) (va 6))))) aE))) (ab (uF 4) aE))))))
def  gY:U1:=(ab (dj (ai (aa (!19) (cK (va 0)) (cI 0))) (gG (cm (cI 0))) aE) (gG (cm (SX (x1 (aQ (ae [1,2] (jX af (aa ak (va 0) (ng (cI 1)))) (kc 2 (ao (gNm 1) (ao (gNm 2) bd))) tQ (va 2))))))))
def  qf(eY dL:Fn):U1:=(ab (aw 6 (l5 dL (x4 (va 0) (va 1) (va 2) (va 3)))) (ab (aw 7 (l5 eY (x1 (va 6)))) (gG (cm (jA (aa (oB true) (va 7) cN) (jA (aa (!19) (va 4) (va 7)) (aa (!19) (va 5) (va 6))))))))
def sJ{α:Type}[DecidableEq α]{f}(h:∀a b,m7 (f a) (f b)=decide (a=b)):∀xs ys:List α,qD (xs.map f) (ys.map f)=decide (xs=ys)
 |[],[]=>rfl
 |[],_::_=>(decide_eq_false (λz=>nomatch z)).symm
 |_::_,[]=>(decide_eq_false (λz=>nomatch z)).symm
 |x::xs,y::ys=>by
  show(m7 (f x) (f y)&&qD (xs.map f) (ys.map f))=_;rw[h,sJ h xs ys,Bool.eq_iff_iff,and_eq_true,decide_eq_true_eq,decide_eq_true_eq,decide_eq_true_eq,List.cons.injEq]
def fU{β:Type}{f}:∀{xs:List β},(∀x∈xs,ke (f x)=true/\mK (f x)<=n)->pV (xs.map f)=true/\dU (xs.map f)<=n
 |[],_=>⟨rfl,Nat.zero_le _⟩
 |x::xs,h=>by
  let⟨a,b⟩:=h x Vr;let⟨c,d⟩:=fU (xs:=xs) λy hy=>h y (Vs _ hy);refine⟨?_,?_⟩
  .show(ke (f x)&&pV (xs.map f))=true;rw[a,c];rfl
  .show max (mK (f x)) (dU (xs.map f))<=n;omega
def K4{α:Type}[DecidableEq α]{f}(h:∀a b,m7 (f a) (f b)=decide (a=b))(ok:∀x,ke (f x)=true/\mK (f x)<=n)(hn:n<=40)(xs ys:List α):aB false (.lst (xs.map f)) (.lst (ys.map f))=!(.bl (decide (xs=ys))):=by
 let⟨a,b⟩:=fU λx _=>ok x;let⟨c,_⟩:=fU λx _=>ok x;unfold aB kU;rw[if_neg (by show¬ (false&&_&&_)=true;exact Bool.false_ne_true),if_pos]
 .show some (D.bl (qD _ _))=_;rw[sJ h]
 .show(true&&pV (xs.map f)&&pV (ys.map f)&&decide (dU (xs.map f)+1<=50))=true;rw[a,c,decide_eq_true (!1)];rfl
def Oo(a b:Pe):m7 (kz a) (kz b)=decide (a=b):=by
 show((a.1.1==b.1.1&&(a.1.2==b.1.2&&true))&&(a.2==b.2&&true))=_;let⟨⟨a1,a2⟩,a3⟩:=a;let⟨⟨b1,b2⟩,b3⟩:=b;rw[Bool.eq_iff_iff];simp only[Bool.and_true,and_eq_true,beq_iff_eq,decide_eq_true_eq,Prod.mk.injEq]
def Op(a:Pe):ke (kz a)=true/\mK (kz a)<=2:=⟨rfl,by show max (max 0 (max 0 0)+1) (max 0 0)+1<=2;decide⟩
def Oq(a b:List Pe):m7 (rwD a) (rwD b)=decide (a=b):=sJ Oo a b
def Ic(a:List Pe):ke (rwD a)=true/\mK (rwD a)<=3:=by
 let⟨x,y⟩:=fU λx _=>Op x;exact⟨x,Nat.succ_le_succ y⟩
def  c6(T:List (List Pe)):D:=.lst (T.map rwD)
def Ie(S T:List (List Pe)):aB false (c6 S) (c6 T)=!(.bl (decide (S=T))):=K4 Oq Ic (!2) S T
def  nxt(F:Nat->List Pe)(T:List (List Pe))(k:Nat):List Pe:=match T.getLast? with
 |none=>F k
 |some A=>jG A (F k)
def  tbl(F:Nat->List Pe)(r:Vb):List (List Pe):=r.foldl (λT k=>T++[nxt F T k]) []
def lC(F:Nat->List Pe)(r:Vb)(k:Nat):tbl F (r++[k])=tbl F r++[nxt F (tbl F r) k]:=by
 unfold tbl;rw[List.foldl_append];rfl
def sK(F:Nat->List Pe):∀r:Vb,(tbl F r).length=r.length:=jr rfl λr k ih=>by rw[lC,length_append,length_append,ih];rfl
def GO(A:List Pe)(h:Up C):Up (jG A C):=by
 refine List.Pairwise.filterMap (Dz A) (λa b hab x hx y hy=>?_) h;have key:∀{e z:Pe},Dz A e=!z->z.1=e.1:=λ{e z} he=>by
  unfold Dz at he;split at he
  .cases he
  .cases he;rfl
 rw[key hx,key hy];exact hab
def  vA(A:List Pe):Prop:=Up A/\A.length<100
def DE(A:List Pe)(h:vA C):vA (jG A C):=⟨GO A h.1,Vw (List.length_filterMap_le _ _) h.2⟩
def yQ(h:vA (F k)):vA (nxt F T k):=by
 unfold nxt;split
 .exact h
 .exact DE _ h
def jv{α:Type}{f:α->D}{T:List α}{A}(h:T.getLast?=!A):nX (T.map f) (-1)=!(f A):=by
 have hl:0<T.length:=by
  cases T with
  |nil=>cases h
  |cons _ _=>exact Nat.succ_pos _
 unfold nX zd;rw[length_map,if_neg (!2),if_pos (!1)];show(T.map f)[_]?=_;rw[getElem?_map,show(-1+(T.length:Int)).toNat=T.length-1 by omega,<-List.getLast?_eq_getElem?,h];rfl
def  ltz(ls:List Lz):pB:=ls.map λl=>(l.1,(l.2:Int))
def  Fk(pr:List (Vd))(ls:List Lz)(U:Nat->List Pq)(k:Nat):List Pe:=vh pr (ls.getD k (1,0)) (U k)
def Opn.fin(L:Lok ps ls)(O:Opn ps ls k l (U k)):vA (Fk pr ls U k):=by
 refine⟨?_,?_⟩
 .unfold Fk vh Up;rw[List.pairwise_map];exact O.up
 .unfold Fk vh;rw[length_map];have:=O.len L;omega
structure TbOk(ps:U4)(ls:List Lz)(gs:List Gr)(r:Vb)(pr:List (Vd))(U:Nat->List Pq):Prop where
 L:Lok ps ls
 p:PrOk ps pr
 u:∀k l,ls[k]?=!l->Opn ps ls k l (U k)
 o:K1 (ltz ls) gs (cL r)
 r:∀k∈r,k<ls.length
def TbOk.fin{ps ls gs r pr U}(h:TbOk ps ls gs r pr U){k:Nat}(hk:k∈r):vA (Fk pr ls U k):=Opn.fin h.L (h.u k _ (getElem?_eq_getElem (h.r k hk)))
def  Sb(f:Fn):Prop:=∀ps ls gs r pr U,TbOk ps ls gs r pr U->f [aA ps,aC ls,aZ (ltz ls) gs,dY pr]=dp (c6 (tbl (Fk pr ls U) r))
abbrev sT(ps:U4)(ls:List Lz)(gs:List Gr)(pr:List (Vd))(T:List (List Pe))(o5 o6:U6):Ev:=[sn (aA ps),sn (aC ls),sn (aZ (ltz ls) gs),sn (dY pr),dp (c6 T),o5,o6]
def Sc{oo rb pc lp lo ll}(h1:K3 oo)(h2:KU rb)(h3:KY pc)(h4:sD lp)(h5:K2 lo)(h6:sA ll):Sb (aK 4 7 (qe oo rb pc lp lo ll)):=λps ls gs r pr U t=>by
 have e1:=h1 _ _ _ t.o;refine aj rfl ?_;refine pz (clF_a.trans (congrArg cx (h6 ps ls t.L.n t.L.o))) (pz (clF_a.trans (congrArg cx (h5 _ _ _ t.o))) (pz (clF_a.trans (congrArg cx (h4 ps pr t.L.v t.p))) (q_set (evX_lfs rfl rfl rfl rfl)
  (q_forB (xs:=r) (mk:=λk=>iN k) (λi Y=>∃o5 o6,(∀A∈tbl (Fk pr ls U) (r.take i),vA A)/\Y=sT ps ls gs pr (tbl (Fk pr ls U) (r.take i)) o5 o6) ?_ ⟨none,none,(λ_ z=>nomatch z),rfl⟩ ?_ ?_))))
 .rw[bA,clF_a];refine(congrArg (λo=>(cx o).bind seqD) e1).trans ?_;show some ((cL r).map D.int)=_;unfold cL;rw[List.map_map];rfl
 .rintro i k Y hk ⟨o5,o6,hf,rfl⟩;have hkr:=VH hk;have hl:=t.r k hkr;have hr24:r.length<=24:=by have:=t.o.2;unfold cL at this;rwa [length_map]at this
  have ec:=h3 ps ls k _ (U k) pr t.L (getElem?_eq_getElem hl) (t.u k _ (getElem?_eq_getElem hl)) t.p;have eF:vh pr ls[k] (U k)=Fk pr ls U k:=by
   unfold Fk;rw[List.getD_eq_getElem?_getD,getElem?_eq_getElem hl];rfl
  rw[eF]at ec;have fF:=t.fin hkr;have et:tbl (Fk pr ls U) (r.take (i+1))=tbl (Fk pr ls U) (r.take i)++[nxt (Fk pr ls U) (tbl (Fk pr ls U) (r.take i)) k]:=by
   rw[List.take_succ,hk,Option.toList_some,lC]
  have tl:(tbl (Fk pr ls U) (r.take i)).length+1<big:=by
   rw[sK,List.length_take];exact Vw (show _<=25 by omega) (!2)
  have fin:∀A∈tbl (Fk pr ls U) (r.take i)++[nxt (Fk pr ls U) (tbl (Fk pr ls U) (r.take i)) k],vA A:=λA hA=>by
   rcases mem_append.mp hA with h|h
   .exact hf A h
   .rw[mem_singleton.mp h];exact yQ fF
  rw[et];generalize tbl (Fk pr ls U) (r.take i)=T at*;generalize hC:Fk pr ls U k=C at*;cases hT:T.getLast? with
  |none=>
   have hT0:=List.getLast?_eq_none_iff.mp hT;subst hT0;have hN:nxt (Fk pr ls U) [] k=C:=hC;refine⟨sT ps ls gs pr [C] (sn (iN k)) none,?_,_,_,fin,by rw[hN];rfl⟩;refine q_set (ev_c rfl ec) (q_st (appF_deep rfl rfl rfl tl) rfl)
  |some A=>
   have hA:=hf A (List.mem_of_getLast? hT);have eb:=h2 A C hA.1 fF.1 hA.2 fF.2;have hN:nxt (Fk pr ls U) T k=jG A C:=by unfold nxt;rw[hT,hC]
   refine⟨sT ps ls gs pr _ (sn (iN k)) (dp (rwD C)),?_,_,_,fin,by rw[hN]⟩;have hne:T.length≠0:=λz=>by rw[List.length_eq_zero_iff.mp z]at hT;cases hT
   have hq:ai (aa (!19) (cK (va 4)) (cI 0)) (vw (sT ps ls gs pr T (sn (iN k)) (dp (rwD C))))=!false:=by
    simp only[sB,bf,show seqD (c6 T)=some _ from rfl,length_map,jZ];rw[if_neg Bool.false_ne_true,decide_eq_false (!1)]
   have ex:ak (c6 T) (.int (-1))=!(rwD A):=jv hT;refine q_set (ev_c rfl ec) (q_st (appF_deep (d:=rwD (jG A C)) (Y':=sT ps ls gs pr T (sn (iN k)) (dp (rwD C))) rfl ?_ rfl (by rw[length_map];exact tl)) ?_)
   .show BC _ _ _ (sT ps ls gs pr T (sn (iN k)) (dp (rwD C)))=_;unfold BC;rw[hq,Option.bind_some,if_neg Bool.false_ne_true];refine ev_c ?_ eb;show((ak (c6 T) (.int (-1))).bind _)=_;rw[ex];rfl
   .show some (Out.nx [_,_,_,_,dp (.lst _),_,_])=!(Out.nx [_,_,_,_,dp (.lst _),_,_]);rw[List.map_append];rfl
 .rintro Y ⟨o5,o6,_,rfl⟩;rw[List.take_length];rfl
def  tc(T:List (List Pe)):Vj:=match T.getLast? with
 |none=>some 0
 |some A=>if A.isEmpty then none else !(mnZ (A.map (·.2)))
def  Se(f:Fn):Prop:=∀T:List (List Pe),(∀A∈T,A.length<100)->f [c6 T]=dp (GN (tc T))
def nO{β:Type}(g:β->Int):∀xs:List β,a8 (xs.map λx=>.int (g x))=!(xs.map g)
 |[]=>rfl
 |x::xs=>by
  show(a8 (xs.map λx=>.int (g x))).bind _=_;rw[nO g xs];rfl
def Sf:Se (aK 1 3 gY):=λT hl=>by
 refine aj rfl ?_;show gY [sn (c6 T),none,none]=_;unfold gY tc;have hq:ai (aa (!19) (cK (va 0)) (cI 0)) (vw [sn (c6 T),none,none])=!(decide (T.length=0)):=by
  simp only[sB,bf,show seqD (c6 T)=some _ from rfl,length_map,jZ];rw[if_neg Bool.false_ne_true];congr 1;rw[decide_eq_decide];omega
 cases hT:T.getLast? with
 |none=>
  have hT0:=List.getLast?_eq_none_iff.mp hT;subst hT0;exact aS ((ifS_t hq).trans rfl)
 |some A=>
  have hne:T.length≠0:=λz=>by rw[List.length_eq_zero_iff.mp z]at hT;cases hT
  rw[decide_eq_false hne]at hq;have ex:ak (c6 T) (.int (-1))=!(rwD A):=jv hT;have hA:=hl A (List.mem_of_getLast? hT);have hc:ae [1,2] (jX af (aa ak (va 0) (ng (cI 1)))) (kc 2 (ao (gNm 1) (ao (gNm 2) bd))) tQ (va 2) (vw [sn (c6 T),none,none])=!(A.map λe=>.int e.2):=by
   refine aq (mk:=kz) ?_ (λe _=>rfl) (Nat.lt_trans hA (!2));show((ak (c6 T) (.int (-1))).bind seqD)=_;rw[ex];rfl
  refine q_if0 hq (q_ret (evX_lf (d:=GN (if A.isEmpty=true then none else !(mnZ (A.map (·.2))))) ?_ (lf_oi _)));unfold SX;rw[fP,consX_a,lsF_a,hc];show(a8 (A.map λe=>.int e.2)).bind _=_;rw[nO];show some (if(A.map (·.2)).isEmpty=true then _ else _)=_;rw[List.isEmpty_map];cases A.isEmpty<;>rfl
def  Sg(f:Fn):Prop:=∀ps ls gs r pr U (c:Int) (S:List (List Pe)),TbOk ps ls gs r pr U->f [aA ps,aC ls,aZ (ltz ls) gs,dY pr,.int c,c6 S]=dp (.bl (decide (tc (tbl (Fk pr ls U) r)=!c/\S=tbl (Fk pr ls U) r)))
def yR:∀r':Vb,(∀k∈r',vA (F k))->∀A∈tbl F r',vA A:=jr (λ_ _ z=>nomatch z) λr' k ih h A hA=>by
 rw[lC]at hA;rcases mem_append.mp hA with h1|h1
 .exact ih (λk hk=>h k (VB _ hk)) A h1
 .rw[mem_singleton.mp h1];exact yQ (h k (VC _ Vr))
def yS(t:TbOk ps ls gs r pr U):∀A∈tbl (Fk pr ls U) r,vA A:=yR r λk hk=>t.fin hk
def Sh{co lt}(h1:Se co)(h2:Sb lt):Sg (aK 6 8 (qf co lt)):=λps ls gs r pr U c S t=>by
 have e1:=h2 ps ls gs r pr U t;have e2:=h1 (tbl _ r) λA hA=>(yS t A hA).2;generalize tbl (Fk pr ls U) r=T at e1 e2⊢;refine aj rfl ?_;refine q_set (ev_c rfl e1) (q_set (ev_c rfl e2) (q_ret (evX_lf ?_ rfl)));show jA (aa (oB true) (va 7) cN) (jA (aa (!19) (va 4) (va 7)) (aa (!19) (va 5) (va 6))) [_,_,_,_,!(.int c),!(c6 S),!(c6 T),!(GN (tc T))]=_;have eT:=Ie S T;cases htc:tc T with
 |none=>
  rfl
 |some m=>
  have eN:oB true (.int m) .non=!_:=rfl;have hd:decide (some m=!c/\S=T)=(decide (c=m)&&decide (S=T)):=by
   rw[Bool.eq_iff_iff,and_eq_true,decide_eq_true_eq,decide_eq_true_eq,decide_eq_true_eq,Option.some.injEq];exact⟨λz=>⟨z.1.symm,z.2⟩,λz=>⟨z.1.symm,z.2⟩⟩
  rw[hd];simp only[wN,sB,show cN _=some D.non from rfl,GN,eN,jZ,eT];cases decide (c=m)<;>rfl
end K16
namespace K16
open PySem PySem.Spec PyProof.Rows L2
def  lD(cH f7:Fn):U1:=(ab (aw 4 tB) (ab (iq (jX af (va 2)) (dk 5) (ab (aw 6 tB) (ab (iq (jX af (bz cH (x3 (va 0) (va 1) (va 5)))) (zu 2 (b8 (dk 7) (b8 (dk 8) lU))) (ab (aw 9 (l5 f7 (x3 (va 3) (aa ak (aa ak (va 1) (va 5)) (cI 1)) (va 8)))) (ab (dj (ai (aa (!19) (cK (va 4)) (cI 0))) (ab (gA 6 (bb (bQ (x2 (va 7) (va 9))) af (vx (x2 (frX (va 7) af af) (frX (va 9) af af))))) aE) (ab (aw 10 (bb (aQ (ae [11,12] (jX af (aa ak (va 4) (ng (cI 1)))) (kc 2 (ao (gNm 11) (ao (gNm 12) bd))) (ai (aa oq (va 11) (va 7))) (va 12))) (ae [11,12] (jX af (aa ak (va 4) (ng (cI 1)))) (kc 2 (ao (gNm 11) (ao (gNm 12) bd))) (ai (aa oq (va 11) (va 7))) (va 12)) (fCo [11,12] (jX af (aa ak (va 4) (ng (cI 1)))) (kc 2 (ao (gNm 11) (ao (gNm 12) bd))) (ai (aa oq (va 11) (va 7))) (frX (va 12) af af)))) (ab (dj (ai (aa nw (cK (va 10)) (cI 0))) (ab (gA 6 (bb (bQ (x2 (va 7) (aa av (bn minD' (x1 (va 10))) (va 9)))) af (vx (x2 (frX (va 7) af af) (frX (aa av (bn minD' (x1 (va 10))) (va 9)) (bI (bn minD' (x1 (va 10))) (va 9)) af))))) aE) aE) aE))) aE))) (ab (m9 4 6 (cm (va 6)) (va 6)) aE)))) (ab (uF 4) aE)))
def  fq(pr:List (Vd))(l:Lz)(q:Pq):Pe:=(q.1,ir pr l.2 q.2)
def  gZ(T:List (List Pe))(C:List Pe):List Pe:=match T.getLast? with
 |none=>C
 |some A=>jG A C
def DF(T:List (List Pe))(C:List Pe):(gZ T C).length<=C.length:=by
 unfold gZ;split
 .exact VI _
 .exact List.length_filterMap_le _ _
abbrev sV(ps:U4)(ls:List Lz)(r:Vb)(pr:List (Vd))(c:Cat)(T:List (List Pe))(o5 o6 o7 o8 o9 o10:U6):Ev:=[sn (az ps),sn (aC ls),sn (aM (cL r)),sn (dY pr),!(c,c6 T),o5,o6,o7,o8,o9,o10,none,none]
def  GP(op f:Fn):Prop:=∀ps ls r pr U,Lok ps ls->PrOk ps pr->(∀k l,ls[k]?=!l->Opn ps ls k l (U k)/\op [az ps,aC ls,iN k]=dp (.lst ((U k).map Ab)))->(∀k∈r,k<ls.length)->r.length<=24->
 ∃c,f [az ps,aC ls,aM (cL r),dY pr]=!(c,c6 (tbl (Fk pr ls U) r))
def pL(h1:gA i g Y=none)(h0:ownL Y i=!(c0,ds0))(h2:R (di (frzS [j] Y))=!d)(ho:ownL (frzS [j] Y) i=!(c,ds))(hl:ds.length+1<big):
  m9 i j g R Y=!(.nx ((frzS [j] Y).set i (!(.top,.lst (ds++[d]))))):=by
 unfold m9 aW
 rw[h1]
 unfold gA ui
 simp only[h0,h2,ho,Option.bind_some]
 rw[if_pos hl]
 unfold newCat
 rw[if_neg (by rintro⟨_,h⟩;cases h)]
def K5(p:Sd)(hA:A.length<100){J:Fx}(hJ:J [d0,d1,d2,d3,d4,d5,d6,!(dm p),d8,d9,d10,none,none]=!(A.map kz)):
  ae [11,12] J (kc 2 (ao (gNm 11) (ao (gNm 12) bd))) (ai (aa oq (va 11) (va 7))) (va 12) [d0,d1,d2,d3,d4,d5,d6,!(dm p),d8,d9,d10,none,none]=!((lss A p).map D.int):=by
 unfold lss
 rw[List.map_map]
 refine qc hJ (λx _=>?_) (Nat.lt_trans hA (!2))
 show(ai (aa oq (va 11) (va 7)) [d0,d1,d2,d3,d4,d5,d6,!(dm p),d8,d9,d10,!(dm x.1),!(.int x.2)]).bind (λc=>if c=true then !(!(D.int x.2))else !none)=_
 simp only[sB,DB]
 cases lt x.1 p<;>rfl
def Os(h1:LN lc):GP op (aK 4 13 (lD op lc)):=λps ls r pr U L ok hU hr r24=>by
 suffices h:∃c:Cat,lD op lc [sn _,sn _,sn _,sn _,none,none,none,none,none,none,none,none,none]=!(.rt (c,c6 (tbl _ r)))/\True by
  let⟨c,h,_⟩:=h;exact⟨c,aj rfl h⟩
 refine x_set (evX_lfs rfl rfl rfl rfl) (x_for (xs:=r) (mk:=λk=>iN k) (λi Y=>∃c o5 o6 o7 o8 o9 o10,c≠.sh/\Y=sV ps ls r pr c (tbl (Fk pr ls U) (r.take i)) o5 o6 o7 o8 o9 o10) ?_ ⟨.deep,none,none,none,none,none,none,(λz=>nomatch z),rfl⟩ ?_ ?_)
 .rw[bA,va_a];show some ((cL r).map D.int)=_;unfold cL;rw[List.map_map];rfl
 .rintro i k Y hk ⟨c,o5,o6,o7,o8,o9,o10,hc,rfl⟩;have hkr:=VH hk;have hl:=hr k hkr;let⟨O,eo⟩:=hU k _ (getElem?_eq_getElem hl);have et:tbl (Fk pr ls U) (r.take (i+1))=tbl (Fk pr ls U) (r.take i)++[gZ (tbl (Fk pr ls U) (r.take i)) (Fk pr ls U k)]:=by
   rw[List.take_succ,hk,Option.toList_some,lC];rfl
  have eF:(U k).map (fq pr ls[k])=Fk pr ls U k:=by
   unfold Fk;rw[List.getD_eq_getElem?_getD,getElem?_eq_getElem hl];rfl
  have tl:(tbl (Fk pr ls U) (r.take i)).length+1<big:=by
   rw[sK,List.length_take];exact Vw (show _<=25 by omega) (!2)
  have ul:=O.len L;have hf:∀A∈tbl (Fk pr ls U) (r.take i),A.length<100:=λA hA=>(yR _ (λk hk=>Opn.fin L (hU k _ (getElem?_eq_getElem (hr k (List.mem_of_mem_take hk)))).1) A hA).2;rw[et];generalize tbl (Fk pr ls U) (r.take i)=T at*;generalize hl':ls[k]=l at*;have hk':ls[k]?=!l:=by rw[getElem?_eq_getElem hl,hl']
  have hlen:ai (aa (!19) (cK (va 4)) (cI 0)) [!(az ps),!(aC ls),!(aM (cL r)),!(dY pr),!(c6 T)]=!(decide (T.length=0)):=by
   simp only[sB,bf,show seqD (c6 T)=some _ from rfl,length_map,jZ];rw[if_neg Bool.false_ne_true];congr 1;rw[decide_eq_decide];omega
  rw[show dk 5 (iN k) (sV ps ls r pr c T o5 o6 o7 o8 o9 o10)=some (sV ps ls r pr c T _ o6 o7 o8 o9 o10)from rfl];simp only[Option.bind_some];refine x_set (evX_lfs rfl rfl rfl rfl) (x_for (xs:=U k) (mk:=Ab) (λj Y=>∃o7 o8 o9 o10,Y=sV ps ls r pr c T (sn (iN k)) (dp (rwD (gZ T (((U k).take j).map (fq pr l))))) o7 o8 o9 o10) ?_ ⟨o7,o8,o9,o10,?_⟩ ?_ ?_)
  .rw[bA,clF_a];have:∀o,x3 (va 0) (va 1) (va 5) (di ((sV ps ls r pr c T (sn (iN k)) o6 o7 o8 o9 o10).set 6 o))=![az ps,aC ls,iN k]:=λo=>rfl;rw[this,Option.bind_some,eo];rfl
  .show _=sV ps ls r pr c T _ (dp (rwD (gZ T []))) o7 o8 o9 o10;have:gZ T []=[]:=by unfold gZ;cases T.getLast?<;>rfl
   rw[this];rfl
  .rintro j q Y hq ⟨p7,p8,p9,p10,rfl⟩;have hqU:=VH hq;let⟨w,_⟩:=O.w hqU;have ej:((U k).take (j+1)).map (fq pr l)=((U k).take j).map (fq pr l)++[fq pr l q]:=by
    rw[List.take_succ,hq,Option.toList_some,List.map_append];rfl
   have el:(((U k).take j).map (fq pr l)).length<=64:=by rw[length_map,List.length_take];omega
   rw[ej];generalize ((U k).take j).map (fq pr l)=C at*;have ew:lc [dY pr,iN l.2,wD q.2]=dp (.int _):=h1 ps pr l.2 q.2 L.v ok w;have cl:=DF T C;refine x_set (ev_c ?_ ew) ?_
   .rw[uW,consX_a,pA,consX_a,vg hk' rfl rfl];rfl
   cases hT:T.getLast? with
   |none=>
    have hT0:=List.getLast?_eq_none_iff.mp hT;subst hT0;refine jE ((ifS_t hlen).trans (q_st (appF_deep rfl (evX_lf rfl rfl) rfl (by rw[length_map];exact Vw (show _<=65 by omega) (!2))) rfl)) (x_end ⟨sn (dm q.1),sn (wD q.2),dp (.int (ir pr l.2 q.2)),p10,?_⟩);show sV ps ls r pr c [] (sn (iN k)) (dp (.lst (C.map kz++[kz (fq pr l q)]))) _ _ _ _=sV ps ls r pr c [] (sn (iN k)) (dp (.lst ((C++[fq pr l q]).map kz))) _ _ _ _;rw[List.map_append];rfl
   |some A=>
    have hne:T.length≠0:=λz=>by rw[List.length_eq_zero_iff.mp z]at hT;cases hT
    rw[decide_eq_false hne]at hlen;have ex:ak (c6 T) (.int (-1))=!(rwD A):=jv hT;have hA:=hf A (List.mem_of_getLast? hT);have er:gZ T (C++[fq pr l q])=gZ T C++(Dz A (fq pr l q)).toList:=by
     unfold gZ jG;rw[hT];cases h:Dz A (fq pr l q)<;>simp[h]
    have hc2:∀Y:Ev,Y=sV ps ls r pr c T (sn (iN k)) (dp (rwD (gZ T C))) (sn (dm q.1)) (sn (wD q.2)) (dp (.int (ir pr l.2 q.2))) p10->ae [11,12] (jX af (aa ak (va 4) (ng (cI 1)))) (kc 2 (ao (gNm 11) (ao (gNm 12) bd))) (ai (aa oq (va 11) (va 7))) (va 12) (vw Y)=!((lss A q.1).map D.int):=by
     rintro Y rfl;refine K5 q.1 hA ?_;show((ak (c6 T) (.int (-1))).bind seqD)=_;rw[ex];rfl
    rw[er];unfold Dz;rw[show(fq pr l q).1=q.1 from rfl,show(fq pr l q).2=ir pr l.2 q.2 from rfl];have hs:=evX_lfs (R:=aQ (ae [11,12] (jX af (aa ak (va 4) _)) (kc 2 (ao _ (ao _ bd))) (ai _) (va 12))) (Sp:=fCo [11,12] (jX af (aa ak (va 4) (ng (cI 1)))) (kc 2 (ao (gNm 11) (ao (gNm 12) bd))) (ai (aa oq (va 11) (va 7))) (frX (va 12) af af)) (congrArg _ (hc2 _ rfl)) rfl (hc2 _ rfl) (lu _);have hg:∀o6,ai (aa nw (cK (va 10)) (cI 0)) (vw (sV ps ls r pr c T (sn (iN k)) o6 (sn (dm q.1)) (sn (wD q.2)) (dp (.int (ir pr l.2 q.2))) (dp (aM (lss A q.1)))))=!(not (lss A q.1).isEmpty):=λo6=>by
     simp only[sB,bf,seq_sc,length_map,lX];congr 1;cases lss A q.1 with
     |nil=>rfl
     |cons _ _=>exact decide_eq_true (by simp only[length_cons];omega)
    cases hE:(lss A q.1).isEmpty with
    |true=>
     have hg:=hg (dp (rwD (gZ T C)));rw[hE]at hg;refine jE ((dX hlen).trans (q_set hs (q_if0 hg rfl))) (x_end ⟨sn (dm q.1),sn (wD q.2),dp (.int (ir pr l.2 q.2)),dp (aM (lss A q.1)),?_⟩);rw[if_pos rfl,show(none:Option Pe).toList=[]from rfl,List.append_nil];rfl
    |false=>
     have hg:=hg (dp (rwD (gZ T C)));rw[hE]at hg;have em:minD' [aM (lss A q.1)]=!(.int (mnZ (lss A q.1))):=by
      show(a8 ((lss A q.1).map D.int)).bind _=_;rw[nO,Option.bind_some,List.map_id'];rw[hE,if_neg Bool.false_ne_true]
     refine jE ((dX hlen).trans (q_set hs (q_st ((ifS_t hg).trans (q_st (appF_deep (d:=kz (q.1,mnZ (lss A q.1)+ir pr l.2 q.2)) rfl (evX_lf ?_ rfl) rfl (by rw[length_map];exact Vw (show _<=65 by omega) (!2))) rfl)) rfl))) (x_end ⟨sn (dm q.1),sn (wD q.2),dp (.int (ir pr l.2 q.2)),dp (aM (lss A q.1)),?_⟩)
     .show bQ (x2 (va 7) (aa av (bn minD' (x1 (va 10))) (va 9))) [_,_,_,_,_,_,_,!(dm q.1),_,!(.int (ir pr l.2 q.2)),!(aM (lss A q.1)),_,_]=_;simp only[iZ,sB,em];rfl
     .rw[if_neg Bool.false_ne_true];show sV ps ls r pr c T (sn (iN k)) (dp (.lst ((gZ T C).map kz++[_]))) _ _ _ _=sV ps ls r pr c T (sn (iN k)) (dp (.lst ((gZ T C++[_]).map kz))) _ _ _ _;rw[List.map_append];rfl
  .rintro Y ⟨p7,p8,p9,p10,rfl⟩;rw[List.take_length,eF];have ow:∀o5 o6 o7 o8 o9 o10,ownL (sV ps ls r pr c T o5 o6 o7 o8 o9 o10) 4=!(c,T.map rwD):=λ_ _ _ _ _ _=>by cases c<;>first|exact absurd rfl hc|rfl
   refine jE (pL (sk (evX_fz rfl rfl rfl rfl rfl rfl) rfl) (ow _ _ _ _ _ _) rfl (ow _ (sn (rwD (gZ T _))) _ _ _ _) (by rw[length_map];exact tl)) (x_end ⟨.top,sn (iN k),sn (rwD (gZ T (Fk pr ls U k))),p7,p8,p9,p10,(λz=>nomatch z),?_⟩);show[_,_,_,_,!(Cat.top,D.lst (T.map rwD++[rwD (gZ T (Fk pr ls U k))])),_,_,_,_,_,_,_,_]=[_,_,_,_,!(Cat.top,D.lst ((T++[gZ T (Fk pr ls U k)]).map rwD)),_,_,_,_,_,_,_,_];rw[List.map_append];rfl
 .rintro Y ⟨c,o5,o6,o7,o8,o9,o10,hc,rfl⟩;rw[List.take_length];exact⟨c,rfl,trivial⟩
end K16
namespace K16
open PySem PySem.Spec PyProof.Rows L2
def  lE:U1:=(ab (aw 1 (bb (aQ (cJ (x1 (bQ ax)))) (cJ (x1 (bQ ax))) (CA (x1 (frX (bQ ax) af (vx ax)))))) (ab (iq (jX af (va 0)) (dk 2) (ab (aw 3 tB) (ab (CB 1 (jX af (va 1)) (dk 4) (ab (iq (jR (x1 (cK (va 2)))) (dk 5) (ab (gA 3 (bb (aa av (va 4) (bQ (x1 (va 5)))) (bI (va 4) (bQ (x1 (va 5)))) af)) aE)) aE)) (ab (aw 1 (cm (va 3))) aE)))) (ab (uF 1) aE)))
def x_forW{α β:Type}{J:Fx}{out:α->Option Out}{Pr:α->Prop}{xs:List β}{mk}(I:Nat->Ev->Prop)(hh:(J (di Y)=none/\Y1=frzS [j] Y)\/Y1=Y)(hJ:J (di Y1)=!(xs.map mk))(h0:I 0 Y1)(hs:∀(i:Nat)(x:β)(Y:Ev),xs[i]?=!x->I i Y->∃Y',(tg (mk x) Y).bind F=!(.nx Y')/\I (i+1) Y')(k:∀Y',I xs.length Y'->∃a,G Y'=out a/\Pr a):∃a,ab (CB j J tg F) G Y=out a/\Pr a:=by
 have hs':∀(i:Nat)(d:D)(Y:Ev),(xs.map mk)[i]?=!d->I i Y->∃Y',(tg d Y).bind F=!(.nx Y')/\I (i+1) Y':=λi d Y hd hi=>by
  rw[getElem?_map]at hd;cases hx:xs[i]? with
  |none=>rw[hx]at hd;cases hd
  |some x=>rw[hx]at hd;cases hd;exact hs i x Y hx hi
 let⟨Y',e,i⟩:=forD_inv (xs.map mk) I _ h0 hs';rw[length_map]at i;have e':gT J tg F Y1=!(.nx Y'):=by unfold gT;rw[hJ];exact e
 refine jE ?_ (k _ i);rcases hh with⟨hN,rfl⟩|rfl
 .exact Kw hN e'
 .unfold CB aW;rw[e']
noncomputable def  wst(W:List (Vb))(n:Nat):List (Vb):=W.flatMap λw=>(!20).map λk=>w++[k]
def yT(n:Nat):∀W:List (Vb),(wst W n).length=W.length*n
 |[]=>by rw[List.length_nil,Nat.zero_mul];rfl
 |w::W=>by
  show((!20).map _++wst W n).length=_;rw[length_append,length_map,length_range,yT n W,length_cons,Nat.succ_mul,Nat.add_comm]
def  wdw(rs:U4):List (Vb):=rs.foldl (λW p=>wst W p.length) [[]]
def vi(rs:U4)(p:List Pk):wdw (rs++[p])=wst (wdw rs) p.length:=by unfold wdw;rw[List.foldl_append];rfl
def yU{α β:Type}(g:α->β)(f:α->List β):∀l:List α,(l.flatMap λa=>g a::f a).Perm (l.map g++l.flatMap f)
 |[]=>.nil
 |a::l=>by
  rw[List.flatMap_cons,List.flatMap_cons,List.map_cons,List.cons_append,List.cons_append];refine List.Perm.cons _ (((yU g f l).append_left (f a)).trans ?_);rw[<-List.append_assoc,<-List.append_assoc];exact List.perm_append_comm.append_right _
def vj(n:Nat):∀W:List (Vb),(wst W n).Perm ((!20).flatMap λk=>W.map λw=>w++[k])
 |[]=>by
  have:((!20).flatMap λk=>([]:List (Vb)).map λw=>w++[k])=[]:=by simp
  rw[this];exact .nil
 |w::W=>by
  show((!20).map _++wst W n).Perm _;exact((vj n W).append_left _).trans (yU (λk=>w++[k]) (λk=>W.map λw=>w++[k]) (!20)).symm
def pM:∀rs:U4,(wdw rs).Perm (wds rs):=jr (List.Perm.refl _) λrs p ih=>by
 rw[vi,ly];exact(List.Perm.flatMap_right _ ih).trans (vj p.length _)
def  LO(W:List (Vb)):D:=.lst (W.map wD)
abbrev sU(rs:U4)(c:Cat)(W:List (Vb))(o2 o3 o4 o5:U6):Ev:=[sn (az rs),!(c,LO W),o2,o3,o4,o5]
def Ot(h6:w.length<=6)(h4:bx Y 4=!(wD w))(h5:bx Y 5=!(iN m)):aa av (va 4) (bQ (x1 (va 5))) Y=!(wD (w++[m])):=by
 rw[bin2_a,va_a,h4,Option.bind_some,iZ,fP,consX_a,va_a,h5,Option.bind_some,nilX_a,Option.bind_some,capL_1,Option.bind_some];show(if(w.map _).length+1<big then !(D.tup _)else none)=_;rw[if_pos (by rw[length_map];exact Vw (show _<=7 by omega) (!2))];unfold wD;rw[List.map_append];rfl
def  K6(f:Fn):Prop:=∀rs:U4,prod rs<64->(∀p∈rs,1<=p.length/\p.length<=6)->rs.length<=6->∃c,f [az rs]=!(c,LO (wdw rs))
def Ou:K6 (aK 1 6 lE):=λrs h64 hp hl6=>by
 suffices h:∃c:Cat,lE [sn _,none,none,none,none,none]=!(.rt (c,LO _))/\True by
  let⟨c,h,_⟩:=h;exact⟨c,aj rfl h⟩
 have wl:∀i,(wdw (rs.take i)).length<=64:=λi=>by
  rw[(pM _).length_eq,nK];have h1:prod rs=prod (rs.take i)*prod (rs.drop i):=by rw[<-bR,List.take_append_drop]
  have h2:1<=prod (rs.drop i):=nN λp h=>(hp p (List.mem_of_mem_drop h)).1;have h3:prod (rs.take i)*1<=prod (rs.take i)*prod (rs.drop i):=Nat.mul_le_mul_left _ h2;omega
 refine x_set (evX_lfs rfl rfl rfl rfl) (x_for (λi Y=>∃c o2 o3 o4 o5,(c=.deep\/c=.sh)/\Y=sU rs c (wdw (rs.take i)) o2 o3 o4 o5) rfl ⟨.deep,none,none,none,none,.inl rfl,rfl⟩ ?_ ?_)
 .rintro i p Y hi ⟨c,o2,o3,o4,o5,hc,rfl⟩;have hpp:=hp p (VH hi);have et:wdw (rs.take (i+1))=wst (wdw (rs.take i)) p.length:=by rw[List.take_succ,hi,Option.toList_some,vi]
  have hw1:=wl (i+1);have hw:=wl i;rw[et]at hw1⊢;have hw6:∀w∈wdw (rs.take i),w.length<=6:=λw h=>by
   rw[(jt _ w ((pM _).mem_iff.mp h)).1,List.length_take];omega
  generalize wdw (rs.take i)=W at*;rw[show dk 2 (eg p) (sU rs c W o2 o3 o4 o5)=some (sU rs c W _ o3 o4 o5)from rfl];simp only[Option.bind_some];refine x_set (evX_lfs rfl rfl rfl rfl) (x_forW (λj Y=>∃o4 o5,Y=sU rs .sh W (sn (eg p)) (dp (LO (wst (W.take j) p.length))) o4 o5) ?_ rfl ⟨o4,o5,rfl⟩ ?_ ?_)
  .rcases hc with rfl|rfl
   .exact .inl ⟨rfl,rfl⟩
   .exact .inr rfl
  .rintro j w Y hj ⟨o4,o5,rfl⟩;have hwW:=VH hj;have h6:=hw6 w hwW;have ej:wst (W.take (j+1)) p.length=wst (W.take j) p.length++(List.range p.length).map λk=>w++[k]:=by
    unfold wst;rw[List.take_succ,hj,Option.toList_some,List.flatMap_append];simp
   have hle:(wst (W.take j) p.length).length+p.length<=64*6+6:=by
    rw[yT,List.length_take];have:=Nat.mul_le_mul (show min j W.length<=64 by omega) hpp.2;omega
   rw[ej];generalize wst (W.take j) p.length=V at*;rw[show dk 4 (wD w) (sU rs .sh W (sn (eg p)) (dp (LO V)) o4 o5)=some (sU rs .sh W _ _ _ o5)from rfl];refine x_rng (n:=p.length) (v:=λi=>(i:Int)) (λm Y=>∃o5,Y=sU rs .sh W _ (dp (LO (V++(List.range m).map λk=>w++[k]))) _ o5) (fR ?_) ⟨o5,by rw[List.range_zero,List.map_nil,List.append_nil]⟩ ?_ ?_
   .show kT [.int ((p.map kx).length:Int)]=_;rw[length_map];exact bv (!1)
   .rintro m Y hm ⟨o5,rfl⟩;refine⟨_,q_st (appF_deep (d:=wD (w++[m])) rfl (evX_lf ?_ (lf_w _)) rfl ?_) rfl,sn (iN m),?_⟩
    .exact Ot h6 rfl rfl
    .rw[length_map,length_append,length_map,length_range];exact Vw (show _<=400 by omega) (!2)
    .show sU rs .sh W (sn (eg p)) (dp (.lst (_++[wD (w++[m])]))) (sn (wD w)) _=sU rs .sh W _ (dp (.lst ((V++(List.range (m+1)).map λk=>w++[k]).map wD))) _ _;have eR:V++(List.range (m+1)).map (λk=>w++[k])=(V++(List.range m).map λk=>w++[k])++[w++[m]]:=by
      rw[List.range_succ,List.map_append,<-List.append_assoc];rfl
     rw[eR,List.map_append (l₁:=V++_)];rfl
   .rintro Y ⟨o5,rfl⟩;exact x_end ⟨sn (wD w),o5,rfl⟩
  .rintro Y ⟨o4,o5,rfl⟩;rw[List.take_length];refine x_set (evX_fz rfl rfl rfl rfl rfl rfl) (x_end ⟨.sh,_,_,_,_,.inr rfl,rfl⟩)
 .rintro Y ⟨c,o2,o3,o4,o5,hc,rfl⟩;rw[List.take_length];exact⟨c,rfl,trivial⟩
end K16
namespace K16
open PySem PySem.Spec PyProof.Rows L2
def yV:∀{rs:U4}{w:Vb},w.length=rs.length->(fitW s rs w=true↔∀i,i<w.length->s<=(jF (rs.getD i []) (w.getD i 0)).2)
 |[],[],_=>by simp[fitW]
 |[],_::_,h=>by cases h
 |_::_,[],h=>by cases h
 |p::rs,k::w,h=>by
  show(decide (s<=(jF p k).2)&&fitW s rs w)=true↔_;rw[and_eq_true,decide_eq_true_eq,yV (Nat.succ.inj h)];constructor
  .rintro⟨h1,h2⟩ i hi;cases i with
   |zero=>exact h1
   |succ i=>exact h2 i (Nat.lt_of_succ_lt_succ hi)
  .intro z;exact⟨z 0 (Nat.succ_pos _),λi hi=>z (i+1) (Nat.succ_lt_succ hi)⟩
def Tb{i k:Nat}(h:w[i]?=!k):ak (wD w) (.int (i:Int))=!(.int (k:Int)):=aY h
def Ov{ps:U4}{w:Vb}(r:w.length=(!5).length)(l:∀q∈w.zip (!5),q.1<q.2.length)(hi:i<w.length):
  ∃(p:List Pk)(k:Nat)(a:Pk),ps[t+i]?=!p/\(!5)[i]?=!p/\w[i]?=!k/\p[k]?=!a/\jF p k=a:=by
 have g:(!5)[i]?=some (!5)[i]:=getElem?_eq_getElem (!1)
 have e2:=getElem?_eq_getElem hi
 have m:(w[i],(!5)[i])∈w.zip (!5):=VH (List.getElem?_zip_eq_some.mpr ⟨e2,g⟩)
 have o:=l _ m
 have j:(!5)[i][w[i]]?=some (!5)[i][w[i]]:=getElem?_eq_getElem o
 exact⟨_,_,_,by rw[<-List.getElem?_drop];exact g,g,e2,j,Dp j⟩
def GQ(b:Bool):decide (kd b=("pile":Str))=not b:=RQ b
def Ig(h:R (di Y)=!d)(j:g d Y=!Y'):PD R g Y=!(.nx Y'):=by
 unfold PD aW Fe;simp[h,j]
def K7(U:List (Sd×List Nat)):fw (U.map Ab)=true:=ck λd hd=>by
 let⟨q,_,rfl⟩:=Vz.mp hd;show(lfD (dm q.1)&&(lfD (wD q.2)&&true))=true;rw[lf_w];rfl
end K16
namespace K16
open PySem PySem.Spec PyProof.Rows L2
def  sL:U1:=(ab (aw 4 (cm (aa ak (aa ak (va 1) (va 2)) (cI 1)))) (ab (aw 5 (cm (cI 1))) (ab (iq (jX af (ca (va 0) cG (au (va 4)))) (dk 6) (ab (aw 5 (cm (aa aL (va 5) (cK (va 6))))) aE)) (ab (aw 7 (cm (aa cb (va 5) (cI 1)))) (ab (aw 8 (cm (cI 1))) (ab (iq (jR (x1 (cK (va 3)))) (dk 9) (ab (dj (ai (aa (!19) (aa ak (aa ak (aa ak (va 0) (aa av (va 4) (va 9))) (aa ak (va 3) (va 9))) (cI 0)) (cS "pile"))) (ab (aw 7 (cm (aa cb (aa cb (va 5) (cI 1)) (va 7)))) (ab (aw 8 (cm (ng (va 8)))) aE)) aE) (ab (aw 7 (bb (aa av (aa aL (aa ak (va 3) (va 9)) (va 5)) (va 7)) (bI (aW (aa aL (aa ak (va 3) (va 9)) (va 5)) (aQ af)) (va 7)) af)) (ab (aw 5 (cm (aa aL (va 5) (cK (aa ak (va 0) (aa av (va 4) (va 9))))))) aE)))) (gG (bb (bQ (x2 (va 7) (aa aL (va 8) (aa av (va 2) (aa aL (cK (va 1)) (va 4)))))) af (vx (x2 (frX (va 7) af af) (frX (aa aL (va 8) (aa av (va 2) (aa aL (cK (va 1)) (va 4)))) af af)))))))))))
def  vk(fj b7:Fn):U1:=(ab (PD (aa ak (va 1) (va 2)) (zu 2 (b8 (dk 5) (b8 (dk 6) lU)))) (ab (aw 3 tB) (ab (iq (jX af (bz fj (x1 (ca (va 0) (au (va 6)) cG)))) (dk 4) (ab (dj (mP (bn jB (x1 (aQ (ae [7] (jR (x1 (cK (va 4)))) (gNm 7) tQ (aa LF (aa ak (aa ak (aa ak (va 0) (aa av (va 6) (va 7))) (aa ak (va 4) (va 7))) (cI 1)) (va 5))))))) (ab (gA 3 (bb (bQ (x2 (bz b7 (x4 (va 0) (va 1) (va 2) (va 4))) (va 4))) af (vx (x2 (frX (bz b7 (x4 (va 0) (va 1) (va 2) (va 4))) af (HR b7 (x4 (va 0) (va 1) (va 2) (va 4)))) (frX (va 4) af af))))) aE) aE) aE)) (gG (bb (D7 (x1 (va 3)) (wM (x1 (va 3)))) (wM (x1 (va 3))) (fNo (x1 (va 3))))))))
def K8(h0:bx Y 0=!(az ps))(h1:bx Y a=!(iN t)):ca (va 0) cG (au (va a)) Y=!(az (ps.take t)):=by
 unfold ca aW rH;simp[h0,h1,az,i7]
def K9(h0:bx Y 0=!(az ps))(h1:bx Y a=!(iN t)):ca (va 0) (au (va a)) cG Y=!(az (!5)):=by
 unfold ca aW rH;simp[h0,h1,az,i6]
def DG(h:ps[i]?=!p):ak (az ps) (iN i)=!(eg p):=aY h
def DH(h:p[k]?=!a):ak (eg p) (iN k)=!(kx a):=aY h
abbrev Si(ps:U4)(t:Nat)(w:Vb):Sd:=pl (prod (ps.take t)) (!5) w ((prod (ps.take t):Int)-1,1)
def  La(f:Fn):Prop:=∀ps ls k l w,Lok ps ls->ls[k]?=!l->w.length=(ps.drop l.2).length->(∀q∈w.zip (ps.drop l.2),q.1<q.2.length)->f [az ps,aC ls,iN k,wD w]=dp (dm (D9 (u8 ls k l) (Si ps l.2 w)))
abbrev sP(ps:U4)(ls:List Lz)(k:Nat)(w:Vb)(t:Nat)(n:Nat)(o6 o7 o8 o9:U6):Ev:=[sn (az ps),sn (aC ls),sn (iN k),sn (wD w),dp (iN t),dp (iN n),o6,o7,o8,o9]
def Ow:La (aK 4 10 sL):=λps ls k l w L hk hl hq=>by
 let⟨s,t⟩:=l;have hv:=L.v;have h64:=L.c;have hlo:=L.o _ (VH hk);have hr:=Dt hv L.n hlo hk;have hle:=nM hv;have hl5:=hv.len;simp only at hl hq;have hd:(!5).length=ps.length-t:=List.length_drop;unfold Si;obtain⟨n0,hn0⟩:∃n,n=prod (ps.take t):=⟨_,rfl⟩;have hcut:∀i,n0*prod ((!5).take i)<=prod ps:=λi=>by rw[hn0,lA];exact hle _
 refine aj rfl ?_;refine q_set (evX_lf ?_ rfl) (q_set (evX_lf rfl rfl) (q_forB (xs:=ps.take t) (mk:=eg) (λi Y=>∃o6,Y=sP ps ls k w t (prod ((ps.take t).take i)) o6 none none none) ?_ ⟨none,rfl⟩ ?_ ?_))
 .exact vg hk rfl rfl
 .show jX af _ (di _)=_;rw[bA,K8 rfl rfl];rfl
 .rintro i p Y hp ⟨o6,rfl⟩;have hP:prod ((ps.take t).take i)<1000000:=by
   rw[List.take_take];have:=hle (min i t);omega
  refine⟨_,ar (cf (evX_lf (d:=iN (prod ((ps.take t).take i)*p.length)) ?_ rfl)),⟨sn (eg p),?_⟩⟩
  .show aL (iN _) (.int ((p.map kx).length:Int))=_;rw[length_map];exact C0 hP
  .rw[List.take_add_one,hp];show _=sP ps ls k w t (prod ((ps.take t).take i++[p])) _ _ _ _;rw[dD];rfl
 .rintro Y ⟨o6,rfl⟩;rw[List.take_length,<-hn0];refine q_set (evX_lf rfl rfl) (q_set (evX_lf rfl rfl) (q_rng (n:=w.length) (v:=λi=>(i:Int))
   (λi Y=>∃o9,∃(c m:Int),pl n0 ((!5).take i) (w.take i) ((n0:Int)-1,1)=(c,m)/\Y=sP ps ls k w t (n0*prod ((!5).take i)) o6 (dp (.int c)) (dp (.int m)) o9) (fR ?_) ⟨none,(n0:Int)-1,1,rfl,?_⟩ ?_ ?_))
  .show kT [.int ((w.map _).length:Int)]=_;rw[length_map];exact bv (!1)
  .have e:n0*prod ((!5).take 0)=n0:=Nat.mul_one n0;rw[e];rfl
  .rintro i Y hi ⟨o9,c,m,hc,rfl⟩;let⟨p,j,⟨b,wd⟩,m1,m2,m3,m4,m5⟩:=Ov hl hq hi;have hP:=hcut i;have hti:(t:Int)+(i:Int)=((t+i:Nat):Int):=by omega
   have f1:ak (az ps) (.int ((t:Int)+(i:Int)))=!(eg p):=by rw[hti];exact DG m1
   have f2:=Tb m3;have f3:=DH m4;have x0:ak (kx (b,wd)) (.int 0)=!_:=qL _ _;have hw:w.take (i+1)=w.take i++[j]:=by rw[List.take_add_one,m3];rfl
   have hpl:pl n0 ((!5).take (i+1)) (w.take (i+1)) ((n0:Int)-1,1)=b9 (n0*prod ((!5).take i)) j (b,wd) (c,m):=by
    rw[ju ps t i p m2,hw,nJ _ _ _ _ (by rw[List.length_take,List.length_take,hl]),hc,m5]
   rw[hpl];have hN:n0*prod ((!5).take (i+1))=n0*prod ((!5).take i)*p.length:=by rw[ju ps t i p m2,dD,Nat.mul_assoc]
   rw[hN];generalize n0*prod ((!5).take i)=N at hP;refine uV (b:=not b) ?_ ?_
   .show ai _ [!(az ps),!(aC ls),!(iN k),!(wD w),!(iN t),!(iN N),_,!(.int c),!(.int m),!(iN i)]=_;simp only[testB_a,bin2_a,va_a,shAt_s,shAt_0,shAt_1,cI_a,cS_a,Option.bind_some,addD_ii,f1,f2,f3,x0,yx,asB_bl];rw[<-GQ b];rfl
   .have rest:∀c' m':Int,∃a,(ab (aw 7 (bb (aa av (aa aL (aa ak (va 3) (va 9)) (va 5)) (va 7)) (bI (aW (aa aL (aa ak (va 3) (va 9)) (va 5)) (aQ af)) (va 7)) af)) (ab (aw 5 (cm (aa aL (va 5) (cK (aa ak (va 0) (aa av (va 4) (va 9))))))) aE))
      (sP ps ls k w t N o6 (dp (.int c')) (dp (.int m')) (sn (iN i)))=!(.nx a)/\a=sP ps ls k w t (N*p.length) o6 (dp (.int ((j:Int)*(N:Int)+c'))) (dp _) _:=λc' m'=>by
     refine x_set (evX_lf ?_ rfl) (x_set (evX_lf ?_ rfl) (x_end rfl))
     .show aa av (aa aL (aa ak (va 3) (va 9)) (va 5)) (va 7) [!(az ps),!(aC ls),!(iN k),!(wD w),!(iN t),!(iN N),_,!(.int c'),!(.int m'),!(iN i)]=_;simp only[bin2_a,va_a,shAt_s,shAt_0,shAt_1,Option.bind_some,f2,eU (show -1000000<(N:Int)by omega) (!1),addD_ii]
     .show aa aL _ _ [!(az ps),!(aC ls),!(iN k),!(wD w),!(iN t),!(iN N),_,_,!(.int m'),!(iN i)]=_;simp only[bin2_a,biF_a,fP,consX_a,nilX_a,va_a,shAt_s,shAt_0,shAt_1,Option.bind_some,addD_ii,f1];show aL (iN N) (.int ((p.map kx).length:Int))=_;rw[length_map];exact C0 (!1)
    cases b with
    |true=>
     refine⟨_,rfl,?_⟩;let⟨a,ea,rfl⟩:=rest c m;exact⟨_,ea,⟨_,_,m,rfl,rfl⟩⟩
    |false=>
     refine⟨_,q_set (evX_lf rfl rfl) (q_set (evX_lf rfl rfl) rfl),?_⟩;let⟨a,ea,rfl⟩:=rest ((N:Int)-1-c) (-m);exact⟨_,ea,⟨_,_,-m,rfl,rfl⟩⟩
  .rintro Y ⟨o9,c,m,hc,rfl⟩;rw[List.take_of_length_le (!1),List.take_length]at hc;rw[hc];have ml:aL (.int (ls.length:Int)) (iN t)=!(.int ((ls.length:Int)*(t:Int))):=wW (by have:=L.n;omega);have mr:aL (.int m) (.int (u8 ls k (s,t)))=!(.int _):=eU (!1) (!1);refine q_ret (evX_lf ?_ rfl);show bQ _ [!(az ps),!(aC ls),!(iN k),!(wD w),!(iN t),_,_,!(.int c),!(.int m),_]=_;have y3:seqD (aC ls)=!_:=rfl;simp only[iZ,consX_a,nilX_a,bin2_a,biF_a,fP,va_a,shAt_s,shAt_0,shAt_1,Option.bind_some,bf,y3,length_map,ml,addD_ii,mr,capL_2];first
   |rfl
   |(rw[show((k:Int)+(ls.length:Int)*(t:Int))=u8 ls k (s,t)from rfl,mr];rfl)
abbrev Ih(ps:U4)(ls:List Lz)(k:Nat)(l:Lz)(w:Vb):Pq:=(D9 (u8 ls k l) (Si ps l.2 w),w)
abbrev sO(ps:U4)(ls:List Lz)(k:Nat)(l:Lz)(V:List Pq)(o4:U6):Ev:=[sn (az ps),sn (aC ls),sn (iN k),dp (.lst (V.map Ab)),o4,sn (.int l.1),sn (iN l.2),none]
def  Lb(f:Fn):Prop:=∀ps ls k l,Lok ps ls->ls[k]?=!l->∃U,Opn ps ls k l U/\f [az ps,aC ls,iN k]=dp (.lst (U.map Ab))
def Ox(hwo:K6 wo)(hco:La co):Lb (aK 3 8 (vk wo co)):=λps ls k l L hk=>by
 let⟨s,t⟩:=l;have hv:=L.v;have h64:=L.c;have hpd:prod (!5)<=prod ps:=by
  have h1:=u7 hv 0 t;have h2:=lA ps t (!5).length;rw[List.take_length]at h2;have h3:=nM hv (t+(!5).length);have h4:prod (!5)<=prod (ps.take t)*prod (!5):=Nat.le_mul_of_pos_left _ h1;omega
 let⟨cw,ew⟩:=hwo (!5) (!1) (λp h=>⟨(hv.p (List.mem_of_mem_drop h)).1,(hv.p (List.mem_of_mem_drop h)).2.1⟩) (by rw[List.length_drop];have:=hv.len;omega);have hpm:=pM (!5);have hWl:(wdw (!5)).length<=63:=by rw[hpm.length_eq,nK];omega
 have hWm:∀w∈wdw (!5),w.length=(!5).length/\∀q∈w.zip (!5),q.1<q.2.length:=λw h=>jt _ w (hpm.mem_iff.mp h);have hfp:=(hpm.filter (fitW s (!5))).map (Ih ps ls k (s,t));generalize wdw (!5)=W at*;have hfl:∀i,((W.take i).filter (fitW s (!5))).length<=63:=λi=>by
  refine Vx (List.length_filter_le _ _) ?_;rw[List.length_take];omega
 let⟨U,u1,u2,u3⟩:=Gk (L:=(W.filter (fitW s (!5))).map (Ih ps ls k (s,t))) (by
  rw[length_map];have:=hfl W.length;rw[List.take_length]at this;omega) (λq hq=>by
  let⟨w,hw,rfl⟩:=Vz.mp hq;exact(hWm w (List.mem_filter.mp hw).1).1)
 refine⟨U,⟨u1.trans hfp,u2⟩,aj rfl ?_⟩;refine q_st (Ig (d:=yN (s,t)) ?_ rfl) (q_set (evX_lfs rfl rfl rfl rfl) (q_forB (xs:=W) (mk:=wD)
  (λi Y=>∃o4,Y=sO ps ls k (s,t) (((W.take i).filter (fitW s (!5))).map (Ih ps ls k (s,t))) o4) ?_ ⟨none,rfl⟩ ?_ ?_))
 .show ak (aC ls) (iN k)=_;exact Ds hk
 .show jX af _ [!(az ps),!(aC ls),!(iN k),none,none,!(.int s),!(iN t),none]=_;rw[bA,clF_a,fP,consX_a,K9 rfl rfl,Option.bind_some,nilX_a,Option.bind_some,Option.bind_some,ew];rfl
 .rintro i w Y hw ⟨o4,rfl⟩;let⟨hwl,hwq⟩:=hWm w (VH hw);have hw6:w.length<=6:=by rw[hwl,List.length_drop];have:=hv.len;omega
  have ec:=hco ps ls k (s,t) w L hk hwl hwq;have hT:(W.take (i+1)).filter (fitW s (!5))=(W.take i).filter (fitW s (!5))++(if fitW s (!5) w=true then[w]else[]):=by
   rw[List.take_add_one,hw,List.filter_append];show _++List.filter _ [w]=_;rw[List.filter_cons];cases fitW s (!5) w<;>rfl
  rw[hT,List.map_append];have hlen:=hfl i;generalize (W.take i).filter (fitW s (!5))=V at hlen;rw[show dk 4 (wD w) (sO ps ls k (s,t) (V.map (Ih ps ls k (s,t))) o4)=some (sO ps ls k (s,t) (V.map _) _)from rfl];have hb:((List.range w.length).all λj=>decide (s<=(jF ((!5).getD j []) (w.getD j 0)).2))=fitW s (!5) w:=by
   rw[Bool.eq_iff_iff,yV hwl,List.all_eq_true];exact⟨λz j hj=>Vt (z j (VG.mpr hj)),λz j hj=>decide_eq_true (z j (VG.mp hj))⟩
  refine uV (b:=fitW s (!5) w) ?_ ?_
  .show mP (bn jB (x1 (aQ _))) [!(az ps),!(aC ls),!(iN k),_,!(wD w),!(.int s),!(iN t),none]=_;rw[trF_a,biF_a,fP,consX_a,lsF_a,aq (mk:=λ(j:Nat)=>D.int (j:Int)) ?_ (λj hj=>?_) (by rw[length_range];exact Vw hw6 (!2))]
   .show(jB [.lst _]).bind t5=_;rw[cY,hb];rfl
   .refine fR ?_;show kT [.int ((w.map _).length:Int)]=_;rw[length_map];exact bv (!1)
   .let⟨p,kk,⟨b,wd⟩,m1,m2,m3,m4,m5⟩:=Ov hwl hwq (VG.mp hj);have hti:(t:Int)+(j:Int)=((t+j:Nat):Int):=by omega
    have f1:ak (az ps) (.int ((t:Int)+(j:Int)))=!(eg p):=by rw[hti];exact DG m1
    have f2:=Tb m3;have f3:=DH m4;have e1:(!5).getD j []=p:=by rw[List.getD_eq_getElem?_getD,m2];rfl
    have e2:w.getD j 0=kk:=by rw[List.getD_eq_getElem?_getD,m3];rfl
    rw[e1,e2,m5];simp only[stepF_a,wipe_cons,wipe_nil,gNm_a,set_cons_succ,set_cons_zero,Option.bind_some,tQ_a,bin2_a,va_a,shAt_s,shAt_0,shAt_1,cI_a,addD_ii,f1,f2,f3,x1,Kg];rfl
  .cases e:fitW s _ w with
   |false=>
    refine⟨_,rfl,⟨_,rfl,⟨sn (wD w),?_⟩⟩⟩;show _=sO ps ls k (s,t) (V.map (Ih ps ls k (s,t))++[]) _;rw[List.append_nil]
   |true=>
    refine⟨_,q_st (appF_deep (d:=Ab (Ih ps ls k (s,t) w)) rfl (evX_lf ?_ ?_) rfl ?_) rfl,⟨_,rfl,⟨sn (wD w),?_⟩⟩⟩
    .show bQ (x2 (bz co _) _) [!(az ps),!(aC ls),!(iN k),_,!(wD w),!(.int s),!(iN t),none]=_;rw[iZ,pA,consX_a,clF_a,show x4 (va 0) (va 1) (va 2) (va 4) [!(az ps),!(aC ls),!(iN k),_,!(wD w),!(.int s),!(iN t),none]=some [az ps,aC ls,iN k,wD w]from rfl,Option.bind_some,ec];rfl
    .show(lfD (dm (Ih ps ls k (s,t) w).1)&&(lfD (wD w)&&true))=true;rw[lf_w];rfl
    .rw[length_map,length_map];exact Vw (show V.length+1<=64 by omega) (!2)
    .rw[if_pos rfl];unfold sO;rw[List.map_append];rfl
 .rintro Y ⟨o4,rfl⟩;rw[List.take_length];have s1:wM (x1 (va 3)) (vw (sO ps ls k (s,t) ((W.filter (fitW s (!5))).map (Ih ps ls k (s,t))) o4))=!(U.map Ab):=by
   exact u3
  exact q_ret (evX_lfs (mT s1) rfl s1 (K7 U))
end K16
namespace K16
open PySem PySem.Spec PyProof.Rows L2
def  sM(a6 bV:Fn):U1:=(ab (dj (ai (aa (!19) (aa aU (bz a6 (x2 (va 0) (cI 0))) (cI 2)) (cI 1))) (gG (bb (aQ (ae [5] (jR (x1 (va 1))) (gNm 5) tQ (bz bV (x2 (bz a6 (x2 (va 0) (aa av (cI 1) (aa aU (va 5) (cI 16))))) (aa cO (va 5) (cI 16)))))) (ae [5] (jR (x1 (va 1))) (gNm 5) tQ (bz bV (x2 (bz a6 (x2 (va 0) (aa av (cI 1) (aa aU (va 5) (cI 16))))) (aa cO (va 5) (cI 16))))) (fCo [5] (jR (x1 (va 1))) (gNm 5) tQ (frX (bz bV (x2 (bz a6 (x2 (va 0) (aa av (cI 1) (aa aU (va 5) (cI 16))))) (aa cO (va 5) (cI 16)))) af (HR bV (x2 (bz a6 (x2 (va 0) (aa av (cI 1) (aa aU (va 5) (cI 16))))) (aa cO (va 5) (cI 16)))))))) aE) (ab (aw 2 (cm (cI 7))) (ab (iq (jX af (va 0)) (dk 3) (ab (aw 2 (cm (aa aU (aa av (aa av (aa aL (va 2) (va 2)) (aa aL (va 3) (cI 131))) (cI 17)) (cI 1000000000039)))) aE)) (ab (aw 4 tB) (ab (iq (jR (x1 (va 1))) (dk 5) (ab (aw 2 (cm (aa aU (aa av (aa av (aa aL (va 2) (va 2)) (aa aL (cI 977) (va 5))) (cI 3)) (cI 1000000000039)))) (ab (m9 4 2 (cm (va 2)) (va 2)) aE))) (ab (iq (jR (x1 (cK (va 0)))) (dk 5) (ab (aw 6 (cm (aa aU (va 5) (va 1)))) (ab (uG 4 (va 6) (cm (aa aU (aa av (aa aL (aa ak (va 4) (va 6)) (cI 131)) (aa ak (va 0) (va 5))) (cI 1000000000039))) (aa aU (aa av (aa aL (aa ak (va 4) (va 6)) (cI 131)) (aa ak (va 0) (va 5))) (cI 1000000000039))) aE))) (ab (uF 4) aE)))))))
def  i9:U1:=(ab (aw 1 tB) (ab (iq (jR (x1 (aa av (cI 1) (aa aU (va 0) (cI 3))))) (dk 2) (ab (aw 3 (cm (aa ak (aQ (cJ (x2 (cS "queue") (cS "pile")))) (aa aU (aa cO (va 0) (aa ak (aQ (cJ (x3 (cI 3) (cI 6) (cI 12)))) (va 2))) (cI 2))))) (ab (aw 4 (cm (aa ak (aQ (cJ (x2 (cI 9) (aa aU (aa cO (va 0) (aa ak (aQ (cJ (x3 (cI 96) (cI 960) (cI 9600)))) (va 2))) (cI 10))))) (bn uu (x1 (aa (!19) (aa aU (aa cO (va 0) (cI 24)) (cI 4)) (cI 0))))))) (ab (gA 1 (bb (bQ (x2 (va 3) (va 4))) af (vx (x2 (frX (va 3) af af) (frX (va 4) af af))))) aE)))) (gG (bb (bn cQ (x1 (va 1))) af (fNo (x1 (va 1)))))))
def  qg(bW:Fn):U1:=(gG (bb (bn cQ (x1 (aQ (ae [2] (jR (x1 (aa aU (aa ak (va 0) (va 1)) (cI 4)))) (gNm 2) tQ (bz bW (x1 (aa ak (va 0) (aa av (aa av (va 1) (cI 1)) (va 2))))))))) af (fNo (x1 (aQ (ae [2] (jR (x1 (aa aU (aa ak (va 0) (va 1)) (cI 4)))) (gNm 2) tQ (bz bW (x1 (aa ak (va 0) (aa av (aa av (va 1) (cI 1)) (va 2)))))))))))
def  ja:U1:=(ab (aw 4 tB) (ab (iq (jR (x1 (va 2))) (dk 5) (ab (aw 6 (cm (aa ak (va 0) (aa av (va 1) (va 5))))) (ab (aw 7 (cm (aa ak (aQ (cJ (x2 (cI 0) (aa aU (aa cO (va 6) (cI 12)) (aa av (cK (va 3)) (cI 1)))))) (bn uu (x1 (aa (!19) (aa aU (aa cO (va 6) (cI 3)) (cI 4)) (cI 0))))))) (ab (gA 4 (bb (bQ (x2 (aa av (cI 1) (aa aU (va 6) (cI 3))) (va 7))) af (vx (x2 (frX (aa av (cI 1) (aa aU (va 6) (cI 3))) (bI (cI 1) (aa aU (va 6) (cI 3))) af) (frX (va 7) af af))))) aE)))) (ab (uF 4) aE)))
def  j4:U1:=(ab (aw 3 tB) (ab (iq (jR (x1 (cK (va 2)))) (dk 4) (ab (aw 5 tB) (ab (iq (jR (x1 (cK (aa ak (va 2) (va 4))))) (dk 6) (ab (aw 7 (cm (aa ak (va 0) (aa av (aa av (aa av (va 1) (cI 3)) (aa aL (cI 3) (va 4))) (va 6))))) (ab (dj (ai (aa (!19) (aa aU (aa ak (va 0) (aa av (va 1) (va 4))) (cI 4)) (cI 3))) (ab (aw 7 (cm (aa aL (aa aL (va 7) (va 7)) (va 7)))) aE) aE) (ab (gA 5 (cm (aa aU (va 7) (aa ak (aQ (cJ (x4 (cI 4) (cI 10) (cI 1000000) (aa av (aa lP (cI 10) (cI 30)) (cI 1))))) (aa aU (aa ak (va 0) (aa av (va 1) (va 4))) (cI 4)))))) aE)))) (ab (m9 3 5 (cm (va 5)) (va 5)) aE)))) (ab (uF 3) aE)))
abbrev Bn(cs:Vd):Prop:=∀x∈cs,0<=x/\x<1000000000039
def mdB(x:Int):0<=x%1000000000039/\x%1000000000039<1000000000039:=⟨Int.emod_nonneg _ (!2),Int.emod_lt_of_pos _ (!2)⟩
def GR(h:Bn cs)(k:0<=v/\v<1000000000039):Bn (cs++[v]):=λx hx=>by
 rcases mem_append.mp hx with z|z
 .exact h x z
 .rw[mem_singleton.mp z];exact k
def GS(h:Bn cs)(k:0<=v/\v<1000000000039):Bn (cs.set j v):=λx hx=>by
 rcases List.mem_or_eq_of_mem_set hx with z|z
 .exact h x z
 .rw[z];exact k
def  xh(f:Fn):Prop:=∀(ns:Vd)(m:Nat),ns.length<1000->0<m->m<1000->∃cs:Vd,cs.length=m/\Bn cs/\f [aM ns,.int (m:Int)]=!(.deep,aM cs)
def GU(hc:CY ce)(hp:CZ pa):xh (aK 2 7 (sM ce pa)):=λns m hn h0 hm=>by
  have hs:aH 7 [aM ns,.int (m:Int)]=[!_,!(.sh,.int (m:Int)),none,none,none,none,none]:=rfl
  have hc0:=hc ns 0
  have hT:ai (aa (!19) (aa aU (bz ce (x2 (va 0) (cI 0))) (cI 2)) (cI 1)) [!(aM ns),!(.int (m:Int)),none,none,none,none,none]=!(decide (ns[0]?.getD 0%2=1)):=by
    have e:(0:Int)=((0:Nat):Int):=rfl
    simp only[testB_a,bin2_a,clF_a,consX_a,va_a,shAt_0,cI_a,nilX_a,Option.bind_some]
    rw[e,hc0]
    simp only[valO_some,Option.bind_some,bp (show(0:Int)<2 by decide),jZ]
    rfl
  cases hd:decide (ns[0]?.getD 0%2=1)with
  |true=>
    rw[hd]at hT
    let⟨cs,l,hb,e⟩:=uQ (ks:=[5]) (J:=jR (x1 (va 1))) (g:=gNm 5) (ft:=tQ) (fe:=bz pa (x2 (bz ce (x2 (va 0) (aa av (cI 1) (aa aU (va 5) (cI 16))))) (aa cO (va 5) (cI 16))))
      (Y:=[!(aM ns),!(.int (m:Int)),none,none,none,none,none]) (out:=D.int) (P:=λx:Int=>0<=x/\x<1000000000039) (fR (by simp;exact bv (!1))) (λk hk=>by
        have hk':=VG.mp hk
        have e1:(1+(k:Int)%16)=((1+k%16:Nat):Int):=by omega
        have e2:(k:Int)/16=((k/16:Nat):Int):=by omega
        let⟨v,hv1,hv2,ev⟩:=hp (ns[1+k%16]?.getD 0) (k/16) (!1)
        refine⟨v,⟨hv1,Int.lt_trans hv2 (!2)⟩,?_⟩
        simp only[stepF_a,wipe_cons,wipe_nil,gNm_a,set_cons_succ,set_cons_zero,Option.bind_some,tQ_a,if_true,clF_a,consX_a,va_a,shAt_0,shAt_s,shAt_1,bin2_a,cI_a,nilX_a,bp (show(0:Int)<16 by decide),cg (show(0:Int)<16 by decide) (!2),addD_ii,e1,e2,hc ns (1+k%16),valO_some,ev]) (by rw[length_range];exact Nat.lt_trans hm (!2))
    rw[length_range]at l
    refine⟨cs,l,hb,aj rfl ?_⟩
    rw[hs]
    refine aS ((ifS_t hT).trans (aS (bo (evX_lfs (d:=aM cs) ?_ rfl (e) (lu cs)))))
    simp only[vw_some,vw_none,vw_nil,lsF_a,e]
    rfl
  |false=>
    rw[hd]at hT
    have L1:=jn (J:=jX af (va 0)) (tg:=dk 3) (F:=ab (aw 2 (cm (aa aU (aa av (aa av (aa aL (va 2) (va 2)) (aa aL (va 3) (cI 131))) (cI 17)) (cI 1000000000039)))) aE) (ds:=ns.map D.int)
     
      (λi Y=>∃v o,0<=v/\v<1000000000039/\Y=[!(.sh,aM ns),!(.sh,.int (m:Int)),!(.deep,.int v),o,none,none,none]) (by simp) ⟨7,none,by decide,by decide,rfl⟩ (by
        rintro i d Y hd ⟨v,o,h1,h2,rfl⟩
        rw[getElem?_map]at hd
        cases hq:ns[i]? with
        |none=>rw[hq]at hd;cases hd
        |some p=>
          rw[hq]at hd
          cases hd
          refine⟨_,ar (cf (evX_lf (d:=.int ((v*v+p*131+17)%1000000000039)) ?_ rfl)),⟨_,_,Int.emod_nonneg _ (!2),Int.emod_lt_of_pos _ (!2),rfl⟩⟩
          simp[wV h1 h2,eU (show(-1000000:Int)<131 by decide) (!2)]
          exact bp (!2))
    let⟨Y1,e1,v1,o1,g1,g2,rfl⟩:=L1
    have L2:=lr (J:=jR (x1 (va 1))) (s:=5) (F:=ab (aw 2 (cm (aa aU (aa av (aa av (aa aL (va 2) (va 2)) (aa aL (cI 977) (va 5))) (cI 3)) (cI 1000000000039)))) (ab (m9 4 2 (cm (va 2)) (va 2)) aE))
     
      (λi Y=>∃v o,∃cs:Vd,cs.length=i/\(∀x∈cs,0<=x/\x<1000000000039)/\0<=v/\v<1000000000039/\Y=[!(.sh,aM ns),!(.sh,.int (m:Int)),!(.deep,.int v),o1,!(.deep,aM cs),o,none]) (fR (by simp;exact bv (!1))) ⟨v1,none,[],rfl,(λ_ h=>nomatch h),g1,g2,rfl⟩ (by
        rintro i Y hi ⟨v,o,cs,hl,hB,h1,h2,rfl⟩
        have hi':(i:Int)<1000000:=by omega
        have hi0:(-1000000:Int)<i:=by omega
        refine⟨_,(ar (cf (evX_lf (d:=.int ((v*v+977*i+3)%1000000000039)) ?_ rfl))).trans (ar (qM rfl (evX_lf rfl rfl) rfl (by rw[length_map,hl];exact Nat.lt_trans (show i+1<1001 by omega) (!2)))),
          ⟨(v*v+977*i+3)%1000000000039,!(.sh,.int i),cs++[(v*v+977*i+3)%1000000000039],by simp[hl],GR hB (mdB _),Int.emod_nonneg _ (!2),Int.emod_lt_of_pos _ (!2),?_⟩⟩
        · simp[vw_o,wV h1 h2,eU hi0 hi']
          exact bp (!2)
        · simp only[aM,List.map_append];rfl)
    let⟨Y2,e2,v2,o2,cs2,l2,b2,_,_,rfl⟩:=L2
    have L3:=lr (J:=jR (x1 (cK (va 0)))) (s:=5) (F:=ab (aw 6 (cm (aa aU (va 5) (va 1)))) (ab (uG 4 (va 6) (cm (aa aU (aa av (aa aL (aa ak (va 4) (va 6)) (cI 131)) (aa ak (va 0) (va 5))) (cI 1000000000039))) (aa aU (aa av (aa aL (aa ak (va 4) (va 6)) (cI 131)) (aa ak (va 0) (va 5))) (cI 1000000000039))) aE))
     
      (λi Y=>∃o o6,∃cs:Vd,cs.length=m/\(∀x∈cs,0<=x/\x<1000000000039)/\Y=[!(.sh,aM ns),!(.sh,.int (m:Int)),!(.deep,.int v2),o1,!(.deep,aM cs),o,o6]) (fR (by simp;exact bv (!1))) ⟨o2,none,cs2,l2,b2,rfl⟩ (by
        rintro i Y hi ⟨o,o6,cs,hl,hB,rfl⟩
        have hm0:(0:Int)<m:=by omega
        have hk0:0<=(i:Int)%(m:Int):=Int.emod_nonneg _ (!1)
        have hk1:(i:Int)%(m:Int)<m:=Int.emod_lt_of_pos _ hm0
        let⟨x,ex⟩:=pv hk0 (by rw[hl];exact hk1)
        let⟨y,ey⟩:=pv (ns:=ns) (i:=(i:Int)) (!1) (!1)
        refine⟨_,(ar (cf (evX_lf (by simp;exact bp hm0) rfl))).trans (ar (zV (d:=.int ((x*131+y)%1000000000039)) (evX_lf ?_ rfl) rfl rfl hk0 (by rw[length_map,hl];exact hk1))),
          ⟨!(.sh,.int i),!(.deep,.int ((i:Int)%(m:Int))),cs.set ((i:Int)%(m:Int)).toNat ((x*131+y)%1000000000039),by simp[hl],GS hB (mdB _),?_⟩⟩
        · simp[vw_o,ex,ey,eU (show(-1000000:Int)<131 by decide) (!2)]
          exact bp (!2)
        · simp only[aM,List.map_set];rfl)
    let⟨Y3,e3,o3,o6,cs3,l3,b3,rfl⟩:=L3
    refine⟨cs3,l3,b3,aj rfl ?_⟩
    refine(ar ((dX hT).trans rfl)).trans ((ar (cf (evX_lf rfl rfl))).trans ((ar e1).trans ((ar (cf (evX_lfs (d:=.lst []) (by simp) rfl (by simp) rfl))).trans ((ar e2).trans ((ar e3).trans (aS ?_))))))
    rfl
def xi(a b c:D):bM (![a,b,c])=![a,b,c]:=dI (show 3<big by decide)
def GV(x:Int):∃b:Bool,ak (.lst [.str "queue",.str "pile"]) (.int (x%2))=!(.str (kd b)):=by
 rcases(show x%2=0\/x%2=1 by omega)with h|h
 .exact⟨true,by rw[h];exact qL _ _⟩
 .exact⟨false,by rw[h];exact uI _ _ _⟩
def Ii(a b c:Int){i:Nat}(hi:i<3)(h:(0<a/\a<1073741824)/\(0<b/\b<1073741824)/\(0<c/\c<1073741824)):∃d:Int,0<d/\d<1073741824/\ak (.lst [.int a,.int b,.int c]) (.int (i:Int))=!(.int d):=by
 let⟨⟨a1,a2⟩,⟨b1,b2⟩,⟨c1,c2⟩⟩:=h;rcases(show i=0\/i=1\/i=2 by omega)with rfl|rfl|rfl
 .exact⟨a,a1,a2,dC (!2) rfl⟩
 .exact⟨b,b1,b2,dC (!2) rfl⟩
 .exact⟨c,c1,c2,dC (!2) rfl⟩
def xj(a b:Int):aB false (.int a) (.int b)=!(.bl (decide (a=b))):=by rw[jZ];rfl
def DI(b:Bool):uu [.bl b]=!(.int (if b then 1 else 0)):=rfl
def Oy(x y:Int)(b:Bool):ak (.lst [.int x,.int y]) (.int (if b then 1 else 0))=!(.int (if b then y else x)):=by
 cases b
 .exact qL _ _
 .exact uI _ _ _
structure Pas(p:List Pk):Prop where
 lo:1<=p.length
 hi:p.length<=3
 w:∀k∈p,0<=k.2/\k.2<=9
def  Lc(f:Fn):Prop:=∀c:Int,∃p:List Pk,Pas p/\f [.int c]=!(.deep,eg p)
def Oz:Lc (aK 1 5 i9):=λc=>by
 have hn:(1+c%3)=(((1+c%3).toNat:Nat):Int):=by omega
 have hn3:(1+c%3).toNat<=3/\1<=(1+c%3).toNat:=by omega
 generalize (1+c%3).toNat=n at hn hn3;have H:∃p:List Pk,i9 [!(.sh,.int c),none,none,none,none]=!(.rt (.deep,eg p))/\Pas p:=by
  refine x_set (evX_lfs (d:=.lst []) (ds:=[]) (by simp) rfl (by simp) rfl) ?_;refine x_rng (n:=n) (v:=λi=>(i:Int)) (λi Y=>∃o2 o3 o4,∃p:List Pk,p.length=i/\(∀k∈p,0<=k.2/\k.2<=9)/\Y=[!_,!(.deep,.lst (p.map kx)),o2,o3,o4]) ?_ ⟨none,none,none,[],rfl,λ_ h=>(nomatch h),rfl⟩ ?_ ?_
  .refine fR ?_;show(x1 _ [!(.int c),none,none,none,none]).bind kT=_;simp only[consX_a,nilX_a,bin2_a,cI_a,va_a,shAt_0,Option.bind_some,lY _ 3 (!2),addD_ii,hn];exact bv (!1)
  .rintro i Y hi ⟨o2,o3,o4,p,hl,hw,rfl⟩;let⟨d1,p1,p2,x1⟩:=Ii 3 6 12 (i:=i) (!1) (!2);let⟨d2,q1,q2,x2⟩:=Ii 96 960 9600 (i:=i) (!1) (!2);let⟨b,xb⟩:=GV (c/d1);have hwd:∀g:Bool,0<=(if g then c/d2%10 else 9)/\(if g then c/d2%10 else 9)<=9:=λg=>by cases g<;>simp<;>omega
   refine⟨_,q_set (evX_lf (d:=.str (kd b)) ?_ rfl) (q_set (evX_lf (d:=.int (if decide (c/24%4=0)then c/d2%10 else 9)) ?_ rfl) (q_st (appF_deep (d:=kx (b,if decide (c/24%4=0)then c/d2%10 else 9)) rfl (evX_lf ?_ rfl) rfl (by rw[length_map,hl];exact Nat.lt_trans (show i+1<5 by omega) (!2))) rfl)),⟨!(.sh,.int (i:Int)),!(.deep,.str (kd b)),!(.deep,.int (if decide (c/24%4=0)then c/d2%10 else 9)),p++[(b,if decide (c/24%4=0)then c/d2%10 else 9)],by simp[hl],λk hk=>?_,?_⟩⟩
   .simp only[set_cons_succ,set_cons_zero,vw_o,map_some,bin2_a,lsF_a,dpF_a,consX_a,nilX_a,cS_a,cI_a,va_a,shAt_s,shAt_0,shAt_1,Option.bind_some,capL_2,xi,x1,cg p1 p2,lY _ 2 (!2),xb]
   .simp only[set_cons_succ,set_cons_zero,vw_o,map_some,bin2_a,lsF_a,dpF_a,consX_a,nilX_a,cS_a,cI_a,va_a,shAt_s,shAt_0,shAt_1,Option.bind_some,capL_2,xi,x2,cg q1 q2,cg (show(0:Int)<24 by decide) (!2),lY _ 10 (!2),lY _ 4 (!2),biF_a,xj,DI,Oy]
   .simp only[set_cons_succ,set_cons_zero,vw_o,map_some,iZ,consX_a,nilX_a,va_a,shAt_s,shAt_0,shAt_1,Option.bind_some,capL_2];rfl
   .rcases mem_append.mp hk with z|z
    .exact hw k z
    .rw[mem_singleton.mp z];exact hwd _
   .simp only[List.map_append,set_cons_succ,set_cons_zero];rfl
  .rintro Y ⟨o2,o3,o4,p,hl,hw,rfl⟩;refine⟨p,q_ret (evX_lf ?_ (HX p)),⟨by omega,by omega,hw⟩⟩;rfl
 let⟨p,h1,h2⟩:=H;exact⟨p,h2,aj rfl h1⟩
def  Ld(f:Fn):Prop:=∀(cs:Vd)(t:Nat),t+4<cs.length->∃ps:U4,ps.length<=3/\(∀p∈ps,Pas p)/\f [aM cs,.int (t:Int)]=!(.deep,az ps)
def OA(hp:Lc po):Ld (aK 2 3 (qg po)):=λcs t ht=>by
 have hs:aH 3 [aM cs,.int (t:Int)]=[!_,!(.sh,.int (t:Int)),none]:=rfl;let⟨x,ex⟩:=pv (ns:=cs) (i:=(t:Int)) (!1) (!1);let⟨m0,m1⟩:=md x (show(0:Int)<4 by decide);let⟨ps,hl,hP,e⟩:=uQ (ks:=[2]) (J:=(jR (x1 (aa aU (aa ak (va 0) (va 1)) (cI 4))))) (g:=gNm 2) (ft:=tQ) (fe:=(bz po (x1 (aa ak (va 0) (aa av (aa av (va 1) (cI 1)) (va 2))))))
  (Y:=[!(aM cs),!(.int (t:Int)),none]) (out:=eg) (fR (by
   simp only[consX_a,nilX_a,bin2_a,va_a,shAt_0,shAt_1,cI_a,Option.bind_some,ex,bp (show(0:Int)<4 by decide)];exact CN m0 (!1))) (λk hk=>by
   have hk':=VG.mp hk;let⟨y,ey⟩:=pv (ns:=cs) (i:=(t:Int)+1+(k:Int)) (!1) (!1);let⟨p,h1,h2⟩:=hp y;refine⟨p,h1,?_⟩;simp only[stepF_a,wipe_cons,wipe_nil,gNm_a,tQ_a,set_cons_succ,set_cons_zero,Option.bind_some,if_true,clF_a,consX_a,nilX_a,bin2_a,va_a,shAt_s,shAt_0,shAt_1,cI_a,addD_ii,ey,h2,valO_some]) (by rw[length_range];exact Nat.lt_trans (show(x%4).toNat<6 by omega) (!2))
 rw[length_range]at hl;refine⟨ps,by omega,hP,aj rfl ?_⟩;rw[hs];refine q_ret (evX_lf ?_ (Kj ps));simp only[vw_some,vw_none,vw_nil,biF_a,consX_a,nilX_a,lsF_a,e,map_some,Option.bind_some,CG,CF];rfl
def pN:∀ps:U4,(∀p∈ps,Pas p)->prod ps<=3^ps.length
 |[],_=>by simp[prod]
 |p::ps,h=>by
  have a:=(h p Vr).hi;have b:=pN ps λq hq=>h q (Vs _ hq);rw[show prod (p::ps)=p.length*prod ps from rfl,length_cons,Nat.pow_succ,Nat.mul_comm];exact Nat.mul_le_mul b a
def Ak(hl:ps.length<=3)(h:∀p∈ps,Pas p):Valid ps:=by
 refine⟨by omega,λp hp=>?_,?_⟩
 .have q:=h p hp;unfold Kl;rw[and_eq_true,and_eq_true,decide_eq_true_eq,decide_eq_true_eq,List.all_eq_true];refine⟨⟨q.lo,by have:=q.hi;omega⟩,λk hk=>?_⟩;have:=q.w k hk;unfold LM;rw[and_eq_true,decide_eq_true_eq,decide_eq_true_eq];omega
 .refine Vx (pN ps h) (Vx (Nat.pow_le_pow_right (!2) hl) (!2))
def  Le(f:Fn):Prop:=∀(cs:Vd)(ps:U4)(a n:Nat),a+n<=cs.length->n<1000->Valid ps->∃ls:List Lz,ls.length=n/\(∀l∈ls,LzOk ps l)/\f [aM cs,.int (a:Int),.int (n:Int),az ps]=!(.deep,aC ls)
def OB:Le (aK 4 8 ja):=λcs ps a n ha hn hv=>by
 have yl:seqD (az ps)=!_:=rfl;have H:∃ls:List Lz,ja [!(.sh,aM cs),!(.sh,.int (a:Int)),!(.sh,.int (n:Int)),!(.sh,az ps),none,none,none,none]=!(.rt (.deep,aC ls))/\(ls.length=n/\∀l∈ls,LzOk ps l):=by
  refine x_set (evX_lfs (d:=.lst []) (ds:=[]) (by simp) rfl (by simp) rfl) ?_;refine x_rng (n:=n) (v:=λi=>(i:Int)) (λi Y=>∃o5 o6 o7,∃ls:List Lz,ls.length=i/\(∀l∈ls,LzOk ps l)/\Y=[!_,!(.sh,.int (a:Int)),!(.sh,.int (n:Int)),!_,!(.deep,aC ls),o5,o6,o7]) ?_ ⟨none,none,none,[],rfl,λ_ h=>(nomatch h),rfl⟩ ?_ ?_
  .refine fR ?_;exact bv (!1)
  .rintro i Y hi ⟨o5,o6,o7,ls,hl,hok,rfl⟩;let⟨x,ex⟩:=pv (ns:=cs) (i:=(a:Int)+(i:Int)) (!1) (!1);have hlen:(0:Int)<(ps.length:Int)+1:=by omega
   have ml:=md (x/12) hlen;obtain⟨t,ht,ht2⟩:∃t:Nat,(if decide (x/3%4=0)then x/12%((ps.length:Int)+1)else 0)=(t:Int)/\t<=ps.length:=by
    cases decide (x/3%4=0)with
    |true=>exact⟨(x/12%((ps.length:Int)+1)).toNat,by simp;omega,by omega⟩
    |false=>exact⟨0,rfl,Nat.zero_le _⟩
   refine⟨_,q_set (evX_lf (d:=.int x) ?_ rfl) (q_set (evX_lf (d:=.int (t:Int)) ?_ rfl) (q_st (appF_deep (d:=yN (1+x%3,t)) rfl (evX_lf ?_ rfl) rfl (by rw[length_map,hl];exact Nat.lt_trans (show i+1<1001 by omega) (!2))) rfl)),⟨!(.sh,.int (i:Int)),!(.deep,.int x),!(.deep,.int (t:Int)),ls++[(1+x%3,t)],by simp[hl],λl hm=>?_,?_⟩⟩
   .simp only[set_cons_succ,set_cons_zero,vw_o,map_some,bin2_a,va_a,shAt_s,shAt_0,shAt_1,Option.bind_some,addD_ii,ex]
   .simp only[set_cons_succ,set_cons_zero,vw_o,map_some,bin2_a,lsF_a,dpF_a,consX_a,nilX_a,cI_a,va_a,shAt_s,shAt_0,shAt_1,Option.bind_some,capL_2,cg (show(0:Int)<12 by decide) (!2),cg (show(0:Int)<3 by decide) (!2),lY _ 4 (!2),biF_a,bf,yl,length_map,addD_ii,bp hlen,xj,DI,Oy,ht]
   .simp only[set_cons_succ,set_cons_zero,vw_o,map_some,bin2_a,iZ,consX_a,nilX_a,cI_a,va_a,shAt_s,shAt_0,shAt_1,Option.bind_some,lY _ 3 (!2),addD_ii,capL_2];rfl
   .rcases mem_append.mp hm with z|z
    .exact hok l z
    .rw[mem_singleton.mp z];exact⟨by show 1<=1+x%3;omega,by show 1+x%3<=9;omega,ht2⟩
   .simp only[aC,List.map_append,set_cons_succ,set_cons_zero];rfl
  .rintro Y ⟨o5,o6,o7,ls,hl,hok,rfl⟩;exact⟨ls,rfl,hl,hok⟩
 let⟨ls,h1,h2,h3⟩:=H;exact⟨ls,h2,h3,aj rfl h1⟩
def GW(x:Int):∃d:Int,0<d/\d<=TT+1/\ak (.lst [.int 4,.int 10,.int 1000000,.int (TT+1)]) (.int (x%4))=!(.int d):=by
 have hT:(1000000:Int)<=TT:=by unfold TT;decide
 rcases(show x%4=0\/x%4=1\/x%4=2\/x%4=3 by omega)with h|h|h|h<;>rw[h]
 .exact⟨4,by decide,by omega,dC (!2) rfl⟩
 .exact⟨10,by decide,by omega,dC (!2) rfl⟩
 .exact⟨1000000,by decide,by omega,dC (!2) rfl⟩
 .exact⟨TT+1,by omega,by omega,dC (!2) rfl⟩
def mY{i:Int}(hb:Bn cs)(h:0<=i)(h2:i<cs.length):∃v,0<=v/\v<1000000000039/\ak (aM cs) (.int i)=!(.int v):=by
 have hl:i.toNat<cs.length:=by omega
 have e:ak (aM cs) (.int i)=!_:=dC h (by rw[getElem?_map,getElem?_eq_getElem hl];rfl);exact⟨_,(hb _ (List.getElem_mem hl)).1,(hb _ (List.getElem_mem hl)).2,e⟩
def Al{ps:U4}(hp:ps[i]?=!p)(ok:PrOk (ps.take i) rs)(hr:row.length=p.length/\∀x∈row,0<=x/\x<=TT):PrOk (ps.take (i+1)) (rs++[row]):=by
 have e:ps.take (i+1)=ps.take i++[p]:=by rw[List.take_add_one,hp];rfl
 rw[e];refine⟨by rw[length_append,length_append,ok.len];rfl,λq hq=>?_⟩;rw[List.zip_append ok.len.symm]at hq;rcases mem_append.mp hq with z|z
 .exact ok.each q z
 .rw[mem_singleton.mp z];exact hr
def  sN(f:Fn):Prop:=∀(cs:Vd)(ps:U4)(a:Nat),Bn cs->a+12<=cs.length->a<1000->ps.length<=3->(∀p∈ps,Pas p)->∃(c:Cat)(rs:List (Vd)),c=(if ps.length=0 then .deep else .top)/\PrOk ps rs/\f [aM cs,.int (a:Int),az ps]=!(c,dY rs)
def DJ:sN (aK 3 8 j4):=λcs ps a hB ha ha2 hl3 hP=>by
 have yl:seqD (az ps)=!_:=rfl;have H:∃rs:List (Vd),j4 [!(.sh,aM cs),!(.sh,.int (a:Int)),!(.sh,az ps),none,none,none,none,none]=!(.rt (if ps.length=0 then .deep else .top,dY rs))/\PrOk ps rs:=by
  refine x_set (evX_lfs (d:=.lst []) (ds:=[]) (by simp) rfl (by simp) rfl) ?_;refine x_rng (n:=ps.length) (v:=λi=>(i:Int)) (λi Y=>∃o4 o5 o6 o7,∃rs:List _,PrOk (ps.take i) rs/\Y=[!_,!(.sh,.int (a:Int)),!_,!(if i=0 then .deep else .top,dY rs),o4,o5,o6,o7]) ?_ ⟨none,none,none,none,[],⟨by simp,λq h=>by simp at h⟩,rfl⟩ ?_ ?_
  .refine fR ?_;show(x1 _ [!(aM cs),!(.int (a:Int)),!(az ps),_,none,none,none,none]).bind kT=_;simp only[consX_a,nilX_a,biF_a,va_a,shAt_s,shAt_0,shAt_1,Option.bind_some,bf,yl,length_map];exact bv (!1)
  .rintro i Y hi ⟨o4,o5,o6,o7,rs,ok,rfl⟩;have hp:=getElem?_eq_getElem hi;have hpP:=hP _ (List.getElem_mem hi);generalize ps[i]=p at hp hpP;have h3:=hpP.hi;have f1:ak (az ps) (.int (i:Int))=!(eg p):=aY hp;have yp:seqD (eg p)=!_:=rfl;let⟨y,_,_,ey⟩:=mY (i:=(a:Int)+(i:Int)) hB (!1) (!1);let⟨d,d0,d1,ed⟩:=GW y;have hrl:rs.length=i:=by rw[ok.len,List.length_take];omega
   refine x_set (evX_lfs (d:=.lst []) (ds:=[]) (by simp) rfl (by simp) rfl) ?_;refine x_rng (n:=p.length) (v:=λj=>(j:Int)) (λj Y=>∃o6 o7,∃row:Vd,row.length=j/\(∀x∈row,0<=x/\x<=TT)/\Y=[!_,!(.sh,.int (a:Int)),!_,!_,!(.sh,.int (i:Int)),!(.deep,aM row),o6,o7]) ?_ ⟨o6,o7,[],rfl,λ_ h=>(nomatch h),rfl⟩ ?_ ?_
   .refine fR ?_;simp only[set_cons_succ,set_cons_zero,Da,consX_a,nilX_a,biF_a,bin2_a,va_a,shAt_s,shAt_0,shAt_1];show((((ak (az ps) (.int (i:Int))).bind λd=>![d]).bind eB).bind λd=>![d]).bind kT=_;simp only[f1,Option.bind_some,bf,yp,length_map];exact bv (!1)
   .rintro j Y hj ⟨o6,o7,row,hrow,hx,rfl⟩;have m3:aL (.int 3) (.int (i:Int))=!(.int (3*(i:Int))):=eU (!1) (!1);let⟨v,v0,v1,ev⟩:=mY (i:=(a:Int)+3+3*(i:Int)+(j:Int)) hB (!1) (!1);have mm:=wV (j:=v) v0 v1;have mc:aL (.int (v*v)) (.int v)=!(.int _):=CH (!1) (!1);refine x_set (evX_lf (d:=.int v) ?_ rfl) ?_
    .simp only[set_cons_succ,set_cons_zero,vw_o,map_some,bin2_a,cI_a,va_a,shAt_s,shAt_0,shAt_1,Option.bind_some,addD_ii,m3,ev]
    refine uV (b:=decide (y%4=3)) ?_ ?_
    .simp only[set_cons_succ,set_cons_zero,vw_o,map_some,testB_a,bin2_a,cI_a,va_a,shAt_s,shAt_0,shAt_1,Option.bind_some,addD_ii,ey,lY _ 4 (!2),xj,asB_bl]
    obtain⟨u,eu⟩:∃u:Int,(if decide (y%4=3)then ab (aw 7 (cm (aa aL (aa aL (va 7) (va 7)) (va 7)))) aE [!(.sh,aM cs),!(.sh,.int (a:Int)),!(.sh,az ps),!(if i=0 then .deep else .top,dY rs),!(.sh,.int (i:Int)),!(.deep,aM row),!(.sh,.int (j:Int)),!(.deep,.int v)]else aE [!(.sh,aM cs),!(.sh,.int (a:Int)),!(.sh,az ps),!(if i=0 then .deep else .top,dY rs),!(.sh,.int (i:Int)),!(.deep,aM row),!(.sh,.int (j:Int)),!(.deep,.int v)])
      =!(.nx [!_,!(.sh,.int (a:Int)),!_,!_,!(.sh,.int (i:Int)),!_,!(.sh,.int (j:Int)),!(.deep,.int u)]):=by
     cases decide (y%4=3)with
     |true=>
      refine⟨v*v*v,q_set (evX_lf ?_ rfl) rfl⟩;simp only[vw_o,map_some,bin2_a,va_a,shAt_s,shAt_0,shAt_1,Option.bind_some,mm,mc]
     |false=>exact⟨v,rfl⟩
    refine⟨_,eu,_,q_st (appF_deep (d:=.int (u%d)) rfl (evX_lf ?_ rfl) rfl (by rw[length_map,hrow];exact Nat.lt_trans (show j+1<5 by omega) (!2))) rfl,⟨!(.sh,.int (j:Int)),!(.deep,.int u),row++[u%d],by simp[hrow],λx hm=>?_,?_⟩⟩
    .simp only[vw_o,map_some,bin2_a,lsF_a,dpF_a,consX_a,nilX_a,cI_a,va_a,shAt_s,shAt_0,shAt_1,Option.bind_some,addD_ii,P8,wY,ey,lY _ 4 (!2),ed,bp d0]
    .rcases mem_append.mp hm with z|z
     .exact hx x z
     .rw[mem_singleton.mp z];have:=md u d0;omega
    .simp only[aM,List.map_append];rfl
   .rintro Y ⟨o6,o7,row,hrow,hx,rfl⟩;refine N8 (pL (d:=aM row) (ds:=rs.map aM) (ds0:=rs.map aM) (c:=if i=0 then .deep else .top) (c0:=if i=0 then .deep else .top) ?_ ?_ ?_ ?_ (by rw[length_map,hrl];exact Nat.lt_trans (show i+1<5 by omega) (!2))) ⟨!(.sh,.int (i:Int)),!(.sh,aM row),o6,o7,rs++[row],Al hp ok ⟨hrow,hx⟩,?_⟩
    .exact sk (evX_fz (d:=aM row) (by simp[vw_o]) rfl rfl rfl rfl (by simp[aM,Da,Jq])) rfl
    .by_cases z:i=0<;>simp only[z,if_true,if_false]<;>rfl
    .rfl
    .by_cases z:i=0<;>simp only[z,if_true,if_false]<;>rfl
    .rw[if_neg (Nat.succ_ne_zero i)];simp only[dY,List.map_append];rfl
  .rintro Y ⟨o4,o5,o6,o7,rs,ok,rfl⟩;rw[List.take_length]at ok;refine⟨rs,?_,ok⟩;by_cases z:ps.length=0<;>simp only[z,if_true,if_false]<;>rfl
 let⟨rs,h1,h2⟩:=H;exact⟨_,rs,rfl,h2,aj rfl h1⟩
end K16
namespace K16
open PySem PySem.Spec PyProof.Rows L2
def  j5:U1:=(ab (aw 3 tB) (ab (iq (jR (x1 (va 2))) (dk 4) (ab (B6 3 (aa aU (aa cO (aa ak (va 0) (aa av (va 1) (va 4))) (cI 60)) (aa av (va 4) (cI 1))) (va 4)) aE)) (ab (aw 5 tB) (ab (aw 4 (cm (cI 0))) (ab (LI (ai (aa oq (va 4) (va 2))) (ab (aw 6 (cm (aa ak (aQ (cJ (x3 (cS "row") (cS "come") (cS "any")))) (aa aU (aa ak (va 0) (aa av (va 1) (va 4))) (cI 3))))) (ab (aw 7 (bb (ca (va 3) (au (va 4)) (au (aa av (aa av (va 4) (cI 1)) (aa aU (aa cO (aa ak (va 0) (aa av (va 1) (va 4))) (cI 3)) (cI 4))))) (kW (va 3) (au (va 4)) (au (aa av (aa av (va 4) (cI 1)) (aa aU (aa cO (aa ak (va 0) (aa av (va 1) (va 4))) (cI 3)) (cI 4))))) af)) (ab (dj (ai (aa (!19) (va 6) (cS "any"))) (ab (aw 7 (bb (ca (va 7) cG (au (cI 1))) (kW (va 7) cG (au (cI 1))) af)) aE) aE) (ab (m9 5 7 (bb (bQ (x2 (va 6) (va 7))) af (vx (x2 (frX (va 6) af af) (frX (va 7) af af)))) (bQ (x2 (va 6) (va 7)))) (ab (aw 4 (bb (aa av (va 4) (cK (va 7))) (bI (va 4) (cK (va 7))) af)) aE)))))) (ab (uF 5) aE))))))
def GX(h0:ownL Y i=!(.deep,ds))(hk:fk (di Y)=!(.int (k:Int)))(hkl:k<=ds.length)(hd:R (di Y)=!d)(lf:lfD d=true)(hl:ds.length+1<big):
  B6 i fk R Y=!(.nx (Y.set i (!(.deep,.lst (jC k ds d))))):=by
 have e:FL ds.length (.int (k:Int))=!k:=by
  show(if 0<=(k:Int)/\(k:Int)<=(ds.length:Int)then some (k:Int).toNat else none)=_;rw[if_pos ⟨by omega,by omega⟩,Int.toNat_natCast]
 unfold B6
 simp only[h0,Option.bind_some,hk,e,hd,vq,lf]
 show(if ds.length+1<big then _ else _)=_
 rw[if_pos hl]
 rfl
def GY(f:α->β)(k:Nat)(l:List α)(x:α):jC k (l.map f) (f x)=(jC k l x).map f:=by
 unfold jC;rw[List.map_append,List.map_cons,List.map_take,List.map_drop]
def DK(k:Nat)(l:List α)(x:α):(jC k l x).Perm (l++[x]):=by
 refine List.perm_middle.trans ?_;rw[List.take_append_drop];exact(List.perm_append_singleton x l).symm
def Ij(I:Nat->Ev->Prop)(hs:∀q Y,I (q+1) Y->c (vw Y)=!true/\∃Y',F Y=!(.nx Y')/\∃q',q'<=q/\I q' Y')(he:∀Y,I 0 Y->c (vw Y)=!false):∀(n m:Nat)(Y:Ev),m<n->I m Y->∃Y',FO c F n Y=!(.nx Y')/\I 0 Y'
 |0,m,Y,h,_=>absurd h (Nat.not_lt_zero _)
 |n+1,0,Y,_,i=>⟨Y,by
   show(c (vw Y)).bind _=_;rw[he Y i];rfl,i⟩
 |n+1,m+1,Y,h,i=>by
  let⟨h1,Y1,h2,q,hq,i1⟩:=hs m Y i;let⟨Y',e,i2⟩:=Ij I hs he n q Y1 (!1) i1;refine⟨Y',?_,i2⟩;show(c (vw Y)).bind _=_;rw[h1,Option.bind_some,if_pos rfl,h2];exact e
def x_wm{α:Type}{out:α->Option Out}{P:α->Prop}(I:Nat->Ev->Prop)(m:Nat)(hm:m<400)(h0:I m Y)(hs:∀q Y,I (q+1) Y->c (vw Y)=!true/\∃Y',F Y=!(.nx Y')/\∃q',q'<=q/\I q' Y')(he:∀Y,I 0 Y->c (vw Y)=!false)(k:∀Y',I 0 Y'->∃a,G Y'=out a/\P a):∃a,ab (LI c F) G Y=out a/\P a:=by
 let⟨Y',e,i⟩:=Ij I hs he 400 m Y hm h0;exact jE (e) (k Y' i)
def OC(x:Int):∃j:Nat,j<3/\ak (.lst [.str "row",.str "come",.str "any"]) (.int (x%3))=!(.str (kdS j)):=by
 rcases(show x%3=0\/x%3=1\/x%3=2 by omega)with h|h|h<;>rw[h]
 .exact⟨2,by decide,rfl⟩
 .exact⟨1,by decide,rfl⟩
 .exact⟨0,by decide,rfl⟩
def Lf(h:j<3):decide (kdS j=("any":Str))=decide (j=0):=by
 rcases(show j=0\/j=1\/j=2 by omega)with rfl|rfl|rfl<;>decide
def Ik{β:Type}(xs:List β)(f:β->D)(a b:Nat)(ha:a<=xs.length):cutD (xs.map f) (!(a:Int)) (!(b:Int))=((xs.drop a).take (min b xs.length-a)).map f:=by
 unfold L2.cutD;rw[HT.sIx_nat,HT.sIx_nat,length_map,Nat.min_eq_left ha,<-List.map_drop,<-List.map_take]
def xk{lo hi}{l h:Vj}(e:a Y=!(.lst ds))(e1:lo Y=!l)(e2:hi Y=!h):kW a lo hi Y=!(cutD ds l h):=by
 unfold kW;simp[e,e1,e2]
abbrev sQ(cs:Vd)(a m:Nat)(r:Vb)(k:Nat)(c5:Cat)(gs:List Gr)(o6 o7:U6):Ev:=[sn (aM cs),sn (iN a),sn (iN m),dp (rowD r),dp (iN k),!(c5,gI gs),o6,o7]
def  xm(gs:List Gr):Prop:=∀g∈gs,g.1=0->g.2.length=1
def  Lg(f:Fn):Prop:=∀(cs:Vd)(a m:Nat),a+m<=cs.length->a<1000->m<=24->∃c gs,c≠Cat.sh/\Good m gs/\xm gs/\f [aM cs,iN a,iN m]=!(c,gI gs)
def OD:Lg (aK 3 8 j5):=λcs a m ha ha2 hm=>by
 suffices h:∃z:Cat×List Gr,j5 [sn _,sn (iN a),sn (iN m),none,none,none,none,none]=!(.rt (z.1,gI z.2))/\z.1≠Cat.sh/\Good m z.2/\xm z.2 by
  let⟨⟨c,gs⟩,h1,h2,h3,h4⟩:=h;exact⟨c,gs,h2,h3,h4,aj rfl h1⟩
 refine x_set (evX_lfs rfl rfl rfl rfl) (x_rng (λi Y=>∃o4,∃r:Vb,r.Perm (List.range i)/\Y=[sn _,sn (iN a),sn (iN m),dp (rowD r),o4,none,none,none]) (fR (bv (!1))) ⟨none,[],.refl _,rfl⟩ ?_ ?_)
 .rintro i Y hi ⟨o4,r,pm,rfl⟩;have hl:r.length=i:=by rw[pm.length_eq,length_range]
  let⟨y,ey⟩:=pv (ns:=cs) (i:=(a:Int)+(i:Int)) (!1) (!1);have h0:(0:Int)<(i:Int)+1:=by omega
  let⟨m0,m1⟩:=md (y/60) h0;have hk:y/60%((i:Int)+1)=(((y/60%((i:Int)+1)).toNat:Nat):Int):=by omega
  have hk2:(y/60%((i:Int)+1)).toNat<=i:=by omega
  generalize (y/60%((i:Int)+1)).toNat=k at hk hk2;refine⟨_,q_st (GX (k:=k) rfl ?_ (by rw[length_map];omega) rfl rfl (by rw[length_map,hl];exact Nat.lt_trans (show i+1<26 by omega) (!2))) rfl,⟨sn (iN i),jC k r i,?_,?_⟩⟩
  .show aa aU (aa cO (aa ak (va 0) (aa av (va 1) (va 4))) (cI 60)) (aa av (va 4) (cI 1)) [!(aM cs),!(iN a),!(iN m),none,!(iN i),none,none,none]=_;simp only[bin2_a,va_a,shAt_s,shAt_0,shAt_1,cI_a,Option.bind_some,addD_ii,ey,cg (show(0:Int)<60 by decide) (!2),bp h0,hk]
  .refine(DK k r i).trans ?_;rw[List.range_succ];exact pm.append_right _
  .rw[GY];rfl
 .rintro Y ⟨o4,r,pm,rfl⟩;have hl:r.length=m:=by rw[pm.length_eq,length_range]
  refine x_set (evX_lfs rfl rfl rfl rfl) (x_set (evX_lf rfl rfl) (x_wm (λq Y=>∃k gs c5 o6 o7,k+q=m/\bT gs=r.take k/\(∀g∈gs,g.2≠[]/\g.1<3/\(g.1=0->g.2.length=1))/\gs.length<=k/\c5≠Cat.sh/\Y=sQ cs a m r k c5 gs o6 o7) m (!1) ⟨0,[],.deep,none,none,by omega,rfl,λ_ h=>(nomatch h),VI _,by decide,rfl⟩ ?_ ?_ ?_))
  .rintro q Y ⟨k,gs,c5,o6,o7,hkq,hf,hg,hgl,hc5,rfl⟩;have hkm:(k:Int)<(m:Int):=by omega
   refine⟨?_,?_⟩
   .show ai (aa oq (va 4) (va 2)) [!(aM cs),!(iN a),!(iN m),_,!(iN k),_,_,_]=_;show((oq (.int (k:Int)) (.int (m:Int))).bind D.asB)=_;rw[show oq (.int (k:Int)) (.int (m:Int))=some (.bl (decide ((k:Int)<(m:Int))))from rfl,decide_eq_true hkm];rfl
   .let⟨x,ex⟩:=pv (ns:=cs) (i:=(a:Int)+(k:Int)) (!1) (!1);let⟨j,hj,ej⟩:=OC x;obtain⟨w,hw,hw4⟩:∃w:Nat,x/3%4=(w:Int)/\w<4:=⟨(x/3%4).toNat,by omega,by omega⟩;obtain⟨p1,hp1⟩:∃p1,p1=(r.drop k).take (min (k+1+w) r.length-k):=⟨_,rfl⟩;obtain⟨n,p,hp,hn1,hnm,hpj,hpn⟩:∃(n:Nat)(p:Vb),p=(if decide (j=0)then p1.take 1 else p1)/\1<=n/\k+n<=m/\(j=0->n=1)/\p=(r.drop k).take n:=by
     by_cases z:j=0
     .exact⟨1,p1.take 1,by rw[decide_eq_true z];rfl,by omega,by omega,λ_=>rfl,by rw[hp1,List.take_take,show min 1 (min (k+1+w) r.length-k)=1 by omega]⟩
     .exact⟨min _ r.length-k,p1,by rw[decide_eq_false z];rfl,by omega,by omega,λh=>absurd h z,hp1⟩
    have hpl:p.length=n:=by rw[hpn,List.length_take,List.length_drop];omega
    have hE:au (aa av (aa av (va 4) (cI 1)) (aa aU (aa cO (aa ak (va 0) (aa av (va 1) (va 4))) (cI 3)) (cI 4))) [!(aM cs),!(iN a),!(iN m),!(rowD r),!(iN k),!(gI gs),!(.str (kdS j)),o7.map (·.2)]=!(!((k+1+w:Nat):Int)):=by
     unfold au;simp only[bin2_a,va_a,shAt_s,shAt_0,shAt_1,cI_a,Option.bind_some,addD_ii,ex,cg (show(0:Int)<3 by decide) (!2),lY _ 4 (!2),hw];congr 2
    refine x_set (evX_lf (d:=.str (kdS j)) ?_ rfl) (x_set (evX_lfs (d:=rowD p1) ?_ rfl ?_ (w5 p1)) (uV (b:=decide (j=0)) ?_ ?_))
    .show aa ak (aQ (cJ (x3 (cS "row") (cS "come") (cS "any")))) (aa aU (aa ak (va 0) (aa av (va 1) (va 4))) (cI 3)) [!(aM cs),!(iN a),!(iN m),_,!(iN k),_,_,_]=_;simp only[bin2_a,lsF_a,dpF_a,uW,consX_a,nilX_a,cS_a,cI_a,va_a,shAt_s,shAt_0,shAt_1,Option.bind_some,xi,map_some,addD_ii,ex,lY _ 3 (!2),ej]
    .show ca (va 3) (au (va 4)) _ [!(aM cs),!(iN a),!(iN m),!(rowD r),!(iN k),_,_,_]=_;rw[q0 rfl rfl ?_,Ik _ _ _ _ (!1),<-hp1]
     .rfl
     .exact hE
    .show kW (va 3) (au (va 4)) _ [!(aM cs),!(iN a),!(iN m),!(rowD r),!(iN k),_,_,_]=_;rw[xk rfl rfl ?_,Ik _ _ _ _ (!1),<-hp1];exact hE
    .show ai (aa (!19) (va 6) (cS "any")) [!(aM cs),!(iN a),!(iN m),!(rowD r),!(iN k),_,!(.str (kdS j)),!(rowD p1)]=_;simp only[testB_a,bin2_a,va_a,shAt_s,shAt_0,shAt_1,cS_a,Option.bind_some,yx,asB_bl];rw[<-Lf hj];rfl
    .have br:(if decide (j=0)then ab (aw 7 (bb (ca (va 7) cG (au (cI 1))) (kW (va 7) cG (au (cI 1))) af)) aE (sQ cs a m r k c5 gs (dp (.str (kdS j))) (dp (rowD p1)))else aE (sQ cs a m r k c5 gs (dp (.str (kdS j))) (dp (rowD p1))))=!(.nx (sQ cs a m r k c5 gs (dp (.str (kdS j))) (dp (rowD p)))):=by
      rw[hp];cases decide (j=0)with
      |false=>rfl
      |true=>
       refine(ar (cf (evX_lfs (d:=rowD (p1.take 1)) (ds:=(p1.take 1).map λ(i:Nat)=>D.int (i:Int)) ?_ rfl ?_ (w5 _)))).trans rfl
       .show ca (va 7) _ _ [!(aM cs),!(iN a),!(iN m),!(rowD r),!(iN k),_,!(.str (kdS j)),!(rowD p1)]=_;rw[q0 (h:=!((1:Nat):Int)) rfl rfl rfl,i7];rfl
       .show kW (va 7) _ _ [!(aM cs),!(iN a),!(iN m),!(rowD r),!(iN k),_,!(.str (kdS j)),!(rowD p1)]=_;rw[xk (h:=!((1:Nat):Int)) rfl rfl rfl,i7]
     have est:List.set (frzS [7] (sQ cs a m r k c5 gs (dp (.str (kdS j))) (dp (rowD p)))) 5 (!(.top,.lst (gs.map ss++[ss (j,p)])))=sQ cs a m r k .top (gs++[(j,p)]) (dp (.str (kdS j))) (sn (rowD p)):=by
      show _=[_,_,_,_,_,!(Cat.top,D.lst ((gs++[(j,p)]).map ss)),_,_];rw[List.map_append];rfl
     refine⟨_,br,jE (pL (d:=ss (j,p)) (ds:=gs.map ss) (ds0:=gs.map ss) (c:=c5) (c0:=c5) ?_ ?_ rfl ?_ ?_) ?_⟩
     .refine sk (evX_fz rfl rfl rfl rfl rfl rfl) ?_;cases c5<;>rfl
     .cases c5 with
      |sh=>exact absurd rfl hc5
      |_=>rfl
     .cases c5 with
      |sh=>exact absurd rfl hc5
      |_=>rfl
     .rw[length_map];exact Vw (show gs.length+1<=30 by omega) (!2)
     rw[est];refine x_set (evX_lf ?_ rfl) (x_end ⟨m-(k+n),by omega,k+n,gs++[(j,p)],.top,_,_,by omega,?_,?_,?_,by decide,rfl⟩)
     .show av (iN k) (.int ((p.map λ(i:Nat)=>D.int (i:Int)).length:Int))=_;rw[length_map,hpl];show some (D.int ((k:Int)+(n:Int)))=!(D.int ((k+n:Nat):Int));rw[Int.natCast_add]
     .unfold bT;rw[List.flatMap_append,List.take_add,<-hpn];show bT gs++_=_;rw[hf];simp
     .intro g h;rcases mem_append.mp h with h|h
      .exact hg g h
      .rw[mem_singleton.mp h];exact⟨λe=>by have e':p=[]:=e;rw[e']at hpl;simp at hpl;omega,hj,λe=>by show p.length=1;rw[hpl];exact hpj e⟩
     .rw[length_append,List.length_singleton];omega
  .rintro Y ⟨k,gs,c5,o6,o7,hkq,hf,hg,hgl,hc5,rfl⟩;show((oq (.int (k:Int)) (.int (m:Int))).bind D.asB)=_;rw[show oq (.int (k:Int)) (.int (m:Int))=some (.bl (decide ((k:Int)<(m:Int))))from rfl,decide_eq_false (!1)];rfl
  .rintro Y ⟨k,gs,c5,o6,o7,hkq,hf,hg,hgl,hc5,rfl⟩;refine⟨(c5,gs),rfl,hc5,⟨?_,λg h=>(hg g h).1,λg h=>(hg g h).2.1,hm⟩,λg h=>(hg g h).2.2⟩;rw[hf,List.take_of_length_le (!1)];exact pm
end K16
namespace K16
open PySem PySem.Spec PyProof.Rows L2
def  sS:U1:=(ab (aw 2 tB) (ab (iq (jX af (va 0)) (zu 2 (b8 (dk 3) (b8 (dk 4) lU))) (ab (dj (ai (aa (!19) (va 3) (cS "come"))) (ab (lV 2 (aQ (ae [5] (jX af (D7 (x1 (aQ (ae [6] (jX af (va 4)) (gNm 6) tQ (bQ (x2 (aa ak (aa ak (va 1) (va 6)) (cI 1)) (va 6)))))) (wM (x1 (aQ (ae [6] (jX af (va 4)) (gNm 6) tQ (bQ (x2 (aa ak (aa ak (va 1) (va 6)) (cI 1)) (va 6))))))))) (gNm 5) tQ (aa ak (va 5) (cI 1))))) aE) (ab (lV 2 (va 4)) aE)) aE)) (ab (uF 2) aE)))
def  jH(ls:pB)(g:Gr):Vd:=if g.1=1 then gH ls (cL g.2)else cL g.2
def  ordI(ls:pB)(gs:List Gr):Vd:=gs.flatMap (jH ls)
def ra(h:bS ls)(g:Gr):(jH ls g).Perm (cL g.2):=by
 unfold jH;by_cases z:g.1=1
 .rw[if_pos z];exact jq h _
 .rw[if_neg z]
def l9(h:bS ls):∀gs:List Gr,(ordI ls gs).Perm (cL (bT gs))
 |[]=>.refl _
 |g::gs=>by
  show(jH ls g++ordI ls gs).Perm (cL (g.2++bT gs));unfold cL;rw[List.map_append];exact(ra h g).append (l9 h gs)
def GZ(h:j<3):decide (kdS j=("come":Str))=decide (j=1):=by
 rcases(show j=0\/j=1\/j=2 by omega)with rfl|rfl|rfl<;>decide
def OE{k:Nat}(h:ls[k]?=!l):eD (ltz ls) (k:Int)=(l.2:Int):=by
 unfold eD ltz;rw[Int.toNat_natCast,List.getD_eq_getElem?_getD,getElem?_map,h];rfl
abbrev P9(gs:List Gr)(ls:List Lz)(os:Vd)(o3 o4:U6):Ev:=[sn (gI gs),sn (aC ls),dp (aM os),o3,o4,none,none]
def  DL(f:Fn):Prop:=∀ls gs,bS (ltz ls)->ls.length<=24->Good ls.length gs->f [gI gs,aC ls]=dp (aM (ordI (ltz ls) gs))
def Lh:DL (aK 2 7 sS):=λls gs hL h24 hG=>by
 have hfl:(bT gs).length=ls.length:=by rw[hG.pm.length_eq,length_range]
 have hle:∀i,(ordI (ltz ls) (gs.take i)).length<=24:=λi=>by
  rw[(l9 hL _).length_eq];have e:bT gs=bT (gs.take i)++bT (gs.drop i):=by unfold bT;rw[<-List.flatMap_append,List.take_append_drop]
  have e2:=congrArg List.length e;rw[length_append]at e2;unfold cL;rw[length_map];omega
 refine aj rfl ?_;refine q_set (evX_lfs rfl rfl rfl rfl) (q_forB (λi Y=>∃o3 o4,Y=P9 gs ls (ordI (ltz ls) (gs.take i)) o3 o4) rfl ⟨none,none,rfl⟩ ?_ ?_)
 .rintro i g Y hg ⟨o3,o4,rfl⟩;have hgm:=VH hg;have hk3:=hG.kd g hgm;have hin:∀a∈g.2,a<ls.length:=λa ha=>VG.mp (hG.pm.mem_iff.mp (List.mem_flatMap.mpr ⟨g,hgm,ha⟩));have hl1:=hle (i+1);have et:ordI (ltz ls) (gs.take (i+1))=ordI (ltz ls) (gs.take i)++jH (ltz ls) g:=by
   unfold ordI;rw[List.take_add_one,hg,Option.toList_some,List.flatMap_append];simp
  rw[et]at hl1⊢;rw[length_append]at hl1;have hgl:(jH (ltz ls) g).length=g.2.length:=by rw[(ra hL g).length_eq];unfold cL;rw[length_map]
  generalize ordI (ltz ls) (gs.take i)=V at*;have ext:∀(R:Fv),R (di (P9 gs ls V (sn (.str (kdS g.1))) (sn (rowD g.2))))=!(aM (jH _ g))->ab (lV 2 R) aE (P9 gs ls V (sn (.str _)) (sn _))=!(.nx (P9 gs ls (V++jH _ g) (sn (.str _)) (sn _))):=λR hR=>by
   refine(ar (l0 rfl hR (lu _) ?_)).trans ?_
   .rw[length_map,length_map];exact Vw (!1) (!2)
   .show some (Out.nx [_,_,!(Cat.deep,D.lst (V.map D.int++(jH (ltz ls) g).map D.int)),_,_,_,_])=!(Out.nx [_,_,!(Cat.deep,D.lst ((V++jH _ g).map D.int)),_,_,_,_]);rw[List.map_append]
  refine uV (b:=decide (g.1=1)) ?_ ?_
  .show ai (aa (!19) (va 3) (cS "come")) [!(gI gs),!(aC ls),_,!(.str (kdS g.1)),_,none,none]=_;simp only[testB_a,bin2_a,va_a,shAt_s,shAt_0,shAt_1,cS_a,Option.bind_some,yx,asB_bl];rw[<-GZ hk3];rfl
  .by_cases z:g.1=1
   .rw[decide_eq_true z];refine⟨_,ext _ ?_,⟨_,rfl,_,_,rfl⟩⟩;let⟨T,t1,t2,t3⟩:=l7 (λ_=>⟨_,rfl⟩) (L:=cL g.2) (by unfold cL;rw[length_map];omega) (qV _ _);have eT:T=gH _ _:=yF hL t1 t2;have eO:jH (ltz ls) g=T:=by unfold jH;rw[if_pos z,eT]
    have hTl:T.length=g.2.length:=by rw[<-eO,hgl]
    rw[eO];have c1:ae [6] (jX af (va 4)) (gNm 6) tQ (bQ (x2 (aa ak (aa ak (va 1) (va 6)) (cI 1)) (va 6))) [!(gI gs),!(aC ls),none,!(.str (kdS g.1)),!(rowD g.2),none,none]=!((cL g.2).map (keyL (ltz ls))):=by
     unfold cL;rw[List.map_map];refine aq rfl (λk hk=>?_) (Vw (show g.2.length<=24 by omega) (!2));have hkl:=hin k hk;have e0:=getElem?_eq_getElem hkl;show(bQ (x2 (aa ak (aa ak (va 1) (va 6)) (cI 1)) (va 6)) [!(gI gs),!(aC ls),none,!(.str (kdS g.1)),!(rowD g.2),none,!(iN k)]).bind _=_;rw[iZ,pA,consX_a,vg e0 rfl rfl];show some (!(D.tup [.int (ls[k].2:Int),.int (k:Int)]))=!(!(D.tup [.int (eD (ltz ls) (k:Int)),.int (k:Int)]));rw[OE e0]
    show aQ (ae [5] _ _ _ _) [!(gI gs),!(aC ls),none,!(.str (kdS g.1)),!(rowD g.2),none,none]=_;have s1:wM (x1 (aQ (ae [6] (jX af (va 4)) (gNm 6) tQ (bQ (x2 (aa ak (aa ak (va 1) (va 6)) (cI 1)) (va 6)))))) [!(gI gs),!(aC ls),none,!(.str (kdS g.1)),!(rowD g.2),none,none]=!(T.map (keyL (ltz ls))):=by
     show(x1 _ _).bind cX=_;rw[fP,consX_a,lsF_a,c1];exact t3
    rw[lsF_a,aq (mk:=keyL (ltz ls)) ?_ (λk hk=>rfl) (lt_of_le_of_lt (show T.length<=24 by omega) (!2))]
    .rfl
    .rw[bA,mT s1];rfl
   .rw[decide_eq_false z];refine⟨_,ext _ ?_,⟨_,rfl,_,_,rfl⟩⟩;have eO:jH (ltz ls) g=cL g.2:=by unfold jH;rw[if_neg z]
    rw[eO];show some (rowD g.2)=!(.lst ((g.2.map λ(k:Nat)=>(k:Int)).map D.int));rw[List.map_map];rfl
 .rintro Y ⟨o3,o4,rfl⟩;rw[List.take_length];rfl
def vm:∀gs:List Gr,(∀g∈gs,g.1<3)->xm gs->levs ls gs=(ordI ls gs).map ([·])
 |[],_,_=>rfl
 |g::gs,h,ha=>by
  show levG ls g++levs ls gs=(jH ls g++ordI ls gs).map ([·]);rw[List.map_append,vm gs (λq hq=>h q (mem_cons_of_mem _ hq)) λq hq=>ha q (mem_cons_of_mem _ hq)];congr 1;unfold levG jH;by_cases z:g.1=0
  .let⟨a,e⟩:=List.length_eq_one_iff.mp (ha g Vr z);rw[if_pos z,if_neg (!1),e,show ge (cL [a])=cL [a]from List.perm_singleton.mp (jp (cL [a]))];rfl
  .rw[if_neg z];by_cases y:g.1=1
   .rw[if_pos y,if_pos y]
   .rw[if_neg y,if_neg y]
end K16
namespace K16
open PySem PySem.Spec PyProof.Rows L2
def  fV:U1:=(ab (PD (aa ak (va 0) (va 2)) (zu 2 (b8 (dk 4) (b8 (dk 5) lU)))) (ab (dj (ai (aa (!19) (va 1) (cI 1))) (gG (bb (aQ (bI (aW (aa av (ca (va 0) cG (au (va 2))) (aQ (cJ (x1 (bQ (x2 (va 4) (aa av (va 5) (va 3)))))))) (aQ (bI (ca (va 0) cG (au (va 2))) (aQ (cJ (x1 (bQ (x2 (va 4) (aa av (va 5) (va 3)))))))))) (ca (va 0) (au (aa av (va 2) (cI 1))) cG))) (bI (aW (aa av (ca (va 0) cG (au (va 2))) (aQ (cJ (x1 (bQ (x2 (va 4) (aa av (va 5) (va 3)))))))) (aQ (bI (ca (va 0) cG (au (va 2))) (aQ (cJ (x1 (bQ (x2 (va 4) (aa av (va 5) (va 3)))))))))) (ca (va 0) (au (aa av (va 2) (cI 1))) cG)) af)) aE) (ab (dj (ai (aa (!19) (va 1) (cI 2))) (gG (bb (aQ (bI (aW (aa av (ca (va 0) cG (au (va 2))) (aQ (cJ (x1 (bQ (x2 (bQ (x2 (aa ak (va 4) (cI 0)) (aa av (aa ak (va 4) (cI 1)) (va 3)))) (va 5))))))) (aQ (bI (ca (va 0) cG (au (va 2))) (aQ (cJ (x1 (bQ (x2 (bQ (x2 (aa ak (va 4) (cI 0)) (aa av (aa ak (va 4) (cI 1)) (va 3)))) (va 5))))))))) (ca (va 0) (au (aa av (va 2) (cI 1))) cG))) (bI (aW (aa av (ca (va 0) cG (au (va 2))) (aQ (cJ (x1 (bQ (x2 (bQ (x2 (aa ak (va 4) (cI 0)) (aa av (aa ak (va 4) (cI 1)) (va 3)))) (va 5))))))) (aQ (bI (ca (va 0) cG (au (va 2))) (aQ (cJ (x1 (bQ (x2 (bQ (x2 (aa ak (va 4) (cI 0)) (aa av (aa ak (va 4) (cI 1)) (va 3)))) (va 5))))))))) (ca (va 0) (au (aa av (va 2) (cI 1))) cG)) af)) aE) (ab (dj (ai (aa (!19) (va 1) (cI 3))) (gG (bb (aQ (bI (ca (va 0) cG (au (va 2))) (ca (va 0) (au (aa av (va 2) (cI 1))) cG))) (bI (ca (va 0) cG (au (va 2))) (ca (va 0) (au (aa av (va 2) (cI 1))) cG)) af)) aE) (ab (dj (ai (aa (!19) (va 1) (cI 4))) (gG (bb (aQ (bI (aW (aa av (ca (va 0) cG (au (va 2))) (aQ (cJ (x1 (aa ak (va 0) (va 2)))))) (aQ (bI (ca (va 0) cG (au (va 2))) (aQ (cJ (x1 (aa ak (va 0) (va 2)))))))) (ca (va 0) (au (va 2)) cG))) (bI (aW (aa av (ca (va 0) cG (au (va 2))) (aQ (cJ (x1 (aa ak (va 0) (va 2)))))) (aQ (bI (ca (va 0) cG (au (va 2))) (aQ (cJ (x1 (aa ak (va 0) (va 2)))))))) (ca (va 0) (au (va 2)) cG)) af)) aE) (ab (dj (tZ (ai (aa (!19) (va 1) (cI 5))) (ai (aa nw (va 2) (cI 0)))) (gG (bb (aQ (bI (aW (aa av (ca (va 0) cG (au (aa cb (va 2) (cI 1)))) (aQ (cJ (x2 (aa ak (va 0) (va 2)) (aa ak (va 0) (aa cb (va 2) (cI 1))))))) (aQ (bI (ca (va 0) cG (au (aa cb (va 2) (cI 1)))) (aQ (cJ (x2 (aa ak (va 0) (va 2)) (aa ak (va 0) (aa cb (va 2) (cI 1))))))))) (ca (va 0) (au (aa av (va 2) (cI 1))) cG))) (bI (aW (aa av (ca (va 0) cG (au (aa cb (va 2) (cI 1)))) (aQ (cJ (x2 (aa ak (va 0) (va 2)) (aa ak (va 0) (aa cb (va 2) (cI 1))))))) (aQ (bI (ca (va 0) cG (au (aa cb (va 2) (cI 1)))) (aQ (cJ (x2 (aa ak (va 0) (va 2)) (aa ak (va 0) (aa cb (va 2) (cI 1))))))))) (ca (va 0) (au (aa av (va 2) (cI 1))) cG)) af)) aE) (ab (uF 0) aE)))))))
def xn{X ρ:Fv}(hX:X Y=!(rwD A))(hY:ρ Y=!(rwD B))(h:A.length+B.length<1000):bI X ρ Y=!((A++B).map kz):=by
 unfold bI;rw[hX,hY,Option.bind_some,Option.bind_some];show bM (!(A.map kz++B.map kz))=_;rw[<-List.map_append];exact dI (by rw[length_map,length_append];exact Nat.lt_trans h (!2))
def nQ{X ρ Z:Fv}(hX:X Y=!(rwD A))(hY:ρ Y=!(rwD B))(hZ:Z Y=!(rwD C))(h:A.length+B.length+C.length<1000):bI (aW (aa av X ρ) (aQ (bI X ρ))) Z Y=!((A++B++C).map kz):=by
 refine xn ?_ hZ (by rw[length_append];exact h);have e:aa av X ρ Y=none:=by rw[bin2_a,hX,hY];rfl
 unfold aW;rw[e,lsF_a,xn hX hY (!1)];rfl
def pO{α:Type}{out:α->Option Out}{P:α->Prop}(h:c (vw Y)=!b)(k1:b=true->∃a,F Y=out a/\(∃s,out a=!(.rt s))/\P a)(k2:b=false->∃a,G Y=out a/\P a):∃a,ab (dj c F aE) G Y=out a/\P a:=by
 cases b with
 |false=>exact N7 h (k2 rfl)
 |true=>
  let⟨a,e,⟨s,e2⟩,p⟩:=k1 rfl;exact⟨a,(aS ((ifS_t h).trans (e.trans e2))).trans e2.symm,p⟩
def DM{B:Fv}(h0:bx Y 0=!(rwD A))(h1:B Y=!(iN t)):ca (va 0) cG (au B) Y=!(rwD (A.take t)):=by
 rw[q0 h0 rfl (by unfold au;rw[h1];rfl),i7];rfl
def DN{B:Fv}(h0:bx Y 0=!(rwD A))(h1:B Y=!(iN t)):ca (va 0) (au B) cG Y=!(rwD (A.drop t)):=by
 rw[q0 h0 (by unfold au;rw[h1];rfl) rfl,i6];rfl
abbrev vS(A:List Pe)(way:Int)(t:Nat)(far:Int)(e:Pe):Vv:=[!(rwD A),!(.int way),!(iN t),!(.int far),!(dm e.1),!(.int e.2)]
def  Li(f:Fn):Prop:=∀(A:List Pe)(way:Int)(t:Nat)(far:Int),A.length<100->t<A.length->∃c S,S.length<=102/\f [rwD A,.int way,iN t,.int far]=!(c,rwD S)
def OF:Li (aK 4 6 fV):=λA way t far hA ht=>by
 suffices h:∃z:Cat×List Pe,fV [sn (rwD A),sn _,sn (iN t),sn _,none,none]=!(.rt (z.1,rwD z.2))/\z.2.length<=102 by
  let⟨⟨c,S⟩,h1,h2⟩:=h;exact⟨c,S,h2,aj rfl h1⟩
 obtain⟨e,he⟩:∃e,A[t]?=!e:=⟨_,getElem?_eq_getElem ht⟩;have ix:ak (rwD A) (iN t)=!(kz e):=aY he;refine jE (Ig ix rfl) ?_;have t1:∀n:Int,ai (aa (!19) (va 1) (cI n)) (vS A way t far e)=!(decide _):=λn=>by
  show(((aB false (.int way) (.int n))).bind D.asB)=_;rw[xj];rfl
 have p1:aa av (va 2) (cI 1) (vS A way t far e)=!(iN (t+1)):=by
  rfl
 have T:=DM (Y:=vS A way t far e) (B:=va 2) rfl rfl;have D0:=DN (Y:=vS A way t far e) (B:=va 2) rfl rfl;have D1:=DN rfl p1;have ret:∀(L:UZ)(S:List Pe),L (vS A way t far e)=!_->S.length<=102->∃z:Cat×List Pe,gG (bb (aQ L) L af) [sn (rwD A),sn _,sn (iN t),sn _,sn _,sn _]=!(.rt (z.1,rwD z.2))/\(∃s,some (Out.rt (z.1,rwD z.2))=!(.rt s))/\z.2.length<=102:=λL S hL hS=>
  ⟨(.deep,S),q_ret (evX_lfs (by show aQ L (vS A way t far e)=_;rw[lsF_a,hL];rfl) rfl hL (sH S)),⟨_,rfl⟩,hS⟩
 have lt1:(A.take t).length=t:=by rw[List.length_take];omega
 have ld1:(A.drop (t+1)).length=A.length-(t+1):=List.length_drop;have ld0:(A.drop t).length=A.length-t:=List.length_drop;refine pO (t1 1) (λ_=>ret _ _ (nQ T (B:=[(e.1,e.2+far)]) rfl D1 ?_) ?_) λ_=>pO (t1 2) (λ_=>ret _ _ (nQ T (B:=[((e.1.1,e.1.2+far),e.2)]) rfl D1 ?_) ?_) λ_=>pO (t1 3) (λ_=>ret _ _ (xn T D1 ?_) ?_) λ_=>pO (t1 4) (λ_=>ret _ _ (nQ T (B:=[e]) ?_ D0 ?_) ?_) λ_=>?_;all_goals try (simp only[length_append,List.length_singleton,lt1,ld1,ld0];omega)
 .rw[lsF_a,dpF_a,fP,consX_a,show aa ak (va 0) (va 2) (vS A way t far e)=some (kz e)from ix];rfl
 .refine pO (b:=decide (way=5)&&decide ((0:Int)<(t:Int))) ?_ (λhb=>?_) λ_=>⟨(.sh,A),rfl,by show A.length<=102;omega⟩
  .show tZ _ (ai (aa nw (va 2) (cI 0))) (vS A way t far e)=_;rw[andQ_a,t1,Option.bind_some,show ai (aa nw (va 2) (cI 0)) (vS A way t far e)=some (decide ((0:Int)<(t:Int)))from rfl];cases decide (way=5)<;>rfl
  .have h0:(0:Int)<(t:Int):=Vt (and_eq_true _ _▸hb).2;obtain⟨e',he'⟩:∃e',A[t-1]?=!e':=⟨_,getElem?_eq_getElem (!1)⟩;have ix':ak (rwD A) (iN (t-1))=!_:=aY he';have q1:aa cb (va 2) (cI 1) (vS A way t far e)=!(iN (t-1)):=by
    show some (D.int ((t:Int)-1))=!(D.int ((t-1:Nat):Int));congr 2;omega
   have T':=DM rfl q1;have lt2:(A.take (t-1)).length=t-1:=by rw[List.length_take];omega
   refine ret _ _ (nQ T' (B:=[e,e']) ?_ D1 ?_) ?_
   .rw[lsF_a,dpF_a,pA,consX_a,show aa ak (va 0) (va 2) (vS A way t far e)=some (kz e)from ix,Option.bind_some,fP,consX_a,bin2_a,q1,show va 0 (vS A way t far e)=some (rwD A)from rfl,Option.bind_some,Option.bind_some,ix'];rfl
   .simp only[length_cons,List.length_nil,lt2,ld1];omega
   .simp only[length_append,length_cons,List.length_nil,lt2,ld1];omega
end K16
namespace K16
open PySem PySem.Spec PyProof.Rows L2
def  j6(bL:Fn):U1:=(ab (aw 2 (cm (aa aU (aa ak (va 1) (cI 13)) (cI 12)))) (ab (aw 3 (cm (aa ak (aQ (cJ (x4 (cI 1) (ng (cI 1)) (aa av (cI 1) (aa aU (aa cO (aa ak (va 1) (cI 14)) (cI 4)) (aa lP (cI 10) (cI 30)))) (aa cb (ng (cI 1)) (aa aU (aa cO (aa ak (va 1) (cI 14)) (cI 4)) (aa lP (cI 10) (cI 30))))))) (aa aU (aa ak (va 1) (cI 14)) (cI 4))))) (ab (aw 4 (bb (aQ (ae [6] (jX af (va 0)) (gNm 6) tQ (liF (x1 (va 6))))) (ae [6] (jX af (va 0)) (gNm 6) tQ (liF (x1 (va 6)))) (fCo [6] (jX af (va 0)) (gNm 6) tQ (frX (liF (x1 (va 6))) (l1F (x1 (va 6))) (fNo (x1 (va 6))))))) (ab (dj (ai (aa (!19) (va 2) (cI 6))) (gG (bb (ca (va 4) cG (au (ng (cI 1)))) (kW (va 4) cG (au (ng (cI 1)))) af)) aE) (ab (dj (ai (aa (!19) (va 2) (cI 7))) (gG (bb (aQ (bI (va 4) (aQ (cJ (x1 (aQ (cJ ax))))))) (bI (va 4) (aQ (cJ (x1 (aQ (cJ ax)))))) af)) aE) (ab (dj (ai (aa nw (cK (va 4)) (cI 0))) (ab (aw 5 (cm (aa aU (aa ak (va 1) (cI 15)) (cK (va 4))))) (ab (dj (ai (aa nw (cK (aa ak (va 4) (va 5))) (cI 0))) (ab (fI 4 (va 5) (BD 4 (va 5) (x3 (va 2) (aa aU (aa ak (va 1) (cI 16)) (cK (aa ak (va 4) (va 5)))) (va 3)) bL)) aE) aE) aE)) aE) (ab (uF 4) aE)))))))
def q_if{b:Bool}(h:c (vw Y)=!b)(k1:(if b then F Y else G' Y)=!(.nx Y'))(k:G Y'=out):ab (dj c F G') G Y=out:=by
 refine(ar ?_).trans k;cases b with
 |true=>exact(ifS_t h).trans k1
 |false=>exact(dX h).trans k1
def evX_fr{R L Sp}(h:frX R L Sp (vw Y)=!e):bb R L Sp Y=!((.deep,e),Y):=by
 unfold bb aW kX;rw[h];rfl
def DO(h:R (vw Y)=!(.lst ds))(hl:L (vw Y)=!ds)(hl2:L (di Y)=none)(h2:R (di Y)=none):∃z:Cat×Ev,bb R L af Y=!((z.1,.lst ds),z.2):=by
 cases c:fw ds with
 |true=>exact⟨(.deep,Y),evX_lfs h rfl hl c⟩
 |false=>
  refine⟨(.sh,cR Y),?_⟩;have e:frX R L af (vw Y)=none:=by
   unfold frX aW;dsimp only;rw[h,hl];have e1:vq (!(D.lst ds))=none:=rfl;have e2:iA (!ds)=none:=by unfold iA;rw[Option.bind_some,c];rfl
   rw[e1,e2];rfl
  unfold bb aW kX oE ui Bu;dsimp only;rw[e,h,hl2,h2];rfl
def xo{Y:Vv}(hk:k<Y.length):bx ((Y.set k none).set k (!d)) k=!d:=by
 unfold bx;rw[List.getElem?_set_self (by rw[List.length_set];exact hk)]
section
variable{β:Type}{k:Nat}{J:Fx}{Y:Vv}{xs:List β}{g:β->Vg}
def Lj(hJ:J Y=!(xs.map λx=>.lst (g x)))(hk:k<Y.length)(hl:xs.length<big):ae [k] J (gNm k) tQ (liF (x1 (va k))) Y=!(xs.map λx=>.lst (g x)):=by
 refine aq hJ (λx _=>?_) hl;simp only[stepF_a,wipe_cons,wipe_nil,gNm_a,tQ_a,Option.bind_some,if_true,pd,consX_a,nilX_a,va_a,xo hk,map_some];rfl
def cp_f(hJ:J Y=!(xs.map λx=>.lst (g x)))(hk:k<Y.length)(hl:xs.length<big)(lf:∀x∈xs,fw (g x)=true):frX (aQ (ae [k] J (gNm k) tQ (liF (x1 (va k))))) (ae [k] J (gNm k) tQ (liF (x1 (va k)))) (fCo [k] J (gNm k) tQ (frX (liF (x1 (va k))) (l1F (x1 (va k))) (fNo (x1 (va k))))) Y=!(.lst (xs.map λx=>.lst (g x))):=by
 have c1:=Lj hJ hk hl;have c2:ae [k] J (gNm k) tQ (frX (liF (x1 (va k))) (l1F (x1 (va k))) (fNo (x1 (va k)))) Y=!(xs.map λx=>.lst (g x)):=by
  refine aq hJ (λx hx=>?_) hl;have e2:frX (liF (x1 (va k))) (l1F (x1 (va k))) (fNo (x1 (va k))) ((Y.set k none).set k (!(.lst (g x))))=!_:=km (by simp only[pd,consX_a,nilX_a,va_a,xo hk,Option.bind_some];rfl) (by simp only[yt,consX_a,nilX_a,va_a,xo hk,Option.bind_some];rfl) (lf x hx);simp only[stepF_a,wipe_cons,wipe_nil,gNm_a,tQ_a,Option.bind_some,if_true,e2]
 cases xs with
 |nil=>exact km (by rw[lsF_a,c1];rfl) c1 rfl
 |cons x xs=>
  refine Eq.trans ?_ (show fCo [k] J (gNm k) tQ (frX (liF (x1 (va k))) (l1F (x1 (va k))) (fNo (x1 (va k)))) Y=_ by unfold fCo;rw[c2];rfl);generalize fCo [k] J (gNm k) tQ (frX (liF (x1 (va k))) (l1F (x1 (va k))) (fNo (x1 (va k))))=Z;unfold frX aW;dsimp only;rw[lsF_a,c1];rfl
end
def Ha{β:Type}(xs:List β)(f:β->D)(lo hi:Vj):∃S:List β,S.length<=xs.length/\L2.cutD (xs.map f) lo hi=S.map f:=by
 unfold L2.cutD;generalize HT.sIx (xs.map f).length 0 lo=a;generalize HT.sIx (xs.map f).length (xs.map f).length hi-a=b;exact⟨(xs.drop a).take b,((List.take_sublist _ _).trans (List.drop_sublist _ _)).length_le,by rw[<-List.map_drop,<-List.map_take]⟩
def Sj(x a b:Int):∃d:Int,ak (.lst [.int 1,.int (-1),.int a,.int b]) (.int (x%4))=!(.int d):=by
 rcases(show x%4=0\/x%4=1\/x%4=2\/x%4=3 by omega)with h|h|h|h<;>rw[h]<;>exact⟨_,dC (!2) rfl⟩
def DP(h:T[k]?=!A):ak (c6 T) (iN k)=!(rwD A):=aY h
def sX(T:List (List Pe)):eB [c6 T]=!(iN T.length):=by rw[bf];show some (D.int ((T.map rwD).length:Nat))=_;rw[length_map]
def sZ(A:List Pe):eB [rwD A]=!(iN A.length):=by rw[bf];show some (D.int ((A.map kz).length:Nat))=_;rw[length_map]
abbrev sY(T:List (List Pe))(cs:Vd)(way far:Int)(c:Cat)(S:List (List Pe))(o5:U6):Ev:=[sn (c6 T),sn (aM cs),dp (.int way),dp (.int far),!(c,c6 S),o5,none]
def  Lk(f:Fn):Prop:=∀(T:List (List Pe))(cs:Vd),Bn cs->20<=cs.length->T.length<=24->(∀A∈T,A.length<100)->∃c S,S.length<=25/\f [c6 T,aM cs]=!(c,c6 S)
def OG(h1:Li sp):Lk (aK 2 7 (j6 sp)):=λT cs hB hc hT hA=>by
 suffices h:∃z:Cat×List _,j6 sp [sn (c6 T),sn _,none,none,none,none,none]=!(.rt (z.1,c6 z.2))/\z.2.length<=25 by
  let⟨⟨c,S⟩,e1,e2⟩:=h;exact⟨c,S,e2,aj rfl e1⟩
 let⟨a,_,_,ea⟩:=mY (i:=13) hB (!2) (!1);let⟨b,_,_,eb⟩:=mY (i:=14) hB (!2) (!1);let⟨u,_,_,eu⟩:=mY (i:=15) hB (!2) (!1);let⟨w,_,_,ew⟩:=mY (i:=16) hB (!2) (!1);let⟨far,ef⟩:=Sj b (1+b/4%TT) (-1-b/4%TT);have lb:∀n,n<=30->n<big:=λn h=>Vw h (!2);refine x_set (evX_lf (d:=.int (a%12)) ?_ rfl) (x_set (evX_lf (d:=.int far) ?_ rfl) (x_set (evX_fr (cp_f rfl (show 6<7 by decide) (lb _ (!1)) λA _=>sH A)) ?_))
 .simp only[sB,ea,lY _ 12 (!2)]
 .simp only[sB,eb,lY _ 4 (!2),P8,cg (show(0:Int)<4 by decide) (!2),bp Dw,wY,yq];exact ef
 generalize a%12=way;show∃z:Cat×List (List Pe),ab _ _ (sY T cs way far .deep T none)=_/\_;have t1:∀n:Int,ai (aa (!19) (va 2) (cI n)) (vw (sY T cs way far .deep T none))=!(decide _):=λn=>by
  show(((aB false (.int way) (.int n))).bind D.asB)=_;rw[xj];rfl
 refine pO (t1 6) (λ_=>?_) λ_=>pO (t1 7) (λ_=>?_) λ_=>?_
 .let⟨S,sl,es⟩:=Ha T rwD none _;let⟨⟨c,Y'⟩,e⟩:=DO (Y:=sY T cs way far .deep T none) (R:=ca (va 4) cG (au (ng (cI 1)))) (L:=kW (va 4) cG (au (ng (cI 1)))) (ds:=S.map rwD) (by rw[<-es];exact q0 rfl rfl rfl) (by rw[<-es];exact xk rfl rfl rfl) rfl rfl;exact⟨(c,S),q_ret e,⟨_,rfl⟩,by show S.length<=25;omega⟩
 .have eL:bI (va 4) (aQ (cJ (x1 (aQ (cJ ax))))) (vw (sY T cs way far .deep T none))=!((T++[[]]).map rwD):=by
   rw[List.map_append];exact dI (by rw[length_append,length_map];exact lb _ (by show T.length+1<=30;omega))
  let⟨⟨c,Y'⟩,e⟩:=DO (R:=aQ (bI (va 4) (aQ (cJ (x1 (aQ (cJ ax))))))) (by rw[lsF_a,eL];rfl) eL rfl rfl;exact⟨(c,T++[[]]),q_ret e,⟨_,rfl⟩,by show(T++[[]]).length<=25;rw[length_append];show T.length+1<=25;omega⟩
 .suffices h:∃c S o5,S.length<=25/\(if decide ((0:Int)<(T.length:Int))=true then _ else aE _)=some (.nx (sY T cs way far c S o5))by
   let⟨c,S,o5,hs,e⟩:=h;refine uV ?_ ⟨_,e,(c,S),rfl,hs⟩;simp only[sB,sX,lX]
  by_cases hT0:0<T.length;case neg=>
   rw[decide_eq_false (!1),if_neg Bool.false_ne_true];exact⟨_,_,_,by omega,rfl⟩
  rw[decide_eq_true (!1),if_pos rfl];have m0:0<=u%(T.length:Int):=Int.emod_nonneg _ (!1);have m1:u%(T.length:Int)<T.length:=Int.emod_lt_of_pos _ (!1);obtain⟨m,em⟩:∃m:Nat,u%(T.length:Int)=m:=⟨(u%(T.length:Int)).toNat,by omega⟩;have hm:m<T.length:=by omega
  have hg:=getElem?_eq_getElem hm;have hAm:=hA _ (List.getElem_mem hm);generalize T[m]=A at hg hAm;suffices h:∃c S,S.length<=25/\(if decide ((0:Int)<(A.length:Int))=true then _ else aE (sY T cs way far .deep T (dp (iN m))))=some (.nx (sY T cs way far c S (dp (iN m))))by
   let⟨c,S,hs,e⟩:=h;refine⟨c,S,_,hs,q_set (evX_lf ?_ rfl) (q_if ?_ e rfl)⟩
   .simp only[sB,eu,sX,bp (show(0:Int)<(T.length:Int)by omega),em]
   .simp only[sB,DP hg,sZ,lX]
  by_cases hA0:0<A.length;case neg=>
   rw[decide_eq_false (!1),if_neg Bool.false_ne_true];exact⟨_,_,by omega,rfl⟩
  rw[decide_eq_true (!1),if_pos rfl];have n0:0<=w%(A.length:Int):=Int.emod_nonneg _ (!1);have n1:w%(A.length:Int)<A.length:=Int.emod_lt_of_pos _ (!1);obtain⟨t,et⟩:∃t:Nat,w%(A.length:Int)=t:=⟨(w%(A.length:Int)).toNat,by omega⟩;let⟨c,S,hS,eS⟩:=h1 A way t far hAm (!1);refine⟨.top,T.set m S,by rw[List.length_set];omega,?_⟩;have eX:(x3 (va 2) (aa aU (aa ak (va 1) (cI 16)) (cK (aa ak (va 4) (va 5)))) (va 3)) (vw (sY T cs way far .deep T (dp (iN m))))=![.int way,iN t,.int far]:=by
   simp only[sB,ew,DP hg,sZ,bp (show(0:Int)<(A.length:Int)by omega),et]
  have eE:BD 4 (va 5) (x3 (va 2) (aa aU (aa ak (va 1) (cI 16)) (cK (aa ak (va 4) (va 5)))) (va 3)) sp (sY T cs way far .deep T (dp (iN m)))=!((.sh,rwD S),sY T cs way far .top T (dp (iN m))):=by
   unfold BD;rw[show ownL (sY T cs way far .deep T (dp (iN m))) 4=some _ from rfl,Option.bind_some,show va 5 (vw (sY T cs way far .deep T (dp (iN m))))=some (iN m)from rfl,Option.bind_some,show ak (.lst (T.map rwD)) (iN m)=some (rwD A)from DP hg,Option.bind_some,eX,Option.bind_some,eS];rfl
  refine(ar ?_).trans rfl;show fI 4 (va 5) _ (sY T cs way far .deep T (dp (iN m)))=_;unfold fI;rw[eE,Option.bind_some];show((zd (T.map rwD).length (m:Int)).bind λj=>!(Out.nx [_,_,_,_,!(newCat .top (.sh,rwD S),.lst ((T.map rwD).set j (rwD S))),_,_]))=_;rw[Ge (by rw[length_map];exact hm),Option.bind_some,<-List.map_set];rfl
end K16
namespace K16
open PySem PySem.Spec PyProof.Rows L2
def  DQ(s0:Vg->Option (List (Str×D)))(dM:Fn)(td:Vg->Option (List (Str×D)))(dQ fg fu dP dh dO dN eZ:Fn):U1:=(ab (aw 1 (l5 eZ (x2 (va 0) (cI 84)))) (ab (aw 2 (l5 dN (x2 (va 1) (cI 0)))) (ab (aw 3 (l5 dO (x3 (va 1) (cI 60) (va 2)))) (ab (aw 4 (l5 dh (x4 (va 1) (cI 20) (aa aU (aa ak (va 1) (cI 12)) (cI 7)) (va 2)))) (ab (aw 5 (l5 dP (x3 (va 1) (cI 30) (cK (va 4))))) (ab (aw 6 (l5 fu (x4 (va 2) (va 4) (bz fg (x2 (va 5) (va 4))) (va 3)))) (ab (aw 7 (cm (cI 0))) (ab (dj (tZ (ai (aa nw (cK (va 6)) (cI 0))) (ai (aa nw (cK (aa ak (va 6) (ng (cI 1)))) (cI 0)))) (ab (aw 7 (bb (bn minD' (x1 (aQ (ae [16,17] (jX af (aa ak (va 6) (ng (cI 1)))) (kc 2 (ao (gNm 16) (ao (gNm 17) bd))) tQ (va 17))))) af (fNo (x1 (aQ (ae [16,17] (jX af (aa ak (va 6) (ng (cI 1)))) (kc 2 (ao (gNm 16) (ao (gNm 17) bd))) tQ (va 17))))))) aE) aE) (ab (aw 8 (l5 dQ (x2 (va 6) (va 1)))) (ab (aw 9 (cm (jA (aa (!19) (va 8) (va 6)) (MP (aa (!19) (cK (va 6)) (cI 0)) (aa nw (cK (aa ak (va 6) (ng (cI 1)))) (cI 0)))))) (ab (aw 10 (bb (Kd "Wish" td (x2 (va 4) (va 5))) af (fNo (x2 (va 4) (va 5))))) (ab (aw 11 (bb (aQ (cJ (x3 (liF (!16)) (aQ (ae [14] (jX af (va 3)) (gNm 14) tQ (liF (x1 (va 14))))) (aQ (ae [15] (jX af (va 8)) (gNm 15) tQ (liF (x1 (va 15)))))))) (cJ (x3 (liF (!16)) (aQ (ae [14] (jX af (va 3)) (gNm 14) tQ (liF (x1 (va 14))))) (aQ (ae [15] (jX af (va 8)) (gNm 15) tQ (liF (x1 (va 15))))))) (CA (x3 (frX (liF (!16)) (l1F (!16)) (fNo (!16))) (frX (aQ (ae [14] (jX af (va 3)) (gNm 14) tQ (liF (x1 (va 14))))) (ae [14] (jX af (va 3)) (gNm 14) tQ (liF (x1 (va 14)))) (fCo [14] (jX af (va 3)) (gNm 14) tQ (frX (liF (x1 (va 14))) (l1F (x1 (va 14))) (fNo (x1 (va 14)))))) (frX (aQ (ae [15] (jX af (va 8)) (gNm 15) tQ (liF (x1 (va 15))))) (ae [15] (jX af (va 8)) (gNm 15) tQ (liF (x1 (va 15)))) (fCo [15] (jX af (va 8)) (gNm 15) tQ (frX (liF (x1 (va 15))) (l1F (x1 (va 15))) (fNo (x1 (va 15)))))))))) (ab (iq (jX af (aQ (cJ (x4 (cI 0) (cI 1) (ng (cI 1)) (aa cb (aa aU (aa ak (va 1) (cI 17)) (aa lP (cI 10) (cI 30))) (aa lP (cI 10) (cI 29))))))) (dk 12) (ab (aw 13 (l5 dM (x6 (Kd "Mill" s0 (x1 (va 2))) (aa ak (va 11) (cI 0)) (va 10) (aa ak (va 11) (cI 1)) (aa av (va 7) (va 12)) (aa ak (va 11) (cI 2))))) (ab (dj (t4 (cP (mP (bn fO (x2 (va 13) (cT "bool"))))) (ai (aa (aB true) (va 13) (jA (va 9) (aa (!19) (va 12) (cI 0)))))) (gG (cm (cB false))) aE) aE))) (gG (cm (aa (!19) (va 11) (aQ (cJ (x3 (va 4) (va 3) (va 8))))))))))))))))))))
def  Mo{α:Type}(F:Vv->Option α)(Y:Ev):Prop:=F (di Y)=none\/F (di Y)=F (vw Y)
def c9(i:Nat)(Y:Ev):Mo (va i) Y:=by
 show bx (di Y) i=none\/bx (di Y) i=bx (vw Y) i;unfold bx di vw;rw[getElem?_map,getElem?_map];rcases Y[i]? with _|_|⟨c,d⟩
 .exact .inl rfl
 .exact .inl rfl
 .have key:(if lfD d then !d else none)=none\/(if lfD d then !d else none)=!d:=by
   cases lfD d
   .exact .inl rfl
   .exact .inr rfl
  cases c with
  |sh=>exact .inr rfl
  |top=>
   show(match some (if lfD d then !d else none)with|some (!d)=>!d|_=>none)=none\/(match some (if lfD d then !d else none)with|some (!d)=>!d|_=>none)=!d;rcases key with k|k<;>rw[k]
   .exact .inl rfl
   .exact .inr rfl
  |deep=>
   show(match some (if lfD d then !d else none)with|some (!d)=>!d|_=>none)=none\/(match some (if lfD d then !d else none)with|some (!d)=>!d|_=>none)=!d;rcases key with k|k<;>rw[k]
   .exact .inl rfl
   .exact .inr rfl
section
variable{Y:Ev}{α β γ:Type}
def Mo.of{g:β->Option α}(h:Mo G Y)(e:∀Y,F Y=(G Y).bind g):Mo F Y:=by
 unfold Mo;rw[e,e];rcases h with h|h
 .rw[h];exact .inl rfl
 .rw[h];exact .inr rfl
def Mo.two{K}{g:β->γ->Option α}(h:Mo G Y)(k:Mo K Y)(e:∀Y,F Y=(G Y).bind λx=>(K Y).bind (g x)):Mo F Y:=by
 unfold Mo;rw[e,e];rcases h with h|h
 .rw[h];exact .inl rfl
 .rw[h];rcases k with k|k
  .rw[k];left;cases G (vw Y)<;>rfl
  .rw[k];exact .inr rfl
def xp{a b:Fv}(h:Mo a Y)(k:Mo b Y):Mo (aa g a b) Y:=h.two k λ_=>rfl
def g9{a:Fv}{b:Fx}(h:Mo a Y)(k:Mo b Y):Mo (ac a b) Y:=h.two k λ_=>rfl
def pP{a:Fv}(h:Mo a Y):Mo (x1 a) Y:=g9 h (.inr rfl)
def Il{f:Fn}{xs:Fx}(h:Mo xs Y):Mo (bz f xs) Y:=h.of λ_=>clF_a
def OH{a:Fv}(h:Mo a Y):Mo (cK a) Y:=(pP h).of λ_=>biF_a
def Sk{R:Fv}(h:Mo R Y):Mo (jX af R) Y:=h.of λ_=>rfl
def OI{L:Fx}(h:Mo L Y):Mo (aQ L) Y:=h.of λY=>by rw[lsF_a];cases L Y<;>rfl
def OJ{xs:Fx}(h:Mo xs Y):Mo (cJ xs) Y:=h.of λY=>by rw[dpF_a];cases xs Y<;>rfl
def lF(n:Int):Mo (cI n) Y:=.inr rfl
def DR(Y:Ev):vw (cR Y)=vw Y:=by
 unfold vw cR;rw[List.map_map];refine List.map_congr_left λs _=>?_;cases s<;>rfl
def vw_set(Y:Ev)(i:Nat)(s:Sl):vw (Y.set i (!s))=(vw Y).set i (!s.2):=by unfold vw;rw[List.map_set];rfl
def OK{R Sp:Fv}(h:R (vw Y)=!d)(m:Mo R Y)(hs:∀e,Sp (vw Y)=!e->e=d):∃z:Cat×Ev,bb R af Sp Y=!((z.1,d),z.2)/\vw z.2=vw Y:=by
 cases f:lfD d with
 |true=>exact⟨(.deep,Y),evX_lf h f,rfl⟩
 |false=>
  cases hp:Sp (vw Y)with
  |some e=>
   cases hs e hp;exact⟨(.deep,Y),evX_call h f rfl hp,rfl⟩
  |none=>
   rcases m with m|m
   .exact⟨(.sh,cR Y),evX_fz h f rfl hp rfl m,DR Y⟩
   .exact⟨(.sh,Y),oY h f rfl hp rfl (m.trans h),rfl⟩
def pQ{f:Fn}{xs:Fx}(hx:xs (vw Y)=!ds)(m:Mo xs Y)(e:f ds=!(c,d)):∃z:Cat×Ev,l5 f xs Y=!((z.1,d),z.2)/\vw z.2=vw Y:=
 OK (by rw[clF_a,hx,Option.bind_some,e];rfl) (Il m) λe' h=>by
  rw[fCl_a,hx,Option.bind_some,e]at h;cases c<;>cases h;rfl
def fK{g:U3}(hv:vw Y=v)(h:∃z:Cat×Ev,g Y=!((z.1,d),z.2)/\vw z.2=vw Y)(k:∀Y',vw Y'=v.set i (!d)->G Y'=out):ab (aw i g) G Y=out:=by
 let⟨⟨c,Y'⟩,e,e2⟩:=h;exact q_set e (k _ (by rw[vw_set];rw[show vw Y'=vw Y from e2,hv]))
def forD_inv(I:Ev->Prop):∀(xs:List β)(Y:Ev),(∀x Y,x∈xs->I Y->∃Y',(tg (mk x) Y).bind F=!(.nx Y')/\I Y')->I Y->∃Y',p0 (we tg F) (xs.map mk) Y=!(.nx Y')/\I Y'
 |[],Y,_,h=>⟨Y,rfl,h⟩
 |x::xs,Y,hs,h=>by
  let⟨Y1,e1,h1⟩:=hs x Y Vr h;let⟨Y2,e2,h2⟩:=forD_inv I xs Y1 (λy Y hy=>hs y Y (Vs _ hy)) h1;refine⟨Y2,?_,h2⟩;show(we tg F (mk x) Y).bind _=_;rw[show we tg F (mk x) Y=some (.nx Y1)from e1];exact e2
def Ll{J:Fx}{xs:List β}(I:Ev->Prop)(hJ:J (vw Y)=!(xs.map mk))(mJ:Mo J Y)(h0:∀Y',vw Y'=vw Y->I Y')(hs:∀x Y,x∈xs->I Y->∃Y',(tg (mk x) Y).bind F=!(.nx Y')/\I Y')(k:∀Y',I Y'->G Y'=out):ab (iq J tg F) G Y=out:=by
 rcases mJ with m|m
 .let⟨Y',e,i⟩:=forD_inv I xs _ hs (h0 _ (DR Y));refine(ar ?_).trans (k _ i);unfold iq aW gT zv;rw[m,hJ];exact e
 .let⟨Y',e,i⟩:=forD_inv I xs Y hs (h0 _ rfl);refine(ar ?_).trans (k _ i);unfold iq aW gT;rw[m,hJ,Option.bind_some,e]
end
def Lm(ls:List Lz):ke (aC ls)=true/\mK (aC ls)<=3:=by
 let⟨x,y⟩:=fU (f:=yN) λl _=>⟨rfl,by show max 0 (max 0 0)+1<=2;decide⟩;exact⟨x,Nat.succ_le_succ y⟩
def OL(l:Vd):ke (aM l)=true/\mK (aM l)<=2:=by
 let⟨x,y⟩:=fU (f:=D.int) λl _=>⟨rfl,Nat.zero_le _⟩;exact⟨x,Nat.succ_le_succ y⟩
def OM(rs:List (Vd)):ke (dY rs)=true/\mK (dY rs)<=3:=by
 let⟨x,y⟩:=fU λl _=>OL l;exact⟨x,Nat.succ_le_succ y⟩
def ON(T:List (List Pe)):ke (c6 T)=true/\mK (c6 T)<=4:=by
 let⟨x,y⟩:=fU λl _=>Ic l;exact⟨x,Nat.succ_le_succ y⟩
def DS(ls:List Lz)(rs:List (Vd))(T:List (List Pe)):aB false (.lst [aC ls,dY rs,c6 T]) (.lst [aC ls,dY rs,c6 T])=!(.bl true):=by
 let⟨a1,a2⟩:=Lm ls;let⟨b1,b2⟩:=OM rs;let⟨c1,c2⟩:=ON T;refine yE false ?_ ?_ rfl rfl
 .show(ke (aC ls)&&(ke (dY rs)&&(ke (c6 T)&&true)))=true;rw[a1,b1,c1];rfl
 .show max (mK (aC ls)) (max (mK (dY rs)) (max (mK (c6 T)) 0))+1<=50;omega
def DT(hv:Valid ps)(h:∀l∈ls,LzOk ps l):bS (ltz ls):=λp hp=>by
 let⟨l,h1,rfl⟩:=Vz.mp hp;have:=(h l h1).3;have:=hv.len;exact⟨Int.natCast_nonneg _,by show(l.2:Int)<10;omega⟩
def OO(ls:List Lz):aC ls=lsD' (ltz ls):=by
 unfold aC lsD' ltz;rw[List.map_map];rfl
def Hb(h:∀x∈l,0<=x):cL (l.map Int.toNat)=l:=by
 unfold cL;rw[List.map_map];refine(List.map_congr_left λx hx=>?_).trans (List.map_id l);show((x.toNat:Nat):Int)=x;have:=h x hx;omega
noncomputable abbrev vZ(a b c d e f g h i j k l m n:Vi):Vv:=[a,b,c,d,e,f,g,h,i,j,k,l,m,n,none,none,none,none]
def Hc{mi ts wi sp od tb gr lt pr pa ce op}(hmi:CU mi)(hts:Sg ts)(hwi:Dn wi)(hsp:Lk sp)(hod:DL od)(htb:GP op tb)(hop:Lb op)(hgr:Lg gr)(hlt:Le lt)(hpr:sN pr)(hpa:Ld pa)(hce:xh ce)(ns:Vd)(hn:ns.length<=63):cx (aK 1 18 (DQ mi ts wi sp od tb gr lt pr pa ce) [aM ns])=!(.bl true):=by
 let⟨cs,lc,hB,e1⟩:=hce ns 84 (!1) (!2) (!2)
 let⟨ps,l3,hP,e2⟩:=hpa cs 0 (!1)
 have hv:=Ak l3 hP
 let⟨c3,rs,_,ok,e3⟩:=hpr cs ps 60 hB (!1) (!2) l3 hP
 let⟨x12,x0,x1',e12⟩:=mY (i:=12) hB (!2) (!1)
 let⟨x17,_,_,e17⟩:=mY (i:=17) hB (!2) (!1)
 obtain⟨n,en⟩:∃n:Nat,x12%7=n:=⟨(x12%7).toNat,by omega⟩
 let⟨ls,ll,hL,e4⟩:=hlt cs ps 20 n (!1) (!1) hv
 let⟨c5,gs,_,G,A1,e5⟩:=hgr cs 30 ls.length (!1) (!2) (!1)
 have hlate:=DT hv hL
 have e6:=hod ls gs hlate (!1) G
 have pm:=(l9 hlate gs)
 have pos:∀x∈ordI (ltz ls) gs,0<=x/\x<(ls.length:Int):=λx hx=>by
  let⟨m,hm,rfl⟩:=Vz.mp (pm.mem_iff.mp hx)
  have:=VG.mp (G.pm.mem_iff.mp hm)
  exact⟨Int.natCast_nonneg _,by omega⟩
 obtain⟨r,hr⟩:∃r:Vb,cL r=ordI (ltz ls) gs:=⟨_,Hb λx hx=>(pos x hx).1⟩
 have rl:r.length=ls.length:=by
  have h:=pm.length_eq
  rw[<-hr]at h
  unfold cL at h
  rw[length_map,length_map,G.len]at h
  exact h
 have rm:∀k∈r,k<ls.length:=λk hk=>by
  have:=(pos (k:Int) (by rw[<-hr];exact Vz.mpr ⟨k,hk,rfl⟩)).2
  omega
 rw[<-hr]at e6
 have h64:prod ps<64:=by
  have:=pN ps hP
  have:3^ps.length<=3^3:=Nat.pow_le_pow_right (!2) l3
  omega
 have L:Lok ps ls:=⟨hv,h64,by omega,hL⟩
 obtain⟨U,hU⟩:∃U:Nat->List Pq,∀k l,ls[k]?=!l->Opn ps ls k l (U k)/\op [az ps,aC ls,iN k]=dp (.lst ((U k).map Ab)):=by
  have ex:∀k,∃V:List Pq,∀l,ls[k]?=!l->Opn ps ls k l V/\op [az ps,aC ls,iN k]=dp (.lst _):=λk=>by
   cases hk:ls[k]? with
   |none=>exact⟨[],λ_ z=>nomatch z⟩
   |some l=>
    let⟨V,h⟩:=hop ps ls k l L hk
    exact⟨V,λl' z=>by cases z;exact h⟩
  exact⟨λk=>(ex k).choose,λk=>(ex k).choose_spec⟩
 let⟨c7,e7⟩:=htb ps ls r rs U L ok hU rm (!1)
 have t:TbOk ps ls gs r rs U:=⟨L,ok,λk l hk=>(hU k l hk).1,⟨by rw[hr];exact vm gs G.kd A1,by unfold cL;rw[length_map];omega⟩,rm⟩
 have hfin:=yS t
 have htl:=sK (Fk rs ls U) r
 have eS:=λc S=>hts ps ls gs r rs U c S t
 generalize tbl (Fk rs ls U) r=T at e7 hfin htl eS
 let⟨c8,S,sl,e8⟩:=hsp T cs hB (!1) (!1) λA hA=>(hfin A hA).2
 have e9:=hwi ls.length _ gs hlate (length_map _) G
 rw[<-OO]at e9
 have e10:mi [az ps]=![(("passes":Str),az ps)]:=by
  have i1:(ps.map λp=>(false,p)).map (·.2)=ps:=by rw[List.map_map];exact List.map_id ps
  have q:=hmi false (ps.map λp=>(false,p)) (by rw[i1];exact hv)
  rw[i1]at q
  refine Eq.trans (congrArg (λd=>mi [d]) ?_) q
  rw[List.map_map];rfl
 have lnl:eB [aC ls]=!(iN ls.length):=by rw[bf];show some (D.int ((ls.map yN).length:Nat))=_;rw[length_map]
 have main:DQ mi ts wi sp od tb gr lt pr pa ce [sn (aM ns),none,none,none,none,none,none,none,none,none,none,none,none,none,none,none,none,none]=!(.rt (.deep,.bl true)):=by
  refine fK rfl (pQ rfl (g9 (c9 _ _) (pP (lF _))) e1) λY1 (h1:vw Y1=vZ (!(aM ns)) (!_) none none none none none none none none none none none none)=>?_
  refine fK h1 (pQ (by rw[h1];rfl) (g9 (c9 _ _) (pP (lF _))) e2) λY2 (h2:vw Y2=vZ (!_) (!_) (!_) none none none none none none none none none none none)=>?_
  refine fK h2 (pQ (by rw[h2];rfl) (g9 (c9 _ _) (g9 (lF _) (pP (c9 _ _)))) e3) λY3 (h3:vw Y3=vZ (!_) (!_) (!_) (!_) none none none none none none none none none none)=>?_
  refine fK h3 (pQ (by rw[h3];simp only[sB,e12,lY _ 7 (!2),en];rfl) (g9 (c9 _ _) (g9 (lF _) (g9 (xp (xp (c9 _ _) (lF _)) (lF _)) (pP (c9 _ _))))) e4) λY4 (h4:vw Y4=vZ (!_) (!_) (!_) (!_) (!_) none none none none none none none none none)=>?_
  refine fK h4 (pQ (by rw[h4];simp only[sB,lnl];rfl) (g9 (c9 _ _) (g9 (lF _) (pP (OH (c9 _ _))))) e5) λY5 (h5:vw Y5=vZ (!_) (!_) (!_) (!_) (!_) (!_) none none none none none none none none)=>?_
  refine fK h5 (pQ (by rw[h5];simp only[sB,e6]) (g9 (c9 _ _) (g9 (c9 _ _) (g9 (Il (g9 (c9 _ _) (pP (c9 _ _)))) (pP (c9 _ _))))) e7) λY6 (h6:vw Y6=vZ (!_) (!_) (!_) (!_) (!_) (!_) _ none none none none none none none)=>?_
  refine fK h6 ⟨(.deep,Y6),evX_lf rfl rfl,rfl⟩ λY7 (h7:vw Y7=vZ (!_) (!_) (!_) (!_) (!_) (!_) _ (!_) none none none none none none)=>?_
  -- the cost
  have cost:∀{F G:U1}{out:Option Out},(∀Y,vw Y=vw Y7->∀A,T.getLast?=!A->A≠[]->∃Y',F Y=!(.nx Y')/\vw Y'=(vw Y7).set 7 (!(.int (mnZ (A.map (·.2))))))->(∀Y',vw Y'=(vw Y7).set 7 (!(.int ((tc T).getD 0)))->G Y'=out)->ab (dj (tZ (ai (aa nw _ (cI 0))) (ai (aa nw (cK (aa ak (va 6) _)) (cI 0)))) F aE) G Y7=out:=λ{F G out} hF hG=>by
   have q1:ai (aa nw (cK (va 6)) (cI 0)) (vw Y7)=!(decide ((0:Int)<(T.length:Int))):=by rw[h7];simp only[sB,sX,lX]
   unfold tc at hG
   cases hT:T.getLast? with
   |none=>
    have hT0:=List.getLast?_eq_none_iff.mp hT
    rw[hT]at hG
    refine q_if0 (by rw[andQ_a,q1,hT0];rfl) (hG _ (by rw[h7];rfl))
   |some A=>
    have hne:T.length≠0:=λz=>by rw[List.length_eq_zero_iff.mp z]at hT;cases hT
    have ex:ak (c6 T) (.int (-1))=!(rwD A):=jv hT
    have q2:ai (aa nw (cK (aa ak (va 6) (ng (cI 1)))) (cI 0)) (vw Y7)=!(decide ((0:Int)<(A.length:Int))):=by
     rw[h7];simp only[sB,yq,show uf (.int 1)=some _ from rfl,ex,sZ,lX]
    rw[hT]at hG
    cases A with
    |nil=>
     refine q_if0 (by rw[andQ_a,q1,decide_eq_true (!1),q2];rfl) (hG _ (by rw[h7];rfl))
    |cons a A=>
     let⟨Y',f1,f2⟩:=hF Y7 rfl _ hT (by intro z;cases z)
     refine q_if (b:=true) (by rw[andQ_a,q1,decide_eq_true (!1),q2,decide_eq_true (by show(0:Int)<((A.length+1:Nat):Int);omega)];rfl) f1 (hG _ f2)
  refine cost (λY hY A hA hne=>?_) λY8 h8'=>?_
  .rw[h7]at hY
   have ex:ak (c6 T) (.int (-1))=!(rwD A):=jv hA
   have hc:ae [16,17] (jX af (aa ak (va 6) (ng (cI 1)))) (kc 2 (ao (gNm 16) (ao (gNm 17) bd))) tQ (va 17) (vw Y)=!(A.map λe=>.int e.2):=by
    rw[hY]
    refine aq (mk:=kz) ?_ (λe _=>rfl) (Nat.lt_trans (hfin A (List.mem_of_getLast? hA)).2 (!2))
    show((ak (c6 T) (.int (-1))).bind seqD)=_
    rw[ex];rfl
   refine⟨_,q_set (evX_lf ?_ rfl) rfl,by rw[vw_set,hY,h7]⟩
   rw[biF_a,fP,consX_a,lsF_a,hc]
   show(a8 (A.map λe=>.int e.2)).bind _=_
   rw[nO]
   cases A with
   |nil=>exact absurd rfl hne
   |cons _ _=>rfl
  have h8:vw Y8=vZ (!(aM ns)) (!(aM cs)) (!(az ps)) (!(dY rs)) (!(aC ls)) (!(gI gs)) (!(c6 T)) (!(.int ((tc T).getD 0))) none none none none none none:=by rw[h8',h7];rfl
  refine fK h8 (pQ (by rw[h8];rfl) (g9 (c9 _ _) (pP (c9 _ _))) e8) λY9 (h9:vw Y9=vZ (!_) (!_) (!_) (!_) (!_) (!_) _ (!(.int _)) _ none none none none none)=>?_
  have er:MP (aa (!19) (cK (va 6)) (cI 0)) (aa nw (cK (aa ak (va 6) (ng (cI 1)))) (cI 0)) (vw Y9)=!(.bl (tc T).isSome):=by
   rw[h9]
   simp only[NT,sB,sX,xj,asB_bl]
   unfold tc
   cases hT:T.getLast? with
   |none=>
    have hT0:=List.getLast?_eq_none_iff.mp hT
    subst hT0
    rfl
   |some A=>
    have hne:T.length≠0:=λz=>by rw[List.length_eq_zero_iff.mp z]at hT;cases hT
    have ex:ak (c6 T) (.int (-1))=!(rwD A):=jv hT
    rw[decide_eq_false (!1),if_neg Bool.false_ne_true]
    simp only[yq,show uf (.int 1)=some _ from rfl,cI_a,ex,sZ,lX,Option.bind_some]
    cases A with
    |nil=>rfl
    |cons a A=>rw[decide_eq_true (by show(0:Int)<((A.length+1:Nat):Int);omega)];rfl
  refine fK h9 ⟨(.deep,Y9),evX_lf ?_ rfl,rfl⟩ λY10 (h10:vw Y10=vZ (!_) (!_) (!_) (!_) (!_) (!_) _ (!(.int _)) _ (!(.bl (decide (S=T)&&(tc T).isSome))) none none none none)=>?_
  .rw[wN,er,h9]
   show((aB false (c6 S) (c6 T)).bind _)=_
   rw[Ie]
   cases decide (S=T)<;>rfl
  have w1:Kd "Wish" wi (x2 (va 4) (va 5)) (vw Y10)=!(aZ (ltz ls) gs):=by
   rw[h10]
   simp only[sB,CD,e9];rfl
  refine fK h10 (OK w1 ((g9 (c9 _ _) (pP (c9 _ _))).of λ_=>CD) λe he=>?_) λY11 (h11:vw Y11=vZ (!_) (!_) (!_) (!_) (!_) (!_) _ (!(.int _)) _ (!(.bl _)) (!(aZ _ gs)) none none none)=>?_
  .rw[h10]at he;cases he
  have lfz:fw (ls.map yN)=true:=ck λd hd=>by
   let⟨l,_,rfl⟩:=Vz.mp hd
   rfl
  have lb:∀n,n<=30->n<big:=λn h=>Vw h (!2)
  have k1:liF (!16) (vw Y11)=!(aC ls):=by rw[h11,pd];rfl
  have k2:ae [14] (jX af (va 3)) (gNm 14) tQ (liF (x1 (va 14))) (vw Y11)=!(rs.map aM):=by rw[h11];exact Lj rfl (show 14<18 by decide) (lb _ (by rw[ok.len];omega))
  have k3:ae [15] (jX af (va 8)) (gNm 15) tQ (liF (x1 (va 15))) (vw Y11)=!(S.map rwD):=by rw[h11];exact Lj rfl (show 15<18 by decide) (lb _ (!1))
  have g1:frX (liF (!16)) (l1F (!16)) (fNo (!16)) (vw Y11)=!_:=km k1 (by rw[h11,yt];rfl) lfz
  have g2:=cp_f (J:=jX af (va 3)) (Y:=vw Y11) (by rw[h11];rfl) (by rw[h11];show 14<18;decide) (lb _ (by rw[ok.len];omega)) λl _=>nL l
  have g3:=cp_f (J:=jX af (va 8)) (Y:=vw Y11) (by rw[h11];rfl) (by rw[h11];show 15<18;decide) (lb _ (!1)) λl _=>sH l
  refine fK h11 ⟨(.deep,Y11),lx (d:=.lst [aC ls,dY rs,c6 S]) (ds:=[aC ls,dY rs,c6 S]) ?_ rfl ?_ rfl ?_,rfl⟩ λY12 (h12:vw Y12=vZ (!_) (!_) (!_) (!_) (!_) (!_) _ (!(.int _)) _ (!(.bl _)) (!(aZ _ gs)) (!(.lst [aC ls,dY rs,c6 S])) none none)=>?_
  .rw[lsF_a,dpF_a,uW,consX_a,k1,pA,consX_a,lsF_a,k2,fP,consX_a,lsF_a,k3]
   exact congrArg _ (xi _ _ _)
  .rw[dpF_a,uW,consX_a,k1,pA,consX_a,lsF_a,k2,fP,consX_a,lsF_a,k3]
   exact xi _ _ _
  .unfold CA
   rw[uW,consX_a,g1,pA,consX_a,g2,fP,consX_a,g3]
   exact congrArg (·.bind λds=>!(D.lst ds)) (xi _ _ _)
  refine Ll (xs:=[0,1,-1,x17%TT-10^(29:Int).toNat]) (mk:=D.int) (λY=>∃o12 o13,vw Y=vZ (!_) (!_) (!_) (!_) (!_) (!_) _ (!(.int _)) _ (!(.bl _)) (!(aZ _ gs)) (!_) o12 o13) ?_ ?_ (λY' h=>⟨none,none,h.trans h12⟩) (λx Y hx=>?_) λY'=>?_
  .have e29:lP (.int 10) (.int 29)=!(.int (10^(29:Int).toNat)):=by unfold lP;exact if_pos ⟨by decide,by decide,by decide⟩
   rw[h12]
   simp only[bA,sB,yq,show uf (.int 1)=some _ from rfl,e17,P8,e29,bp Dw,wY]
   rfl
  .exact Sk (OI (OJ (g9 (lF _) (g9 (lF _) (g9 (.inr rfl) (pP (xp (xp (xp (c9 _ _) (lF _)) (xp (lF _) (lF _))) (xp (lF _) (lF _)))))))))
  .rintro⟨o12,o13,h⟩
   have h:vw (Y.set 12 (sn (.int x)))=vZ (!(aM ns)) (!(aM cs)) (!(az ps)) (!(dY rs)) (!(aC ls)) (!(gI gs)) (!(c6 T)) (!(.int ((tc T).getD 0))) (!(c6 S)) (!(.bl (decide (S=T)&&(tc T).isSome))) (!(aZ (ltz ls) gs)) (!(.lst [aC ls,dY rs,c6 S])) (!(.int x)) o13:=by rw[vw_set,h];rfl
   show∃Y',ab _ _ (Y.set 12 (sn (.int x)))=_/\_
   generalize Y.set 12 (sn (.int x))=Y at h
   have ef:=eS ((tc T).getD 0+x) S
   have eq:decide (tc T=!((tc T).getD 0+x)/\S=T)=(decide (S=T)&&(tc T).isSome&&decide (x=0)):=by
    rw[Bool.eq_iff_iff]
    cases tc T with
    |none=>simp
    |some m=>
     simp only[decide_eq_true_eq,and_eq_true,Option.isSome_some,Option.getD_some,Option.some.injEq,and_true]
     constructor
     .rintro⟨a,b⟩;exact⟨b,by omega⟩
     .rintro⟨a,b⟩;exact⟨by omega,a⟩
   rw[eq]at ef
   have m1:Kd "Mill" mi (x1 (va 2)) (vw Y)=!(aA ps):=by
    rw[h]
    simp only[sB,CD,e10];rfl
   refine⟨_,q_set (evX_lf ?_ rfl) (q_if0 ?_ rfl),!_,!(.bl (decide (S=T)&&(tc T).isSome&&decide (x=0))),by rw[vw_set,h];rfl⟩
   .rw[clF_a]
    refine(congrArg (λo=>Option.bind o λds=>cx (ts ds)) (show x6 (Kd "Mill" mi (x1 (va 2))) (aa ak (va 11) (cI 0)) (va 10) (aa ak (va 11) (cI 1)) (aa av (va 7) (va 12)) (aa ak (va 11) (cI 2)) (vw Y)=some [aA ps,aC ls,aZ _ gs,dY rs,.int _,c6 S]from ?_)).trans (congrArg cx ef)
    show(Kd "Mill" mi (x1 (va 2)) (vw Y)).bind _=_
    rw[m1,h];rfl
   .rw[vw_set,h,qK]
    show((ai (aa (aB true) (va 13) (jA (va 9) (aa (!19) (va 12) (cI 0))))) (vZ (!(aM ns)) (!(aM cs)) (!(az ps)) (!(dY rs)) (!(aC ls)) (!(gI gs)) (!(c6 T)) (!(.int ((tc T).getD 0))) (!(c6 S)) (!(.bl (decide (S=T)&&(tc T).isSome))) (!(aZ (ltz ls) gs)) (!(.lst [aC ls,dY rs,c6 S])) (!(.int x)) (!(.bl (decide (S=T)&&(tc T).isSome&&decide (x=0))))))=_
    have ea:jA (va 9) (aa (!19) (va 12) (cI 0)) (vZ (!(aM ns)) (!(aM cs)) (!(az ps)) (!(dY rs)) (!(aC ls)) (!(gI gs)) (!(c6 T)) (!(.int ((tc T).getD 0))) (!(c6 S)) (!(.bl (decide (S=T)&&(tc T).isSome))) (!(aZ (ltz ls) gs)) (!(.lst [aC ls,dY rs,c6 S])) (!(.int x)) (!(.bl (decide (S=T)&&(tc T).isSome&&decide (x=0)))))=!(.bl (decide (S=T)&&(tc T).isSome&&decide (x=0))):=by
     simp only[wN,sB,xj]
     cases(decide (S=T)&&(tc T).isSome)<;>rfl
    rw[testB_a,bin2_a,ea]
    show((aB true (.bl (decide (S=T)&&(tc T).isSome&&decide (x=0))) (.bl (decide (S=T)&&(tc T).isSome&&decide (x=0)))).bind D.asB)=_
    rw[NX,if_pos rfl,decide_eq_true rfl];rfl
  .rintro⟨o12,o13,h⟩
   refine q_ret (evX_lf ?_ rfl)
   rw[bin2_a,h,lsF_a,dpF_a]
   refine Eq.trans ?_ (DS ls rs S)
   show((Option.map D.lst (bM (![aC ls,dY rs,c6 S]))).bind _)=_
   rw[xi];rfl
 rw[show aK 1 18 (DQ mi ts wi sp od tb gr lt pr pa ce) [aM ns]=some _ from aj rfl main]
 rfl
end K16
namespace K16
open PySem PySem.Spec PyProof.Rows L2
noncomputable def  Tc(N P:Vc)(sc:Scope):Bool:=decide (sc.kind=.function)&&(not sc.isCoroutine&&(not sc.isGenerator&&(decide N.Nodup&&(decide (N.take P.length=P)&&((P.all λx=>decide (sc.names.lookup x=some .local)||decide (sc.names.lookup x=some .cell))&&sc.names.all λy=>not (decide (y.2=.free)))))))
def Hd(h:Tc N P g=true:=by kernel_rfl):FnScope N P g:=by
 simp only[Tc,and_eq_true,decide_eq_true_eq,Bool.not_eq_true',List.all_eq_true,Bool.or_eq_true,decide_eq_false_iff_not]at h;exact⟨h.1,h.2.1,h.2.2.1,h.2.2.2.1,h.2.2.2.2.1,h.2.2.2.2.2.1,h.2.2.2.2.2.2⟩
def  G0:Gb where
 fn:=λ_=>none
 cn:=λx=>if x=("KINDS":Str)then !(.tup [(.str "queue"),(.str "pile")])else if x=("MOST_PASSES":Str)then !(.int 6)else if x=("MOST_POCKETS":Str)then !(.int 6)else if x=("MOST_WIDTH":Str)then !(.int 9)else if x=("MOST_CODES":Str)then !(.int 1000)else if x=("MOST_SIZE":Str)then !(.int 9)else if x=("MOST_LETTERS":Str)then !(.int 24)else if x=("GROUP_KINDS":Str)then !(.tup [(.str "any"),(.str "come"),(.str "row")])else none
 no:=λx=>if x=("all":Str)then true else if x=("bool":Str)then true else if x=("enumerate":Str)then true else if x=("int":Str)then true else if x=("isinstance":Str)then true else if x=("len":Str)then true else if x=("list":Str)then true else if x=("min":Str)then true else if x=("range":Str)then true else if x=("reversed":Str)then true else if x=("sorted":Str)then true else if x=("sum":Str)then true else if x=("tuple":Str)then true else if x=("zip":Str)then true else false
 fl:=λC m=>if C=("Mill":Str)/\m=("passes":Str)then true else if C=("Wish":Str)/\m=("groups":Str)then true else if C=("Wish":Str)/\m=("level_letters":Str)then true else if C=("Wish":Str)/\m=("level_numbers":Str)then true else false
 mt:=λ_ _=>none
 ini:=λ_=>none
abbrev fD(k i n:Nat)(N:Vc)(G:Gb):UY:=D8 60 k N (N.take n) (top i) G
def  ma(x:Str)(st:Stmt)(ps:Vc)(us:U9):Prop:=∀(qual:Str)(kV doc pm:Value)(an:Option Addr)(cdv ct:Value),bindArgs (PySem.W.fnOf x qual (bJ st) (aO st) (ah st) .none kV doc pm an cdv ct) ⟨us,[]⟩=pure (ps.zip us)
def LP{st}(e:ps.length=1)(h:∀g,ma x st ps [g]):bj x st ps:=λq k d p a c t j l=>match j,l.trans e with|[g],_=>h g q k d p a c t
def Sm{st}(e:ps.length=2)(h:∀j g,ma x st ps [j,g]):bj x st ps:=λq k d p a c t l o=>match l,o.trans e with|[j,g],_=>h j g q k d p a c t
def Td{st}(e:ps.length=3)(h:∀l j g,ma x st ps [l,j,g]):bj x st ps:=λq k d p a c t o r=>match o,r.trans e with|[l,j,g],_=>h l j g q k d p a c t
def UK{st}(e:ps.length=4)(h:∀o l j g,ma x st ps [o,l,j,g]):bj x st ps:=λq k d p a c t r C=>match r,C.trans e with|[o,l,j,g],_=>h o l j g q k d p a c t
def UL{x:Str}{st:Stmt}{ps:Vc}(e:ps.length=5)(h:∀u0 u1 u2 u3 u4,ma x st ps [u0,u1,u2,u3,u4]):bj x st ps:=λq k d p a c t us hl=>match us,hl.trans e with|[u0,u1,u2,u3,u4],_=>h u0 u1 u2 u3 u4 q k d p a c t
def UM{x:Str}{st:Stmt}{ps:Vc}(e:ps.length=6)(h:∀u0 u1 u2 u3 u4 u5,ma x st ps [u0,u1,u2,u3,u4,u5]):bj x st ps:=λq k d p a c t us hl=>match us,hl.trans e with|[u0,u1,u2,u3,u4,u5],_=>h u0 u1 u2 u3 u4 u5 q k d p a c t
def  aD:UY:=fD 0 17 3 ["value","least","most"] G0
def  G1:Gb:=addF G0 "is_within" 1 aD
def  dZ:UY:=fD 1 19 1 ["pocket"] G1
def  G2:Gb:=addF G1 "is_pocket" 2 dZ
def  jw:UY:=fD 2 20 1 ["pockets","pocket"] G2
def  G3:Gb:=addF G2 "is_pass" 3 jw
def  bB:UY:=fD 3 22 1 ["passes","product","pockets"] G3
def  G4:Gb:=addF G3 "codes_of" 4 bB
def  bC:UY:=fD 4 21 1 ["passes","pockets"] G4
def  G5:Gb:=addF G4 "are_passes" 5 bC
abbrev da:Vc:=["self","passes","pockets"]
abbrev fW:Vc:=["self","passes"]
def ko:FnScope da fW (ah aI):=Hd
def lG:bj "__init__" aI fW:=Sm rfl λ_ _ _ _ _ _ _ _ _=>rfl
def lH(y:Addr):D6 60 (se da aI 5 G5) y (G0.fl "Mill") (aO aI)=ph bC y:=by kernel_rfl
def  s0:Vg->Option (List (Str×D)):=gM bC
def  G6:Gb:=addI G5 "Mill" 6 s0
def  jx:UY:=fD 6 18 1 ["size"] G6
def  G7:Gb:=addF G6 "is_size" 7 jx
abbrev j7:Vc:=["self"]
abbrev gj:Vc:=["self"]
def pR:FnScope j7 gj (ah bG):=Hd
def qh:bj "many" bG gj:=LP rfl λ_ _ _ _ _ _ _ _=>rfl
def  d7:UY:=D8 60 7 j7 gj bG G7
def qi:d7=aK 1 1 (mR G0.fl):=by kernel_rfl
def  G8:Gb:=addM G7 "many" "Mill" 8 d7
def  fA:UY:=fD 8 24 2 ["mill","late"] G8
def  G9:Gb:=addF G8 "is_late" 9 fA
def  fX:UY:=fD 9 30 2 ["mill","letter"] G9
def  Te:Gb:=addF G9 "is_letter" 10 fX
def  a7:UY:=fD 10 31 2 ["mill","letters","letter"] Te
def  Tf:Gb:=addF Te "look_at_letters" 11 a7
def  fL:UY:=fD 11 38 1 ["value"] Tf
def  Tg:Gb:=addF Tf "is_price" 12 fL
def  bK:UY:=fD 12 39 2 ["pockets","numbers","number"] Tg
def  G13:Gb:=addF Tg "are_pass_prices" 13 bK
def  bY:UY:=fD 13 40 2 ["mill","prices","pockets","numbers"] G13
def  Qa:Gb:=addF G13 "look_at_prices" 14 bY
abbrev fM:Vc:=["self","level"]
abbrev cz:Vc:=["self"]
def jI:FnScope fM cz (ah aV):=Hd
def kq:bj "one_order" aV cz:=LP rfl λ_ _ _ _ _ _ _ _=>rfl
def  dF:UY:=D8 60 14 fM cz aV Qa
def  G15:Gb:=addM Qa "one_order" "Wish" 15 dF
def  cq:UY:=fD 15 41 1 ["wish"] G15
def  Qb:Gb:=addF G15 "look_at_order" 16 cq
abbrev iz:Vc:=["self","level"]
abbrev eG:Vc:=["self"]
def mf:FnScope iz eG (ah bg):=Hd
def nj:bj "levels" bg eG:=LP rfl λ_ _ _ _ _ _ _ _=>rfl
def  gk:UY:=D8 60 16 iz eG bg Qb
def  G17:Gb:=addM Qb "levels" "Wish" 17 gk
def  hV:UY:=fD 17 43 1 ["wish","level"] G17
def  Th:Gb:=addF G17 "order_of" 18 hV
def  jy:UY:=fD 18 32 2 ["letters","letter"] Th
def  Ti:Gb:=addF Th "rank_of" 19 jy
def  mh:UY:=fD 19 26 3 ["kind","ahead","code"] Ti
def  Tj:Gb:=addF Ti "laid" 20 mh
def  db:UY:=fD 20 34 4 ["pockets","size","ahead","sides","found","number","pocket","turn","code","side"] Tj
def  Tk:Gb:=addF Tj "sides_behind" 21 db
def  bZ:UY:=fD 21 35 3 ["mill","size","late","ahead","sides","pockets"] Tk
def  Tl:Gb:=addF Tk "open_sides" 22 bZ
def  dJ:UY:=fD 22 36 3 ["mill","letters","letter","rank","code","side"] Tl
def  Tn:Gb:=addF Tl "open_places" 23 dJ
def  fY:UY:=fD 23 42 3 ["prices","late","word","pocket","numbers"] Tn
def  Qc:Gb:=addF Tn "word_cost" 24 fY
abbrev jb:Vc:=["self"]
abbrev fN:Vc:=["self"]
def nk:FnScope jb fN (ah bq):=Hd
def pS:bj "codes" bq fN:=LP rfl λ_ _ _ _ _ _ _ _=>rfl
def  hW:UY:=D8 60 24 jb fN bq Qc
def pT:hW=aK 1 1 (gX G0.fl bB):=by kernel_rfl
def  So:Gb:=addM Qc "codes" "Mill" 25 hW
def  dc:UY:=fD 25 25 2 ["mill","late"] So
def  G26:Gb:=addF So "look_at_late" 26 dc
def  fZ:UY:=fD 26 27 3 ["mill","late","code","numbers","ahead","left","pockets","number"] G26
def  To:Gb:=addF G26 "code_word" 27 fZ
def  eV:UY:=fD 27 44 4 ["mill","letters","letter","place"] To
def  Tp:Gb:=addF To "place_word" 28 eV
def  bh:UY:=fD 28 45 5 ["mill","letters","letter","prices","place"] Tp
def  Tq:Gb:=addF Tp "place_cost" 29 bh
def  bD:UY:=fD 29 46 4 ["mill","letters","letter","prices","places","place"] Tq
def  Tr:Gb:=addF Tq "places_and_costs" 30 bD
def  eW:UY:=fD 30 47 2 ["ahead","costs","row","passed","least","place","cost"] Tr
def  Ts:Gb:=addF Tr "row_behind" 31 eW
def  dL:UY:=fD 31 48 4 ["mill","letters","wish","prices","table","letter","costs"] Ts
def  Tt:Gb:=addF Ts "least_table" 32 dL
def  eY:UY:=fD 32 49 1 ["table","place","least"] Tt
def  Tu:Gb:=addF Tt "table_cost" 33 eY
def  dM:UY:=fD 33 50 6 ["mill","letters","wish","prices","cost","table","shown","least"] Tu
def  Tv:Gb:=addF Tu "table_shows" 34 dM
def  ia:UY:=fD 34 53 2 ["group","many","letter"] Tv
def  Tw:Gb:=addF Tv "is_group" 35 ia
def  bi:UY:=fD 35 54 1 ["groups","found","kind","members"] Tw
def  Tz:Gb:=addF Tw "grouped_letters" 36 bi
def  bE:UY:=fD 36 55 2 ["groups","many","group"] Tz
def  Sq:Gb:=addF Tz "are_groups" 37 bE
abbrev mj:Vc:=["letters","members"]
abbrev gK:Vc:=["letters","members"]
def lI:FnScope mj gK (ah bu):=Hd
def mn:bj "as_they_come" bu gK:=Sm rfl λ_ _ _ _ _ _ _ _ _=>rfl
def  de:UY:=aK 2 2 i8
def  Sr:Gb:=addF Sq "as_they_come" 38 de
def  df:UY:=fD 38 57 3 ["letters","kind","members","ordered","letter"] Sr
def  TB:Gb:=addF Sr "group_levels" 39 df
def  bU:UY:=fD 39 58 2 ["letters","groups","found","kind","members"] TB
def  TC:Gb:=addF TB "levels_of" 40 bU
def  bF:UY:=fD 40 59 1 ["levels","found","number","level","letter"] TC
def  OP:Gb:=addF TC "numbers_of" 41 bF
abbrev dg:Vc:=["self","letters","groups","kind","members"]
abbrev f6:Vc:=["self","letters","groups"]
def kr:FnScope dg f6 (ah aJ):=Hd
def lJ:bj "__init__" aJ f6:=Td rfl λ_ _ _ _ _ _ _ _ _ _=>rfl
def lK(y:Addr):D6 60 (se dg aJ 41 OP) y (G0.fl "Wish") (aO aJ)=l8 bF bU bE y:=by kernel_rfl
def  td:Vg->Option (List (Str×D)):=gW (l8 bF bU bE)
def  Ss:Gb:=addI OP "Wish" 42 td
def  a6:UY:=fD 42 62 2 ["script","k"] Ss
def  TD:Gb:=addF Ss "_law_cell_at" 43 a6
def  bV:UY:=fD 43 63 2 ["cell","at","k"] TD
def  TF:Gb:=addF TD "_law_part" 44 bV
def  eZ:UY:=fD 44 64 2 ["script","many","stir","cell","cells","k","at"] TF
def  TH:Gb:=addF TF "_law_cells" 45 eZ
def  bW:UY:=fD 45 65 1 ["cell","pockets","k","kind","width"] TH
def  TJ:Gb:=addF TH "_law_pockets" 46 bW
def  dN:UY:=fD 46 66 2 ["cells","at","k"] TJ
def  TK:Gb:=addF TJ "_law_passes" 47 dN
def  dh:UY:=fD 47 67 4 ["cells","at","count","passes","letters","k","cell","late"] TK
def  TL:Gb:=addF TK "_law_letters" 48 dh
def  dO:UY:=fD 48 68 3 ["cells","at","passes","prices","k","row","j","price"] TL
def  TM:Gb:=addF TL "_law_prices" 49 dO
def  dP:UY:=fD 49 69 3 ["cells","at","count","order","k","groups","kind","part"] TM
def  TN:Gb:=addF TM "_law_groups" 50 dP
def  fg:UY:=fD 50 70 2 ["groups","letters","order","kind","part","pair","letter"] TN
def  TQ:Gb:=addF TN "_law_order" 51 fg
def  fj:UY:=fD 51 71 1 ["passes","words","part","longer","word","pocket"] TQ
def  TR:Gb:=addF TQ "_law_words" 52 fj
def  b7:UY:=fD 52 72 4 ["passes","letters","letter","word","late","many","part","code","side","k"] TR
def  TU:Gb:=addF TR "_law_place" 53 b7
def  cH:UY:=fD 53 73 3 ["passes","letters","letter","found","word","size","late","k"] TU
def  TV:Gb:=addF TU "_law_open" 54 cH
def  f7:UY:=fD 54 74 3 ["prices","late","word","k"] TV
def  TW:Gb:=addF TV "_law_cost" 55 f7
def  fu:UY:=fD 55 75 4 ["passes","letters","order","prices","table","letter","row","place","word","cost","lesser","other","number"] TW
def  TX:Gb:=addF TW "_law_table" 56 fu
def  bL:UY:=fD 56 76 4 ["row","way","at","far","place","number"] TX
def  TY:Gb:=addF TX "_law_spoilt_row" 57 bL
def  dQ:UY:=fD 57 77 2 ["table","cells","way","far","told","at","row"] TY
def  TZ:Gb:=addF TY "_law_spoilt" 58 dQ
abbrev yW:Vc:=["script","cells","passes","prices","letters","groups","due","cost","table","right","wish","handed","by","found","part","row","place","number"]
abbrev tj:Vc:=["script"]
def DU:FnScope yW tj (ah kL):=Hd
def He:bj "law" kL tj:=LP rfl λ_ _ _ _ _ _ _ _=>rfl
def  OQ:UY:=D8 60 58 yW tj kL TZ
structure Tx(K:Frag):Prop where
 v0:aT K "is_within" jJ
 v1:aT K "is_pocket" jK
 v2:aT K "is_pass" mq
 v3:aT K "codes_of" kA
 v4:aT K "are_passes" iC
 v5:aT K "is_size" mv
 v6:aT K "is_late" mw
 v7:aT K "is_letter" jL
 v8:aT K "look_at_letters" eH
 v9:aT K "is_price" kI
 v10:aT K "are_pass_prices" eI
 v11:aT K "look_at_prices" fB
 v12:aT K "look_at_order" fQ
 v13:aT K "order_of" kJ
 v14:aT K "rank_of" mx
 v15:aT K "laid" tD
 v16:aT K "sides_behind" gp
 v17:aT K "open_sides" iD
 v18:aT K "open_places" ib
 v19:aT K "word_cost" jM
 v20:aT K "look_at_late" gq
 v21:aT K "code_word" jN
 v22:aT K "place_word" iE
 v23:aT K "place_cost" iF
 v24:aT K "places_and_costs" dR
 v25:aT K "row_behind" iG
 v26:aT K "least_table" ic
 v27:aT K "table_cost" iH
 v28:aT K "table_shows" ie
 v29:aT K "is_group" kK
 v30:aT K "grouped_letters" eJ
 v31:aT K "are_groups" iI
 v32:yC K "as_they_come" bu 353
 v33:aT K "group_levels" gt
 v34:aT K "levels_of" jO
 v35:aT K "numbers_of" iJ
 v36:aT K "_law_cell_at" gu
 v37:aT K "_law_part" jP
 v38:aT K "_law_cells" iK
 v39:aT K "_law_pockets" gv
 v40:aT K "_law_passes" ii
 v41:aT K "_law_letters" gw
 v42:aT K "_law_prices" ij
 v43:aT K "_law_groups" im
 v44:aT K "_law_order" iL
 v45:aT K "_law_words" iM
 v46:aT K "_law_place" iO
 v47:aT K "_law_open" jQ
 v48:aT K "_law_cost" jS
 v49:aT K "_law_table" iP
 v50:aT K "_law_spoilt_row" eP
 v51:aT K "_law_spoilt" io
 v52:aT K "law" kL
 bl:yD K 353
 v53:jD K "Mill" "__init__" "Mill.__init__" aI
 v54:jD K "Mill" "many" "Mill.many" bG
 v55:jD K "Wish" "one_order" "Wish.one_order" aV
 v56:jD K "Wish" "levels" "Wish.levels" bg
 v57:jD K "Mill" "codes" "Mill.codes" bq
 v58:jD K "Wish" "__init__" "Wish.__init__" aJ
 v59:TCls K "Mill"
 v60:TCls K "Wish"
 v61:∃Ca,nsIn K mainGlobals "Mill"=!(!(.ref Ca))/\findIn K (.ref Ca) "passes"=!none
 v62:∃Ca,nsIn K mainGlobals "Wish"=!(!(.ref Ca))/\findIn K (.ref Ca) "groups"=!none
 v63:∃Ca,nsIn K mainGlobals "Wish"=!(!(.ref Ca))/\findIn K (.ref Ca) "level_letters"=!none
 v64:∃Ca,nsIn K mainGlobals "Wish"=!(!(.ref Ca))/\findIn K (.ref Ca) "level_numbers"=!none
 v65:∃(a:Addr)(od:Option Addr)(n:Nat)(sl:Array (Va))(t0:Tok)(t1:Tok),nsIn K mainGlobals "KINDS"=!(!(.ref a))/\K.lookup a=!⟨.type "tuple",od,.seq #[.str "queue" t0,.str "pile" t1] n,sl⟩
 v66:∃t,nsIn K mainGlobals "MOST_PASSES"=!(!(.int 6 t))
 v67:∃t,nsIn K mainGlobals "MOST_POCKETS"=!(!(.int 6 t))
 v68:∃t,nsIn K mainGlobals "MOST_WIDTH"=!(!(.int 9 t))
 v69:∃t,nsIn K mainGlobals "MOST_CODES"=!(!(.int 1000 t))
 v70:∃t,nsIn K mainGlobals "MOST_SIZE"=!(!(.int 9 t))
 v71:∃t,nsIn K mainGlobals "MOST_LETTERS"=!(!(.int 24 t))
 v72:∃(a:Addr)(od:Option Addr)(n:Nat)(sl:Array (Va))(t0:Tok)(t1:Tok)(t2:Tok),nsIn K mainGlobals "GROUP_KINDS"=!(!(.ref a))/\K.lookup a=!⟨.type "tuple",od,.seq #[.str "any" t0,.str "come" t1,.str "row" t2] n,sl⟩
 v73:nsIn K mainGlobals "all"=!none
 v74:nsIn K mainGlobals "bool"=!none
 v75:nsIn K mainGlobals "enumerate"=!none
 v76:nsIn K mainGlobals "int"=!none
 v77:nsIn K mainGlobals "isinstance"=!none
 v78:nsIn K mainGlobals "len"=!none
 v79:nsIn K mainGlobals "list"=!none
 v80:nsIn K mainGlobals "min"=!none
 v81:nsIn K mainGlobals "range"=!none
 v82:nsIn K mainGlobals "reversed"=!none
 v83:nsIn K mainGlobals "sorted"=!none
 v84:nsIn K mainGlobals "sum"=!none
 v85:nsIn K mainGlobals "tuple"=!none
 v86:nsIn K mainGlobals "zip"=!none
def gL:fS aD:=tr (CO)
def Ln:CP jx:=tr (Kk gL)
def DV:si dZ:=tr (CQ gL)
def Lo:CS jw:=tr (Km DV)
def tm:ki bB:=tr (F0)
def Lp:L2.sAre bC:=tr (L2.h_are Lo tm)
def Lq:CU s0:=Kn Lp
def vn:G0.fl "Mill" "passes"=true:=by kernel_rfl
def OR{k:Nat}{G:Gb}(e:G.mt "many" "Mill"=!(8,d7))(h:8<=k):CV (G.mt "many") k:=λps=>by
 show((G.mt "many" "Mill").bind λz=>if z.1<=k/\("many":Str) ∉ [("passes":Str)]then z.2 [aA ps]else none)=_;rw[e];simp only[Option.bind_some];rw[if_pos ⟨h,by decide⟩,qi];exact Ko vn ps
def Su:G8.mt "many" "Mill"=!(8,d7):=by kernel_rfl
def OS:G13.mt "many" "Mill"=!(8,d7):=by kernel_rfl
def DW:yB fA:=tr (Kp (OR (k:=8) Su (!2)) gL)
def Sv:Ta (G26.mt "codes") 26:=λps hv=>by
 have e:G26.mt "codes" "Mill"=!(25,hW):=by kernel_rfl
 show((G26.mt "codes" "Mill").bind λz=>if z.1<=26/\("codes":Str) ∉ [("passes":Str)]then z.2 [aA ps]else none)=_;rw[e];simp only[Option.bind_some];rw[if_pos (!2),pT];exact R1 vn tm hv
def Hf:wU dc:=tr (F5 DW)
def DX:pJ fX:=tr (Aj DW Ln)
def vo:sA a7:=tr (GA DX)
def Lr:xa jy:=tr (GB)
def DY:qO mh:=tr (Ks)
def Hg:R4 fZ:=tr (GG vn DY Sv gL Hf)
def DZ:sy db:=tr (Dq DY)
def Hh:w9 bZ:=tr (Gz vn DZ tm)
def Hi:xc dJ:=tr (GC Hh Lr vo)
def Hj:w4 ia:=tr (Go gL)
def Am:pF bi:=tr (Ad)
def Ls:sAre bE:=tr (h_are Am Hj)
def Lu:Dj de:=tr (KC)
def Sw:RX df:=tr (RY Lu)
def OT:KJ bU:=tr (Od Sw)
def OU:KG bF:=tr (Ob)
def Lv:Dn td:=KO OU OT Ls
def Lw:CY a6:=tr (Kq)
def Lx:CZ bV:=tr (Kr)
def Hk:xf fL:=tr (GH gL)
def OV:KR bK:=tr (Oi Hk)
def D2:sD bY:=tr (Dx vn OV (OR (k:=13) OS (!2)))
def OW:G0.fl "Wish" "level_letters"=true:=by kernel_rfl
def OX:G15.mt "one_order" "Wish"=!(15,dF):=by kernel_rfl
def OY:G17.mt "levels" "Wish"=!(17,gk):=by kernel_rfl
def OZ:Gy dF:=tr (Og OW)
def O0:Gw gk:=tr (Of OW)
def O6:K2 cq:=tr (Om (kk:=15) OX (!2) OZ)
def O7:K3 hV:=tr (On (kk:=17) OY (!2) O0)
def Sx:LN fY:=tr (R5)
def Sy:R7 eV:=tr (R8 Hg)
def Sz:R9 bh:=tr (Sa Sy Sx)
def O8:KY bD:=tr (Ol Sz Hi)
def O9:KU eW:=tr (Oj)
def SD:Sb dL:=tr (Sc O7 O9 O8 D2 O6 vo)
def SF:Se eY:=tr (Sf)
def SG:Sg dM:=tr (Sh SF SD)
def z_cells:xh eZ:=tr (GU Lw Lx)
def Pa:Lc bW:=tr (Oz)
def z_pas:Ld dN:=tr (OA Pa)
def Pb:Le dh:=tr (OB)
def z_prices:sN dO:=tr (DJ)
def Pc:Lg dP:=tr (OD)
def Ly:DL fg:=tr (Lh)
def Hl:K6 fj:=tr (Ou)
def Pd:La b7:=tr (Ow)
def Pf:Lb cH:=tr (Ox Hl Pd)
def Hn:LN f7:=tr (GJ)
def Pg:GP cH fu:=tr (P:=GP cH) (Os Hn)
def Ph:Li bL:=tr (OF)
def Pi:Lk dQ:=tr (OG Ph)
def Pj:∀ns:Vd,ns.length<=63->cx (OQ [.lst (ns.map D.int)])=!(.bl true):=λns hn=>by
 exact tr (P:=λf:Fn=>cx (f [.lst (ns.map D.int)])=!(.bl true)) (Hc Lq SG Lv Pi Ly Pg Pf Pc Pb z_prices z_pas z_cells ns hn)
def eh{K}{st}(f:Addr)(z:Str)(n c:Nat)(a:(nsIn K mainGlobals x,K.lookup f,PySem.W.codeIn K (.ref c) x,PySem.W.keepIn K (.ref f))=(!(!(.ref f)),!⟨.type "function",none,.func (PySem.W.fnOf x x (bJ st) (aO st) (ah st) .none .none .none (.str z n) none (.ref c) .none),#[]⟩,true,true):=by kernel_rfl):aT K x st:=by
 simp only[Prod.mk.injEq]at a;exact RS a.1 a.2.1 a.2.2.1 a.2.2.2
def mo(P:Params):yC (KK P) "as_they_come" bu 353:=⟨358,357,(.type "function"),none,none,#[],.none,.none,(.str "pocketmill.wishes" 630),.none,by kernel_rfl,by kernel_rfl,by kernel_rfl,by kernel_rfl,by kernel_rfl⟩
def SH(P:Params):yD (KK P) 353:=⟨4,⟨.type "module",some 0,.plain,#[]⟩,by kernel_rfl,by decide,by decide,by decide,by kernel_rfl,rfl,rfl,rfl⟩
def lL(P:Params):jD (KK P) "Mill" "__init__" "Mill.__init__" aI:=zY (Ca:=186) (f:=169) (oc:=(.type "function")) (od:=none) (an:=none) (osl:=#[]) (kV:=.none) (doc:=.none) (pm:=(.str "pocketmill.mills" 326)) (cdv:=(.ref 168)) (ct:=.none) (!3) (!3) (!3) (!3) (!3) (!3)
def qj(P:Params):jD (KK P) "Mill" "many" "Mill.many" bG:=zY (Ca:=186) (f:=183) (oc:=(.type "function")) (od:=none) (an:=none) (osl:=#[]) (kV:=.none) (doc:=.none) (pm:=(.str "pocketmill.mills" 326)) (cdv:=(.ref 182)) (ct:=.none) (!3) (!3) (!3) (!3) (!3) (!3)
def kt(P:Params):jD (KK P) "Wish" "one_order" "Wish.one_order" aV:=zY (Ca:=430) (f:=427) (oc:=(.type "function")) (od:=none) (an:=none) (osl:=#[]) (kV:=.none) (doc:=.none) (pm:=(.str "pocketmill.wishes" 630)) (cdv:=(.ref 426)) (ct:=.none) (!3) (!3) (!3) (!3) (!3) (!3)
def nn(P:Params):jD (KK P) "Wish" "levels" "Wish.levels" bg:=zY (Ca:=430) (f:=394) (oc:=(.type "function")) (od:=none) (an:=none) (osl:=#[]) (kV:=.none) (doc:=.none) (pm:=(.str "pocketmill.wishes" 630)) (cdv:=(.ref 393)) (ct:=.none) (!3) (!3) (!3) (!3) (!3) (!3)
def pU(P:Params):jD (KK P) "Mill" "codes" "Mill.codes" bq:=zY (Ca:=186) (f:=176) (oc:=(.type "function")) (od:=none) (an:=none) (osl:=#[]) (kV:=.none) (doc:=.none) (pm:=(.str "pocketmill.mills" 326)) (cdv:=(.ref 175)) (ct:=.none) (!3) (!3) (!3) (!3) (!3) (!3)
def lM(P:Params):jD (KK P) "Wish" "__init__" "Wish.__init__" aJ:=zY (Ca:=430) (f:=389) (oc:=(.type "function")) (od:=none) (an:=none) (osl:=#[]) (kV:=.none) (doc:=.none) (pm:=(.str "pocketmill.wishes" 630)) (cdv:=(.ref 388)) (ct:=.none) (!3) (!3) (!3) (!3) (!3) (!3)
def np(P:Params):∃(a:Addr)(od:Option Addr)(n:Nat)(sl:Array (Va))(t0:Tok)(t1:Tok)(t2:Tok),nsIn (KK P) mainGlobals "GROUP_KINDS"=!(!(.ref a))/\(KK P).lookup a=!⟨.type "tuple",od,.seq #[.str "any" t0,.str "come" t1,.str "row" t2] n,sl⟩:=⟨334,none,0,#[],632,633,634,by kernel_rfl,by kernel_rfl⟩
def tx(P:Params):Tx (KK P):=⟨eh 126 nR 326 125,eh 140 nR 326 139,eh 145 nR 326 144,eh 157 nR 326 156,eh 150 nR 326 149,eh 133 nR 326 132,eh 197 nR 326 196,eh 225 LC 465 224,eh 230 LC 465 229,eh 261 my 517 260,eh 266 my 517 265,eh 271 my 517 270,eh 278 my 517 277,eh 288 my 517 287,eh 237 LC 465 236,eh 211 nR 326 210,eh 242 LB 491 241,eh 249 LB 491 248,eh 254 LB 491 253,eh 283 my 517 282,eh 204 nR 326 203,eh 218 nR 326 217,eh 295 my 517 294,eh 302 my 517 301,eh 307 my 517 306,eh 314 my 517 313,eh 321 my 517 320,eh 326 my 517 325,eh 333 my 517 332,eh 339 vp 630 338,eh 346 vp 630 345,eh 351 vp 630 350,mo P,eh 363 vp 630 362,eh 370 vp 630 369,eh 377 vp 630 376,eh 441 jd 769 440,eh 448 jd 769 447,eh 453 jd 769 452,eh 460 jd 769 459,eh 465 jd 769 464,eh 472 jd 769 471,eh 479 jd 769 478,eh 486 jd 769 485,eh 491 jd 769 490,eh 498 jd 769 497,eh 505 jd 769 504,eh 510 jd 769 509,eh 515 jd 769 514,eh 520 jd 769 519,eh 527 jd 769 526,eh 532 jd 769 531,eh 537 jd 769 536,SH P,lL P,qj P,kt P,nn P,pU P,lM P,N3 (Ca:=186) (!3) (!3) (!3) (!3) (!3) (!3) (!3),N3 (Ca:=430) (!3) (!3) (!3) (!3) (!3) (!3) (!3),P6 (Ca:=186) (!3) (!3),P6 (Ca:=430) (!3) (!3),P6 (Ca:=430) (!3) (!3),P6 (Ca:=430) (!3) (!3),N4 (a:=119) (od:=none) (n:=0) (sl:=#[]) (t0:=328) (t1:=329) (!3) (!3),zZ (t:=331) (!3),zZ (t:=333) (!3),zZ (t:=335) (!3),zZ (t:=337) (!3),zZ (t:=339) (!3),zZ (t:=467) (!3),np P,(!3),(!3),(!3),(!3),(!3),(!3),(!3),(!3),(!3),(!3),(!3),(!3),(!3),(!3)⟩
section
variable{P:Program}{w:World}{K:Frag}{mg:Str->Va}{base h:Heap}
def gF{G:Gb}{N ps:Vc}{st:Stmt}{x:Str}(z:K.In h/\h.Ns mainGlobals mg/\Tx K)(g:GbOk P w K mg base G)(k:Nat)(t:aT K x st)(S:FnScope N ps (ah st):=by exact Hd)(b:bj x st ps:=by first|exact LP rfl λ_ _ _ _ _ _ _ _=>rfl|exact Sm rfl λ_ _ _ _ _ _ _ _ _=>rfl|exact Td rfl λ_ _ _ _ _ _ _ _ _ _=>rfl|exact UK rfl λ_ _ _ _ _ _ _ _ _ _ _=>rfl|exact UL rfl λ_ _ _ _ _ _ _ _ _ _ _ _=>rfl|exact UM rfl λ_ _ _ _ _ _ _ _ _ _ _ _ _=>rfl):GbOk P w K mg base (addF G x (k+1) (D8 60 k N ps st G)):=g.addF (NP g z.1 z.2.1 60 k S b t)
variable(z:K.In h/\h.Ns mainGlobals mg/\Tx K)
include z
def g0:GbOk P w K mg base G0 where
 fn:=λx k f e=>nomatch e
 cn:=λx d e=>by
  simp only[G0]at e;split at e
  .rename_i q;cases e;rw[q];exact cn_2str z.1 z.2.1 z.2.2.v65
  split at e
  .rename_i q;cases e;rw[q];exact cn_int z.1 z.2.1 z.2.2.v66
  split at e
  .rename_i q;cases e;rw[q];exact cn_int z.1 z.2.1 z.2.2.v67
  split at e
  .rename_i q;cases e;rw[q];exact cn_int z.1 z.2.1 z.2.2.v68
  split at e
  .rename_i q;cases e;rw[q];exact cn_int z.1 z.2.1 z.2.2.v69
  split at e
  .rename_i q;cases e;rw[q];exact cn_int z.1 z.2.1 z.2.2.v70
  split at e
  .rename_i q;cases e;rw[q];exact cn_int z.1 z.2.1 z.2.2.v71
  split at e
  .rename_i q;cases e;rw[q];exact cn_3str z.1 z.2.1 z.2.2.v72
  cases e
 no:=λx e=>by
  dsimp only[G0]at e;by_cases q:x=("all":Str)
  .rw[q];exact PySem.W.mg_none_of z.1 z.2.1 z.2.2.v73
  rw[if_neg q]at e;clear q;by_cases q:x=("bool":Str)
  .rw[q];exact PySem.W.mg_none_of z.1 z.2.1 z.2.2.v74
  rw[if_neg q]at e;clear q;by_cases q:x=("enumerate":Str)
  .rw[q];exact PySem.W.mg_none_of z.1 z.2.1 z.2.2.v75
  rw[if_neg q]at e;clear q;by_cases q:x=("int":Str)
  .rw[q];exact PySem.W.mg_none_of z.1 z.2.1 z.2.2.v76
  rw[if_neg q]at e;clear q;by_cases q:x=("isinstance":Str)
  .rw[q];exact PySem.W.mg_none_of z.1 z.2.1 z.2.2.v77
  rw[if_neg q]at e;clear q;by_cases q:x=("len":Str)
  .rw[q];exact PySem.W.mg_none_of z.1 z.2.1 z.2.2.v78
  rw[if_neg q]at e;clear q;by_cases q:x=("list":Str)
  .rw[q];exact PySem.W.mg_none_of z.1 z.2.1 z.2.2.v79
  rw[if_neg q]at e;clear q;by_cases q:x=("min":Str)
  .rw[q];exact PySem.W.mg_none_of z.1 z.2.1 z.2.2.v80
  rw[if_neg q]at e;clear q;by_cases q:x=("range":Str)
  .rw[q];exact PySem.W.mg_none_of z.1 z.2.1 z.2.2.v81
  rw[if_neg q]at e;clear q;by_cases q:x=("reversed":Str)
  .rw[q];exact PySem.W.mg_none_of z.1 z.2.1 z.2.2.v82
  rw[if_neg q]at e;clear q;by_cases q:x=("sorted":Str)
  .rw[q];exact PySem.W.mg_none_of z.1 z.2.1 z.2.2.v83
  rw[if_neg q]at e;clear q;by_cases q:x=("sum":Str)
  .rw[q];exact PySem.W.mg_none_of z.1 z.2.1 z.2.2.v84
  rw[if_neg q]at e;clear q;by_cases q:x=("tuple":Str)
  .rw[q];exact PySem.W.mg_none_of z.1 z.2.1 z.2.2.v85
  rw[if_neg q]at e;clear q;by_cases q:x=("zip":Str)
  .rw[q];exact PySem.W.mg_none_of z.1 z.2.1 z.2.2.v86
  rw[if_neg q]at e;clear q;cases e
 fl:=λC m Ca e hc=>by
  simp only[G0]at e;split at e
  .rename_i q;rw[q.1]at hc;exact⟨nI z.2.2.v59 hc,fl_one z.2.2.v61 q.2 Ca hc⟩
  split at e
  .rename_i q;rw[q.1]at hc;exact⟨nI z.2.2.v60 hc,fl_one z.2.2.v62 q.2 Ca hc⟩
  split at e
  .rename_i q;rw[q.1]at hc;exact⟨nI z.2.2.v60 hc,fl_one z.2.2.v63 q.2 Ca hc⟩
  split at e
  .rename_i q;rw[q.1]at hc;exact⟨nI z.2.2.v60 hc,fl_one z.2.2.v64 q.2 Ca hc⟩
  cases e
 mt:=λm C k f e=>nomatch e
 ini:=λC k g e=>nomatch e
def g5:GbOk P w K mg base G5:=gF z (gF z (gF z (gF z (gF z (g0 z) 0 z.2.2.v0) 1 z.2.2.v1) 2 z.2.2.v2) 3 z.2.2.v3) 4 z.2.2.v4
def g6:GbOk P w K mg base G6:=by
 have g:GbOk P w K mg base G5:=g5 z;exact g.addI (HS g z.1 z.2.1 60 5 (G0.fl "Mill") ko lG z.2.2.v59 z.2.2.v53 (λf e=>by
  simp only[G0]at e;split at e
  .rename_i q;exact fl_one z.2.2.v61 q.2
  cases e) (λds r hr y=>by
  rw[show(λy=>D6 60 (se da aI 5 G5) y (G0.fl "Mill") (aO aI))=ph bC from funext lH];exact wT ds r hr y))
def g7:GbOk P w K mg base G7:=gF z (g6 z) 6 z.2.2.v5
def g8:GbOk P w K mg base G8:=by
 have g:GbOk P w K mg base G7:=g7 z;exact g.addM (yn g 60 7 pR qh z.2.2.v59 z.2.2.v54)
def UN:GbOk P w K mg base Qa:=gF z (gF z (gF z (gF z (gF z (gF z (g8 z) 8 z.2.2.v6) 9 z.2.2.v7) 10 z.2.2.v8) 11 z.2.2.v9) 12 z.2.2.v10) 13 z.2.2.v11
def UO:GbOk P w K mg base G15:=by
 have g:GbOk P w K mg base Qa:=UN z;exact g.addM (yn g 60 14 jI kq z.2.2.v60 z.2.2.v55)
def UP:GbOk P w K mg base Qb:=gF z (UO z) 15 z.2.2.v12
def UQ:GbOk P w K mg base G17:=by
 have g:GbOk P w K mg base Qb:=UP z;exact g.addM (yn g 60 16 mf nj z.2.2.v60 z.2.2.v56)
def UR:GbOk P w K mg base Qc:=gF z (gF z (gF z (gF z (gF z (gF z (gF z (UQ z) 17 z.2.2.v13) 18 z.2.2.v14) 19 z.2.2.v15) 20 z.2.2.v16) 21 z.2.2.v17) 22 z.2.2.v18) 23 z.2.2.v19
def US:GbOk P w K mg base So:=by
 have g:GbOk P w K mg base Qc:=UR z;exact g.addM (yn g 60 24 nk pS z.2.2.v59 z.2.2.v57)
def UT:GbOk P w K mg base Sq:=gF z (gF z (gF z (gF z (gF z (gF z (gF z (gF z (gF z (gF z (gF z (gF z (US z) 25 z.2.2.v20) 26 z.2.2.v21) 27 z.2.2.v22) 28 z.2.2.v23) 29 z.2.2.v24) 30 z.2.2.v25) 31 z.2.2.v26) 32 z.2.2.v27) 33 z.2.2.v28) 34 z.2.2.v29) 35 z.2.2.v30) 36 z.2.2.v31
def UU:GbOk P w K mg base Sr:=by
 have g:GbOk P w K mg base Sq:=UT z;exact g.addF (Gd g z.1 z.2.1 37 187 lI mn z.2.2.v32 z.2.2.bl (!3) rfl (!2) (!3) (!3) (!3) (!3))
def UV:GbOk P w K mg base OP:=gF z (gF z (gF z (UU z) 38 z.2.2.v33) 39 z.2.2.v34) 40 z.2.2.v35
def UW:GbOk P w K mg base Ss:=by
 have g:GbOk P w K mg base OP:=UV z;exact g.addI (HS g z.1 z.2.1 60 41 (G0.fl "Wish") kr lJ z.2.2.v60 z.2.2.v58 (λf e=>by
  simp only[G0]at e;split at e
  .rename_i q;exact absurd q.1 (!2)
  split at e
  .rename_i q;exact fl_one z.2.2.v62 q.2
  split at e
  .rename_i q;exact fl_one z.2.2.v63 q.2
  split at e
  .rename_i q;exact fl_one z.2.2.v64 q.2
  cases e) (λds r hr y=>by
  rw[show(λy=>D6 60 (se dg aJ 41 OP) y (G0.fl "Wish") (aO aJ))=l8 bF bU bE from funext lK];exact KN hr y))
def UX:GbOk P w K mg base TZ:=gF z (gF z (gF z (gF z (gF z (gF z (gF z (gF z (gF z (gF z (gF z (gF z (gF z (gF z (gF z (gF z (UW z) 42 z.2.2.v36) 43 z.2.2.v37) 44 z.2.2.v38) 45 z.2.2.v39) 46 z.2.2.v40) 47 z.2.2.v41) 48 z.2.2.v42) 49 z.2.2.v43) 50 z.2.2.v44) 51 z.2.2.v45) 52 z.2.2.v46) 53 z.2.2.v47) 54 z.2.2.v48) 55 z.2.2.v49) 56 z.2.2.v50) 57 z.2.2.v51
end
def fin{P:Program}{w:World}{K:Frag}{mg:Str->Va}{h:Heap}{fa:Addr}(X:K.In h)(hN:h.Ns mainGlobals mg)(hfa:mg "law"=!(.ref fa))(T:Tx K):
  ∃fd:FuncData,(∀(s:Shared)(v:Value),BindsTo s fd ⟨[v],[]⟩ [("script",v)])/\∀base:Heap,K.In base->base.Ns mainGlobals mg->FnOk P w K mg base rB 59 fa fd ["script"] (PH K):=
 Kt 60 58 X hN hfa DU He T.v52 (λbase KB hB=>UX ⟨KB,hB,T⟩) Pj
end K16
open PySem PySem.W PyProof.Rows
set_option maxRecDepth 100000 in
set_option maxHeartbeats 0 in
theorem PySem.Challenge.cw_pocketmill_k53_tables_looked_through_holds : PySem.Challenge.rw_pocketmill_k53_tables_looked_through.Holds := by
  refine holds_law K16.t_said fun said=>?_
  refine holds_open (q:=K16.Q) (loose:=[]) (Xt:=K16.XT) (XP:=XL K16.Q []) (Yf:=Hook.obs (kHook K16.KT K16.adr K16.adr_ok)) (Ya:=Hook.val (kHook K16.KT K16.adr K16.adr_ok)) (YP:=Hook.says (kHook K16.KT K16.adr K16.adr_ok)) (N:=K16.NN) K16.t_left (Hook.of _) (Hook.keeps _) (fun s e=>xl_of s (Bool.and_eq_true_iff.mp e).1) XL.keeps (by rfl) (by rfl) (by rfl) (fun s e=>recFacts_of (Bool.and_eq_true_iff.mp e).2) (by rfl) (by first | assumption | decide +kernel) (by decide +kernel) ⟨rfl,rfl,rfl,rfl,rfl,by decide +kernel⟩ ?hw ?hc
  case hw=>w_witness2
  case hc =>
  refine L2.walkL (l:=PySem.Challenge.rw_pocketmill_k53_tables_looked_through) (k:=59) rfl rfl ⟨rfl,by decide,by decide⟩ (K:=K16.KK) (fun w h ρ=>(L2.cons_in (!3) (PySem.W.kIn_of ρ)).1) (fun w h ρ=>L2.tabs_of (c0:=357) rfl (!3) (L2.cons_in (!3) (PySem.W.kIn_of ρ)).1 (L2.cons_in (!3) (PySem.W.kIn_of ρ)).2 (!3)) ?F
  case F =>
  intro w mg fa h KX G hmg
  exact K16.fin KX G hmg (K16.tx w.params)
#print axioms PySem.Challenge.cw_pocketmill_k53_tables_looked_through_holds
