import PyProof.Rows.All
import Wide.All
import OpenK.AllK
import Wide.FinOn
import Lean
import PyProof.EqAt
import PyProof.EqKinds
import PyProof.TupleCall
import PySem.Challenge.RW_pocketmill_k50_least_tables
set_option compiler.extract_closed false
set_option genSizeOf false
set_option bootstrap.genMatcherCode false
set_option Elab.async false
set_option linter.all false
set_option maxRecDepth 100000
set_option maxHeartbeats 4000000
open Lean Parser.Tactic in
local macro_rules|`(tactic|let⟨$a,*⟩:=$e)=>do
 let p<-(<-`(⟨$a,*⟩)).raw.rewriteBottomUpM fun s=>do match s with
  |`(⟨$a,*⟩)=>let b<-a.getElems.mapM fun x=>`(rcasesPatLo|$(⟨x⟩):rcasesPat);`(rcasesPat|⟨$b,*⟩)
  |`(_)=>`(rcasesPat|_)
  |_=>if s.isIdent then `(rcasesPat|$(⟨s⟩):ident) else pure s
 `(tactic|obtain $(⟨p⟩):rcasesPat:=$e)
local macro_rules|`(!$x)=>`(some $x)
open Lean Parser.Command in
local macro_rules|`($m:declModifiers def%$t $i $s:optDeclSig $v:declVal)=>do
 unless t.getTrailingSize==1 do Macro.throwUnsupported
 return mkNode ``declaration #[m,mkNode ``«theorem» #[mkAtom "theorem",i,mkNode ``declSig #[s.raw[0],s.raw[1][0]],v]]
set_option hygiene false
local macro_rules|`(!1)=>`(by omega)
local macro_rules|`(!2)=>`(by kernel_rfl)
local macro_rules|`(!3)=>`(by decide)
local macro_rules|`(!4)=>`(model X.prog X.w)
local macro_rules|`(!5)=>`(ps.drop t)
local macro_rules|`(!6)=>`(x==("__debug__":Str))
local macro_rules|`(!7)=>`(model prog w)
local macro_rules|`(!8)=>`(r.map λ(k:Nat)=>D.int (k:Int))
local macro_rules|`(!9)=>`(.ListComp elt [⟨tg,iter,ifs,0⟩] scope pos)
local macro_rules|`(!10)=>`(fin_bl I q (by simp))
local macro_rules|`(!11)=>`(cP q g body scope j ((X.mg "__name__").getD .none) p l)
local macro_rules|`(!12)=>`(nz X scope C s H fp)
local macro_rules|`(!13)=>`(s.heap.objs.size+1)
local macro_rules|`(!14)=>`(x==("__classdict__":Str))
local macro_rules|`(!15)=>`(x1 (va 4))
local macro_rules|`(!16)=>`(by decide+kernel)
local macro_rules|`(!17)=>`(backTo pos (starEach es X.env))
local macro_rules|`(!18)=>`(.Call (.Name x p) (e::es) [] pos)
local macro_rules|`(!19)=>`(List.range n)
local macro_rules|`(!20)=>`(aa am (va 1) (va 2))
set_option hygiene true
noncomputable section
namespace HD
open PySem PySem.W PyProof.Rows
noncomputable abbrev S0(w:World)(os:OsState):Shared:=⟨boot_heap w.params,Array.mk [],boot_drawn,boot_toks,os⟩
def left_of{Ya:World->α}{F:World->OsState->Shared}(o:∀w:World,(fencedOpening treeTable p w N).map (λs=>(s.heap,s.gens,s.drawn,s.toks))=!(boot_heap w.params,Array.mk [],boot_drawn,boot_toks))(sz:∀w:World,(boot_heap w.params).isNs mainGlobals=true/\(boot_heap w.params).objs.size=m₀/\(boot_heap w.params).nsMap mainGlobals "__annotations__"=ann)(rn:∀w os,topRun treeTable p w m₀ ann M (S0 w os) (topStub p)=!(F w os))(le:M<=N)(lk:∀w os,((staticsOk (importedModules p.main.body) (boot_heap w.params) (F w os).heap&&namesBound p (F w os).heap&&gensDone (F w os)&&laidKept (boot_heap w.params) (F w os).heap),openSeen q loose (importedModules p.main.body) Xt true (F w os),Yf (F w os))=(true,openGood q loose,Ya w)):
  LeftO p q loose Xt Yf Ya N:=by
 intro w
 let⟨s,e,e'⟩:=Option.map_eq_some_iff.mp (o w)
 cases s with
 |mk h gs d k os=>
 simp only[Prod.mk.injEq]at e'
 let⟨a1,a2,a3,a4⟩:=e'
 subst a1 a2 a3 a4
 let⟨z1,z2,z3⟩:=sz w
 have l:=lk w os
 simp only[Prod.mk.injEq]at l
 let⟨l1,l2,l3⟩:=l
 have r:=topRun_mono (N-M) _ _ _ _ (rn w os)
 rw[show M+(N-M)=N from Nat.add_sub_cancel' le]at r
 have t:topFrom treeTable p w N (S0 w os)=!(F w os):=by
  unfold topFrom;rw[z2,z3];rw[r];simp only[z1];show(match(staticsOk (importedModules p.main.body) (boot_heap w.params) (F w os).heap&&namesBound p (F w os).heap&&gensDone (F w os)&&laidKept (boot_heap w.params) (F w os).heap)with|true=>_|false=>_)=_;rw[l1]
 unfold openEnds
 rw[e]
 show Option.map _ (topFrom treeTable p w N (S0 w os))=_
 rw[t]
 exact congrArg some (Prod.ext l2 l3)
abbrev LF:=@PySem.W.Fast.tw10110043849684766642
abbrev LG:=@PySem.W.Fast.tw14364793385576792824
abbrev zI:=@PySem.W.Fast.tw12563942051412417395
def LH:@segRunT=@LF:=PySem.W.Fast.te10110043849684766642
def LI:@treeTable=@LG:=PySem.W.Fast.te14364793385576792824
def DM:@execs=@zI:=PySem.W.Fast.te12563942051412417395
noncomputable def  put:List Obj->Nat->BT->BT
 |[],_,t=>t
 |o::l,i,t=>put l (i+1) (t.ins i o)
def  toT(s:Shared):SharedT:=⟨put s.heap.objs.toList 0 .nil,s.heap.objs.size,s.heap.life,s.gens,s.drawn,s.toks,s.os⟩
def  Su(d:Shared):Option (Shared×Thread)->Shared
 |some (s,_)=>s
 |none=>d
noncomputable def  Ln(d:Shared):Option (Flow×Shared×Code×Pos)->Shared
 |some (_,s,_)=>s
 |none=>d
noncomputable def  GW(d:SharedT):Option (Flow×SharedT×Code×Pos)->SharedT
 |some (_,s,_)=>s
 |none=>d
def TR(h:o.map (·.2)=!t):o=!(Su d o,t):=by
 cases o with
 |none=>cases h
 |some z=>cases h;rfl
def TU(h:o.map (λr=>(r.1,r.2.2))=!(f,c,q)):o=!(f,Ln d o,c,q):=by
 cases o with
 |none=>cases h
 |some z=>let⟨a,b,x,y⟩:=z;cases h;rfl
def TV(h:o.map (λr=>(r.1,r.2.2))=!(f,c,q)):o=!(f,GW d o,c,q):=by
 cases o with
 |none=>cases h
 |some z=>let⟨a,b,x,y⟩:=z;cases h;rfl
section
variable(p:Program)(m₀:Nat)(ann:Option Value)(env:Env)(q pa pb:Pos)(k1 k2 k3:Nat)
abbrev cd:Code:=.body (behindTheImports p) env
def  A(w:World)(os:OsState):Option (Shared×Thread):=topGo treeTable p w m₀ ann k1 (S0 w os) (topStub p)
def  SA(w:World)(os:OsState):Shared:=Su (S0 w os) (A p m₀ ann k1 w os)
def  B(w:World)(os:OsState):Option (Flow×Shared×Code×Pos):=segRun treeTable p w m₀ ann 1 k2 (SA p m₀ ann k1 w os) (blockOf (behindTheImports p) env (cd p env) pa [topFrame q])
def  SB(w:World)(os:OsState):Shared:=Ln (S0 w os) (B p m₀ ann env q pa k1 k2 w os)
def  C(w:World)(os:OsState):Option (Flow×SharedT×Code×Pos):=LF LG p w m₀ ann 1 k3 (toT (SB p m₀ ann env q pa k1 k2 w os)) ⟨(zI (behindTheImports p) env).wrap doneF deadEnd id id,cd p env,pb,[topFrame q]⟩
def LJ(w:World)(os:OsState):C p m₀ ann env q pa pb k1 k2 k3 w os=segRunT treeTable p w m₀ ann 1 k3 (toT (SB p m₀ ann env q pa k1 k2 w os)) (piecesOf (behindTheImports p) env (cd p env) pb [topFrame q]):=by
 unfold C piecesOf;rw[LH,LI,DM]
def  SC(w:World)(os:OsState):SharedT:=GW (toT (S0 w os)) (C p m₀ ann env q pa pb k1 k2 k3 w os)
end
def run_of(hA:∀w os,(A p m₀ ann k1 w os).map (·.2)=!⟨denote treeTable (cd p env),cd p env,pa,[topFrame q]⟩)(hB:∀w os,(B p m₀ ann env q pa k1 k2 w os).map (λr=>(r.1,r.2.2))=!(.next,cd p env,pb))(hT:∀w os,(toT (SB p m₀ ann env q pa k1 k2 w os)).abs=SB p m₀ ann env q pa k1 k2 w os)(hC:∀w os,(C p m₀ ann env q pa pb k1 k2 k3 w os).map (λr=>(r.1,r.2.2))=!(.next,cd p env,pc))(hF:∀w s,topRun treeTable p w m₀ ann k4 s ⟨doneF .next,cd p env,pc,[topFrame q]⟩=!s)(w:World)(os:OsState):
  topRun treeTable p w m₀ ann (k1+(k2+(k3+k4))) (S0 w os) (topStub p)=some (SC p m₀ ann env q pa pb k1 k2 k3 w os).abs:=by
 have a:=TR (d:=S0 w os) (hA w os)
 have b:=TU (d:=S0 w os) (hB w os)
 have c:=TV (d:=toT (S0 w os)) (hC w os)
 rw[LJ]at c
 have c:=segRun_of c
 rw[hT]at c
 rw[<-LJ]at c
 refine go_top a (piece_block b ?_)
 have k:=piece_app c (piece_nil (hF w _))
 rw[List.append_nil]at k
 exact k
end HD
open List (length_map set_cons_succ set_cons_zero size_toArray getElem?_map getElem?_eq_getElem mem_cons_self mem_cons_of_mem mem_append_right length_append mem_of_getElem? length_range getElem?_append_left mem_singleton length_cons mem_append getElem?_append_right mem_cons mem_append_left)
open Option (map_some)
open PySem.W (nsIn findIn Frag)
open Bool (and_eq_true)
open Nat (lt_of_lt_of_le le_refl lt_of_le_of_lt)
namespace L2
open PySem PySem.Spec PyProof.Rows
abbrev _root_.Va:=Option Int
abbrev _root_.U8:=List Expr
abbrev _root_.U6:=Array Value
abbrev _root_.U5:=Addr->Bool
abbrev _root_.U4:=List Int
abbrev _root_.U3:=List Str
abbrev _root_.U2:=List Nat
abbrev _root_.U1:=Option Value
abbrev _root_.U0:=List Value
abbrev _root_.UZ:=Value->Shared->Prop
abbrev _root_.UW:=List (Addr×Obj)
abbrev _root_.Vz:=@wpAny_mono
abbrev _root_.Vy:=@le_refl
abbrev _root_.Vx:=@mem_of_getElem?
abbrev _root_.Vw:=@List.mem_range
abbrev _root_.Vu:=@Nat.le_of_lt
abbrev _root_.Vt:=@Nat.lt_irrefl
abbrev _root_.Vs:=@mem_append_right
abbrev _root_.Vr:=@mem_append_left
abbrev _root_.Vq:=@wpAny_of_eq
abbrev _root_.Vp:=@List.mem_map
abbrev _root_.Vo:=@Nat.ne_of_lt
abbrev _root_.Vn:=@Nat.le_trans
abbrev _root_.Vm:=@lt_of_le_of_lt
abbrev _root_.Vl:=@lt_of_lt_of_le
abbrev _root_.Vk:=@of_decide_eq_true
abbrev _root_.Vj:=@mem_cons_of_mem
abbrev _root_.Vi:=@mem_cons_self
abbrev _root_.Vh:=@List.getElem?_eq_some_iff
abbrev _root_.Vg:=@Bool.false_ne_true
abbrev _root_.Vf:=@Heap.get?_push_size
abbrev _root_.Ve:=@Heap.lt_size
abbrev _root_.Vd:=@wpAny_pure
abbrev _root_.Vc:=@Heap.get?_push_of_some
abbrev _root_.Vb:=@wpAny_bind
noncomputable def  iX(s:Stmt)(j:Nat):Stmt:=match s with
 |.ClassDef _ _ _ body _ _ _ _ _ _ _=>body.getD j (.Pass ⟨0,0,0,0⟩)
 |_=>.Pass ⟨0,0,0,0⟩
noncomputable def  bG(s:Stmt):Arguments:=match s with
 |.FunctionDef _ a _ _ _ _ _ _ _ _=>a
 |_=>{posonlyargs:=[],args:=[],vararg:=none,kwonlyargs:=[],kw_defaults:=[],kwarg:=none,defaults:=[]}
noncomputable def  aL(s:Stmt):List Stmt:=match s with
 |.FunctionDef _ _ b _ _ _ _ _ _ _=>b
 |_=>[]
noncomputable def  ah(s:Stmt):Scope:=match s with
 |.FunctionDef _ _ _ _ _ _ sc _ _ _=>sc
 |_=>{kind:=.function,names:=[],isGenerator:=false,isCoroutine:=false}
end L2
namespace K16
open PySem PySem.Spec PyProof.Rows L2
noncomputable def  top(i:Nat):Stmt:=PySem.Challenge.pw_pocketmill_k50_least_tables.main.body.getD i (.Pass ⟨0,0,0,0⟩)
abbrev jv:Stmt:=top 17
abbrev jw:Stmt:=top 19
abbrev lO:Stmt:=top 20
abbrev ka:Stmt:=top 22
abbrev ia:Stmt:=top 21
abbrev aE:Stmt:=iX (top 23) 0
abbrev lP:Stmt:=top 18
abbrev bD:Stmt:=iX (top 23) 2
abbrev lQ:Stmt:=top 24
abbrev jx:Stmt:=top 30
abbrev dX:Stmt:=top 31
abbrev kb:Stmt:=top 38
abbrev dY:Stmt:=top 39
abbrev eP:Stmt:=top 40
abbrev aQ:Stmt:=iX (top 58) 6
abbrev fz:Stmt:=top 41
abbrev bc:Stmt:=iX (top 58) 1
abbrev kc:Stmt:=top 43
abbrev lR:Stmt:=top 32
abbrev sF:Stmt:=top 26
abbrev f7:Stmt:=top 34
abbrev ib:Stmt:=top 35
abbrev gT:Stmt:=top 36
abbrev jy:Stmt:=top 42
abbrev bn:Stmt:=iX (top 23) 1
abbrev f8:Stmt:=top 25
abbrev jz:Stmt:=top 27
abbrev ic:Stmt:=top 44
abbrev ie:Stmt:=top 45
abbrev dC:Stmt:=top 46
abbrev ii:Stmt:=top 47
abbrev gU:Stmt:=top 48
abbrev ke:Stmt:=top 51
abbrev dZ:Stmt:=top 52
abbrev ik:Stmt:=top 53
abbrev bo:Stmt:=top 54
abbrev f9:Stmt:=top 55
abbrev jA:Stmt:=top 56
abbrev im:Stmt:=top 57
abbrev aF:Stmt:=iX (top 58) 0
abbrev gd:Stmt:=top 60
abbrev jB:Stmt:=top 61
abbrev io:Stmt:=top 62
abbrev ge:Stmt:=top 63
abbrev gV:Stmt:=top 64
abbrev gh:Stmt:=top 65
abbrev gX:Stmt:=top 66
abbrev gY:Stmt:=top 67
abbrev iq:Stmt:=top 68
abbrev ir:Stmt:=top 69
abbrev iw:Stmt:=top 70
abbrev jC:Stmt:=top 71
abbrev jD:Stmt:=top 72
abbrev iz:Stmt:=top 73
abbrev iA:Stmt:=top 74
abbrev fA:Stmt:=top 75
abbrev fB:Stmt:=top 76
abbrev kf:Stmt:=top 77
def  Q:Program:={PySem.Challenge.pw_pocketmill_k50_least_tables with main:={PySem.Challenge.pw_pocketmill_k50_least_tables.main with body:=[top 0,top 2,top 3,top 4,top 5,top 6,top 7,top 8,top 9,top 11,top 12,top 13,top 14,top 15,top 16,top 17,top 18,top 19,top 20,top 21,top 22,top 23,top 24,top 25,top 26,top 27,top 29,top 30,top 31,top 32,top 34,top 35,top 36,top 38,top 39,top 40,top 41,top 42,top 43,top 44,top 45,top 46,top 47,top 48,top 50,top 51,top 52,top 53,top 54,top 55,top 56,top 57,top 58,top 60,top 61,top 62,top 63,top 64,top 65,top 66,top 67,top 68,top 69,top 70,top 71,top 72,top 73,top 74,top 75,top 76,top 77]}}
noncomputable abbrev kH(P:Params)(x:Str)(n:Nat)(v:Value):DictEntry:=⟨PyData.keyHash P x,(.str x n),v⟩
noncomputable abbrev kC(x:Str)(a:Nat)(y:Str)(b c:Nat)(i j k l m:Int)(r:Nat)(n:Int)(p:Nat)(v q s t:Value)(u w:Int)(d:Nat):Obj:=⟨(.type "code"),none,(.fields #[(.str x a),(.str y b),(.str "/claim/cut.py" c),(.int i 0),(.int j 0),(.int k 0),(.int l 0),(.int m 0),(.ref r),(.bool true),(.int n 0),(.ref p),v,q,s,t,(.int u 0),(.int w 0),(.str "/claim/cut.py" d)]),#[]⟩
abbrev kF(x y:Str)(st:Stmt)(z:Str)(n r:Nat):Obj:=⟨(.type "function"),none,(.func (PySem.W.fnOf x y (bG st) (aL st) (ah st) .none .none .none (.str z n) none (.ref r) .none)),#[]⟩
abbrev hZ:Str:="law_pocketmill_k50_least_tables"
abbrev Lo:Str:="pocketmill.least"
abbrev nk:Str:="pocketmill.mills"
abbrev pi:Str:="pocketmill.prices"
abbrev Lp:Str:="pocketmill.trays"
abbrev uP:Str:="pocketmill.wishes"
abbrev kD(x:Str)(a:Nat)(i j:Int)(r:Nat)(e:Int):Obj:=kC x a x (a+1) (a+2) i j 0 0 3 r 181 (r+1) .none (.ref (r+2)) (.ref (r+3)) (.ref (r+4)) e i (e+1).toNat
abbrev kE(x:Str)(a:Nat)(i j:Int)(r:Nat)(e:Int):Obj:=kC x a x (a+1) (a+2) i j 0 0 3 r 181 (r+1) .none .none .none (.ref (r+2)) e i (e+1).toNat
abbrev kG(x:Str)(st:Stmt)(z:Str)(n r:Nat):Obj:=kF x x st z n r
def  KK(P:Params):Frag:=[(2,⟨.none,none,(.dict #[] 0),#[]⟩),(3,⟨(.type "dict"),none,(.dict #[(kH P "__name__" 165 (.str "law_pocketmill_k50_least_tables" 749)),(kH P "__doc__" 166 .none),(kH P "__package__" 167 .none),(kH P "__loader__" 168 (.builtin "__main__.__loader__#opaque")),(kH P "__spec__" 169 .none),(kH P "__annotations__" 170 (.ref 6)),(kH P "__builtins__" 171 (.ref 4)),(kH P "__file__" 173 (.str "/claim/cut.py" 172)),(kH P "__cached__" 174 .none),(kH P "_wall" 193 (.ref 21)),(kH P "MillError" 213 (.ref 31)),(kH P "BadMill" 229 (.ref 44)),(kH P "BadLate" 245 (.ref 56)),(kH P "BadCode" 261 (.ref 68)),(kH P "BadLetters" 277 (.ref 80)),(kH P "BadWish" 293 (.ref 92)),(kH P "BadPrices" 309 (.ref 104)),(kH P "NotOneOrder" 325 (.ref 116)),(kH P "KINDS" 330 (.ref 119)),(kH P "MOST_PASSES" 332 (.int 6 331)),(kH P "MOST_POCKETS" 334 (.int 6 333)),(kH P "MOST_WIDTH" 336 (.int 9 335)),(kH P "MOST_CODES" 338 (.int 1000 337)),(kH P "MOST_SIZE" 340 (.int 9 339)),(kH P "is_within" 349 (.ref 126)),(kH P "is_size" 356 (.ref 133)),(kH P "is_pocket" 363 (.ref 140)),(kH P "is_pass" 369 (.ref 145)),(kH P "are_passes" 375 (.ref 150)),(kH P "codes_of" 384 (.ref 157)),(kH P "Mill" 425 (.ref 186)),(kH P "is_late" 433 (.ref 197)),(kH P "look_at_late" 441 (.ref 204)),(kH P "laid" 450 (.ref 211)),(kH P "code_word" 464 (.ref 218)),(kH P "MOST_LETTERS" 468 (.int 24 467)),(kH P "is_letter" 476 (.ref 225)),(kH P "look_at_letters" 482 (.ref 230)),(kH P "rank_of" 490 (.ref 237)),(kH P "sides_behind" 498 (.ref 242)),(kH P "open_sides" 510 (.ref 249)),(kH P "open_places" 516 (.ref 254)),(kH P "is_price" 525 (.ref 261)),(kH P "are_pass_prices" 531 (.ref 266)),(kH P "look_at_prices" 537 (.ref 271)),(kH P "look_at_order" 544 (.ref 278)),(kH P "word_cost" 550 (.ref 283)),(kH P "order_of" 556 (.ref 288)),(kH P "place_word" 566 (.ref 295)),(kH P "place_cost" 577 (.ref 302)),(kH P "places_and_costs" 583 (.ref 307)),(kH P "row_behind" 596 (.ref 314)),(kH P "least_table" 609 (.ref 321)),(kH P "GROUP_KINDS" 615 (.ref 322)),(kH P "is_group" 621 (.ref 327)),(kH P "grouped_letters" 631 (.ref 334)),(kH P "are_groups" 637 (.ref 339)),(kH P "as_they_come" 646 (.ref 346)),(kH P "group_levels" 652 (.ref 351)),(kH P "levels_of" 663 (.ref 358)),(kH P "numbers_of" 674 (.ref 365)),(kH P "Wish" 748 (.ref 418)),(kH P "_law_cell_at" 758 (.ref 429)),(kH P "_law_part" 767 (.ref 436)),(kH P "_law_cells" 773 (.ref 441)),(kH P "_law_pockets" 784 (.ref 448)),(kH P "_law_passes" 790 (.ref 453)),(kH P "_law_letters" 804 (.ref 460)),(kH P "_law_prices" 818 (.ref 467)),(kH P "_law_groups" 832 (.ref 474)),(kH P "_law_order" 838 (.ref 479)),(kH P "_law_words" 850 (.ref 486)),(kH P "_law_place" 866 (.ref 493)),(kH P "_law_open" 872 (.ref 498)),(kH P "_law_cost" 878 (.ref 503)),(kH P "_law_table" 884 (.ref 508)),(kH P "_law_whole" 891 (.ref 515)),(kH P "_law_is_entry" 897 (.ref 520)),(kH P "_law_is_table" 903 (.ref 525)),(kH P "law" 909 (.ref 530))] 80),#[]⟩),(4,⟨(.type "module"),(some 0),.plain,#[]⟩),(119,⟨(.type "tuple"),none,(.seq #[(.str "queue" 328),(.str "pile" 329)] 0),#[]⟩),(125,kD "is_within" 341 28 3 120 347),(126,kG "is_within" jv nk 326 125),(132,kD "is_size" 350 30 1 127 354),(133,kG "is_size" lP nk 326 132),(139,kD "is_pocket" 357 32 1 134 361),(140,kG "is_pocket" jw nk 326 139),(144,kE "is_pass" 364 36 1 141 367),(145,kG "is_pass" lO nk 326 144),(149,kE "are_passes" 370 40 1 146 373),(150,kG "are_passes" ia nk 326 149),(156,kD "codes_of" 376 44 1 151 382),(157,kG "codes_of" ka nk 326 156),(168,(kC "__init__" 397 "Mill.__init__" 398 399 51 2 0 0 3 165 181 166 .none .none .none (.ref 167) 400 51 401)),(169,kF "__init__" "Mill.__init__" aE nk 326 168),(175,(kC "codes" 403 "Mill.codes" 404 405 56 1 0 0 3 170 181 171 .none (.ref 172) (.ref 173) (.ref 174) 407 56 408)),(176,kF "codes" "Mill.codes" bn nk 326 175),(182,(kC "many" 410 "Mill.many" 411 412 59 1 0 0 3 177 181 178 .none (.ref 179) (.ref 180) (.ref 181) 414 59 415)),(183,kF "many" "Mill.many" bD nk 326 182),(184,⟨(.type "tuple"),none,(.seq #[(.str "passes" 417)] 0),#[]⟩),(185,⟨(.type "dict"),none,(.dict #[(kH P "__module__" 392 (.str "pocketmill.mills" 326)),(kH P "__firstlineno__" 396 (.int 49 395)),(kH P "__init__" 402 (.ref 169)),(kH P "codes" 409 (.ref 176)),(kH P "many" 416 (.ref 183)),(kH P "__static_attributes__" 418 (.ref 184)),(kH P "__dict__" 420 (.ref 187)),(kH P "__weakref__" 422 (.ref 188)),(kH P "__doc__" 423 .none)] 4),#[]⟩),(186,⟨(.type "type"),none,(.cls ⟨"Mill",[(.type "object")],[(.ref 186),(.type "object")],185,"Mill",true,[],[],false,none,false⟩),#[none,none,(!(.str "Mill" 385)),(!(.str "Mill" 393)),(!(.builtin "object.__new__")),(!(.bool true))]⟩),(187,⟨(.type "getset_descriptor"),none,(.fields #[(.str "__dict__" 419),(.ref 186),(.builtin "function.__dict__"),(.builtin "function.__dict__#set")]),#[]⟩),(188,⟨(.type "getset_descriptor"),none,(.fields #[(.str "__weakref__" 421),(.ref 186),(.builtin "ExceptionGroup.__weakref__"),.none]),#[]⟩),(196,kD "is_late" 426 61 2 191 431),(197,kG "is_late" lQ nk 326 196),(203,kD "look_at_late" 434 63 2 198 439),(204,kG "look_at_late" f8 nk 326 203),(210,kD "laid" 442 66 3 205 448),(211,kG "laid" sF nk 326 210),(217,kD "code_word" 451 68 3 212 462),(218,kG "code_word" jz nk 326 217),(224,kD "is_letter" 469 85 2 219 474),(225,kG "is_letter" jx Lp 465 224),(229,kE "look_at_letters" 477 89 2 226 480),(230,kG "look_at_letters" dX Lp 465 229),(236,kD "rank_of" 483 94 2 231 488),(237,kG "rank_of" lR Lp 465 236),(241,kE "sides_behind" 493 97 4 238 496),(242,kG "sides_behind" f7 Lo 491 241),(248,kD "open_sides" 499 104 3 243 508),(249,kG "open_sides" ib Lo 491 248),(253,kE "open_places" 511 111 3 250 514),(254,kG "open_places" gT Lo 491 253),(260,kD "is_price" 519 116 1 255 523),(261,kG "is_price" kb pi 517 260),(265,kE "are_pass_prices" 526 118 2 262 529),(266,kG "are_pass_prices" dY pi 517 265),(270,kE "look_at_prices" 532 122 2 267 535),(271,kG "look_at_prices" eP pi 517 270),(277,kD "look_at_order" 538 127 1 272 542),(278,kG "look_at_order" fz pi 517 277),(282,kE "word_cost" 545 130 3 279 548),(283,kG "word_cost" jy pi 517 282),(287,kE "order_of" 551 132 1 284 554),(288,kG "order_of" kc pi 517 287),(294,kD "place_word" 557 134 4 289 564),(295,kG "place_word" ic pi 517 294),(301,kD "place_cost" 567 136 5 296 575),(302,kG "place_cost" ie pi 517 301),(306,kE "places_and_costs" 578 138 4 303 581),(307,kG "places_and_costs" dC pi 517 306),(313,kD "row_behind" 584 141 2 308 594),(314,kG "row_behind" ii pi 517 313),(320,kD "least_table" 597 152 4 315 607),(321,kG "least_table" gU pi 517 320),(322,⟨(.type "tuple"),none,(.seq #[(.str "any" 612),(.str "come" 613),(.str "row" 614)] 0),#[]⟩),(326,kE "is_group" 616 163 2 323 619),(327,kG "is_group" ke uP 610 326),(333,kD "grouped_letters" 622 169 1 328 629),(334,kG "grouped_letters" dZ uP 610 333),(338,kE "are_groups" 632 174 2 335 635),(339,kG "are_groups" ik uP 610 338),(345,kD "as_they_come" 638 178 2 340 644),(346,kG "as_they_come" bo uP 610 345),(350,kE "group_levels" 647 180 3 347 650),(351,kG "group_levels" f9 uP 610 350),(357,kD "levels_of" 653 185 2 352 661),(358,kG "levels_of" jA uP 610 357),(364,kD "numbers_of" 664 190 1 359 672),(365,kG "numbers_of" im uP 610 364),(376,(kC "__init__" 687 "Wish.__init__" 688 689 198 3 0 0 3 373 181 374 .none .none .none (.ref 375) 690 198 691)),(377,kF "__init__" "Wish.__init__" aF uP 610 376),(381,(kC "levels" 693 "Wish.levels" 694 695 205 1 0 0 3 378 181 379 .none .none .none (.ref 380) 696 205 697)),(382,kF "levels" "Wish.levels" bc uP 610 381),(388,(kC "level_of" 699 "Wish.level_of" 700 701 208 2 0 0 3 383 181 384 .none (.ref 385) (.ref 386) (.ref 387) 704 208 705)),(395,(kC "behind" 707 "Wish.behind" 708 709 211 3 0 0 3 390 181 391 .none (.ref 392) (.ref 393) (.ref 394) 713 211 714)),(402,(kC "breach" 716 "Wish.breach" 717 718 214 2 0 0 3 397 181 398 .none (.ref 399) (.ref 400) (.ref 401) 721 214 722)),(409,(kC "kept_by" 724 "Wish.kept_by" 725 726 217 2 0 0 3 404 181 405 .none (.ref 406) (.ref 407) (.ref 408) 729 217 730)),(414,(kC "one_order" 732 "Wish.one_order" 733 734 220 1 0 0 3 411 181 412 .none .none .none (.ref 413) 735 220 736)),(415,kF "one_order" "Wish.one_order" aQ uP 610 414),(416,⟨(.type "tuple"),none,(.seq #[(.str "groups" 738),(.str "level_letters" 739),(.str "level_numbers" 740)] 0),#[]⟩),(417,⟨(.type "dict"),none,(.dict #[(kH P "__module__" 682 (.str "pocketmill.wishes" 610)),(kH P "__firstlineno__" 686 (.int 196 685)),(kH P "__init__" 692 (.ref 377)),(kH P "levels" 698 (.ref 382)),(kH P "level_of" 706 (.ref 389)),(kH P "behind" 715 (.ref 396)),(kH P "breach" 723 (.ref 403)),(kH P "kept_by" 731 (.ref 410)),(kH P "one_order" 737 (.ref 415)),(kH P "__static_attributes__" 741 (.ref 416)),(kH P "__dict__" 743 (.ref 419)),(kH P "__weakref__" 745 (.ref 420)),(kH P "__doc__" 746 .none)] 4),#[]⟩),(418,⟨(.type "type"),none,(.cls ⟨"Wish",[(.type "object")],[(.ref 418),(.type "object")],417,"Wish",true,[],[],false,none,false⟩),#[none,none,(!(.str "Wish" 675)),(!(.str "Wish" 683)),(!(.builtin "object.__new__")),(!(.bool true))]⟩),(419,⟨(.type "getset_descriptor"),none,(.fields #[(.str "__dict__" 742),(.ref 418),(.builtin "function.__dict__"),(.builtin "function.__dict__#set")]),#[]⟩),(420,⟨(.type "getset_descriptor"),none,(.fields #[(.str "__weakref__" 744),(.ref 418),(.builtin "ExceptionGroup.__weakref__"),.none]),#[]⟩),(428,kD "_law_cell_at" 751 223 2 423 756),(429,kG "_law_cell_at" gd hZ 749 428),(435,kD "_law_part" 759 227 2 430 765),(436,kG "_law_part" jB hZ 749 435),(440,kE "_law_cells" 768 231 2 437 771),(441,kG "_law_cells" io hZ 749 440),(447,kD "_law_pockets" 774 245 1 442 782),(448,kG "_law_pockets" ge hZ 749 447),(452,kE "_law_passes" 785 252 2 449 788),(453,kG "_law_passes" gV hZ 749 452),(459,kD "_law_letters" 791 254 4 454 802),(460,kG "_law_letters" gh hZ 749 459),(466,kD "_law_prices" 805 261 3 461 816),(467,kG "_law_prices" gX hZ 749 466),(473,kD "_law_groups" 819 272 3 468 830),(474,kG "_law_groups" gY hZ 749 473),(478,kE "_law_order" 833 286 2 475 836),(479,kG "_law_order" iq hZ 749 478),(485,kD "_law_words" 839 294 1 480 848),(486,kG "_law_words" ir hZ 749 485),(492,kD "_law_place" 851 303 4 487 864),(493,kG "_law_place" iw hZ 749 492),(497,kE "_law_open" 867 317 3 494 870),(498,kG "_law_open" jC hZ 749 497),(502,kE "_law_cost" 873 324 3 499 876),(503,kG "_law_cost" jD hZ 749 502),(507,kE "_law_table" 879 326 4 504 882),(508,kG "_law_table" iz hZ 749 507),(514,kD "_law_whole" 885 340 1 509 889),(515,kG "_law_whole" iA hZ 749 514),(519,kE "_law_is_entry" 892 342 2 516 895),(520,kG "_law_is_entry" fA hZ 749 519),(524,kE "_law_is_table" 898 350 2 521 901),(525,kG "_law_is_table" fB hZ 749 524),(529,kE "law" 904 359 1 526 907),(530,kG "law" kf hZ 749 529)]
def  KT(P:Params):Frag:=(341,⟨.none,none,.fields #[],#[]⟩)::KK P
noncomputable def  adr:List Addr:=[341,2,3,4,119,125,126,132,133,139,140,144,145,149,150,156,157,168,169,175,176,182,183,184,185,186,187,188,196,197,203,204,210,211,217,218,224,225,229,230,236,237,241,242,248,249,253,254,260,261,265,266,270,271,277,278,282,283,287,288,294,295,301,302,306,307,313,314,320,321,322,326,327,333,334,338,339,345,346,350,351,357,358,364,365,376,377,381,382,388,395,402,409,414,415,416,417,418,419,420,428,429,435,436,440,441,447,448,452,453,459,460,466,467,473,474,478,479,485,486,492,493,497,498,502,503,507,508,514,515,519,520,524,525,529,530]
def adr_ok(P:Params):adr=(KT P).map (·.1):=by kernel_rfl
abbrev NN:Nat:=8268
noncomputable def  env0:Env:={scope:=PySem.Challenge.pw_pocketmill_k50_least_tables.main.scope,locals:=mainNs,globals:=mainNs,cells:=[],code:=(.ref 13),frame:=some 14}
def HQ:∀w:World,(PySem.W.fencedOpening treeTable PySem.Challenge.pw_pocketmill_k50_least_tables w NN).map (λs=>(s.heap,s.gens,s.drawn,s.toks))=!(PySem.W.boot_heap w.params,Array.mk [],PySem.W.boot_drawn,PySem.W.boot_toks):=PySem.W.boot_open (!2) (!3) (λs=>by kernel_rfl)
def HR(w:World):(PySem.W.boot_heap w.params).isNs mainGlobals=true/\(PySem.W.boot_heap w.params).objs.size=11/\(PySem.W.boot_heap w.params).nsMap mainGlobals "__annotations__"=(!(.ref 6)):=⟨by kernel_rfl,by kernel_rfl,by kernel_rfl⟩
def TW(w:World)(os:OsState):(HD.A PySem.Challenge.pw_pocketmill_k50_least_tables 11 (!(.ref 6)) 12 w os).map (·.2)=!⟨denote treeTable (HD.cd PySem.Challenge.pw_pocketmill_k50_least_tables env0),HD.cd PySem.Challenge.pw_pocketmill_k50_least_tables env0,⟨0,0,0,0⟩,[PySem.W.topFrame ⟨0,0,0,0⟩]⟩:=by kernel_rfl
def TX(w:World)(os:OsState):(HD.B PySem.Challenge.pw_pocketmill_k50_least_tables 11 ((!(.ref 6))) env0 ⟨0,0,0,0⟩ ⟨0,0,0,0⟩ 12 1 w os).map (λr=>(r.1,r.2.2))=!(.next,HD.cd PySem.Challenge.pw_pocketmill_k50_least_tables env0,⟨0,0,0,0⟩):=by kernel_rfl
def TY(w:World)(os:OsState):(HD.toT (HD.SB PySem.Challenge.pw_pocketmill_k50_least_tables 11 ((!(.ref 6))) env0 ⟨0,0,0,0⟩ ⟨0,0,0,0⟩ 12 1 w os)).abs=HD.SB PySem.Challenge.pw_pocketmill_k50_least_tables 11 ((!(.ref 6))) env0 ⟨0,0,0,0⟩ ⟨0,0,0,0⟩ 12 1 w os:=by kernel_rfl
def TZ(w:World)(os:OsState):(HD.C PySem.Challenge.pw_pocketmill_k50_least_tables 11 ((!(.ref 6))) env0 ⟨0,0,0,0⟩ ⟨0,0,0,0⟩ ⟨0,0,0,0⟩ 12 1 4072 w os).map (λr=>(r.1,r.2.2))=!(.next,HD.cd PySem.Challenge.pw_pocketmill_k50_least_tables env0,⟨359,0,377,108⟩):=by kernel_rfl
def T0(w:World)(s:Shared):PySem.W.topRun treeTable PySem.Challenge.pw_pocketmill_k50_least_tables w 11 (!(.ref 6)) 2 s ⟨PySem.W.doneF .next,HD.cd PySem.Challenge.pw_pocketmill_k50_least_tables env0,⟨359,0,377,108⟩,[PySem.W.topFrame ⟨0,0,0,0⟩]⟩=!s:=by kernel_rfl
noncomputable abbrev FF(w:World)(os:OsState):Shared:=(HD.SC PySem.Challenge.pw_pocketmill_k50_least_tables 11 ((!(.ref 6))) env0 ⟨0,0,0,0⟩ ⟨0,0,0,0⟩ ⟨0,0,0,0⟩ 12 1 4072 w os).abs
abbrev XT(s:Shared):Bool:=PySem.W.xlAt Q [] s&&PySem.W.recOk PySem.Challenge.rw_pocketmill_k50_least_tables.row.records s
def P6(w:World)(os:OsState):(PySem.W.staticsOk (importedModules PySem.Challenge.pw_pocketmill_k50_least_tables.main.body) (PySem.W.boot_heap w.params) (FF w os).heap&&PySem.W.namesBound PySem.Challenge.pw_pocketmill_k50_least_tables (FF w os).heap&&PySem.W.gensDone (FF w os)&&PySem.W.laidKept (PySem.W.boot_heap w.params) (FF w os).heap)=true:=by
 rw[PySem.W.Fast.te5923862056798008813];kernel_rfl
def P7(w:World)(os:OsState):PySem.W.openSeen Q [] (importedModules PySem.Challenge.pw_pocketmill_k50_least_tables.main.body) XT true (FF w os)=PySem.W.openGood Q []:=by
 rw[PySem.W.Fast.te5923862056798008813,PySem.W.Fast.te4187177175401517315];kernel_rfl
def P8(w:World)(os:OsState):adr.map (FF w os).heap.get?=(KT w.params).map λp=>!p.2:=by kernel_rfl
def t_left:PySem.W.LeftO PySem.Challenge.pw_pocketmill_k50_least_tables Q [] XT (PySem.W.Hook.obs (PySem.W.kHook KT adr adr_ok)) (PySem.W.Hook.val (PySem.W.kHook KT adr adr_ok)) NN:=
 HD.left_of HQ HR (HD.run_of TW TX TY TZ T0) (!3) λw os=>by rw[P6 w os,P7 w os];exact congrArg (λz=>(true,PySem.W.openGood Q [],z)) (P8 w os)
def t_said:PySem.W.OpenLaw.wellSaid PySem.Challenge.rw_pocketmill_k50_least_tables=true:=by kernel_rfl
end K16
namespace L2
open PySem PySem.Spec PyProof.Rows
noncomputable def  lamTabs:List (Addr×(Pos×Str)):=[(341,(⟨179,31,179,74⟩,"as_they_come.<locals>.<lambda>"))]
abbrev jk:=Sum Int Str
noncomputable def  pP:jk->Value->Bool
 |.inl k,v=>Value.isInt k v
 |.inr x,v=>Value.isStrOf x v
def  P9(w:World):jk->Int
 |.inl k=>hashInt k
 |.inr x=>hashStr w x
def keyIs_shape:∀{k:jk}{v:Value},pP k v=true->(∃i t,k=Sum.inl i/\v=Value.int i t)\/(∃x t,k=Sum.inr x/\v=Value.str x t)
 |.inl i,v,h=>by
  let⟨t,e⟩:=Value.isInt_shape h;exact .inl ⟨i,t,rfl,e⟩
 |.inr x,v,h=>by
  let⟨t,e⟩:=Value.isStrOf_shape h;exact .inr ⟨x,t,rfl,e⟩
def yo(i:Int)(t:Tok):pP (.inl i) (.int i t)=true:=by simp[pP,Value.isInt]
def yq(x:Str)(t:Tok):pP (.inr x) (.str x t)=true:=by simp[pP,Value.isStrOf]
def HS(a b:Int):decide ((Sum.inl a:jk)=Sum.inl b)=(a==b):=by grind
def HU(a b:Str):decide ((Sum.inr a:jk)=Sum.inr b)=decide (a=b):=by simp
def HV(a:Int)(b:Str):decide ((Sum.inl a:jk)=Sum.inr b)=false:=decide_eq_false (λq=>nomatch q)
def HW(a:Str)(b:Int):decide ((Sum.inr a:jk)=Sum.inl b)=false:=decide_eq_false (λq=>nomatch q)
def  eg(prog:Program)(w:World):PySem.KeyKind prog w jk where
 is:=pP
 hash:=P9 w
 inj:=λv a b ha hb=>by
  rcases keyIs_shape ha with⟨i,t,rfl,rfl⟩|⟨x,t,rfl,rfl⟩
  .rcases keyIs_shape hb with⟨j,u,rfl,e⟩|⟨y,u,rfl,e⟩
   .injection e with e1 _;rw[e1]
   .exact nomatch e
  .rcases keyIs_shape hb with⟨j,u,rfl,e⟩|⟨y,u,rfl,e⟩
   .exact nomatch e
   .injection e with e1 _;rw[e1]
 byValue:=λk v h=>by
  rcases keyIs_shape h with⟨i,t,rfl,rfl⟩|⟨x,t,rfl,rfl⟩<;>rfl
 pyHash:=λhv h=>by
  rcases keyIs_shape hv with⟨i,t,rfl,rfl⟩|⟨x,t,rfl,rfl⟩
  .exact wpAny_pyHash_int h
  .exact wpAny_pyHash_str h
 eqBool:=λhu hv h=>by
  rcases keyIs_shape hu with⟨i,t,rfl,rfl⟩|⟨x,t,rfl,rfl⟩
  .rcases keyIs_shape hv with⟨j,u,rfl,rfl⟩|⟨y,u,rfl,rfl⟩
   .rw[HS]at h;exact wpAny_eqBool_int h
   .rw[HV]at h;exact SeqAt.EqAt.int_str i t y u _ _ _ _ h
  .rcases keyIs_shape hv with⟨j,u,rfl,rfl⟩|⟨y,u,rfl,rfl⟩
   .rw[HW]at h;exact SeqAt.EqAt.str_int x t j u _ _ _ _ h
   .rw[HU]at h;exact wpAny_eqBool_str h
 «strs»:=λk x t v h=>by
  rcases keyIs_shape h with⟨i,u,rfl,e⟩|⟨y,u,rfl,e⟩
  .exact nomatch e
  .injection e with e1 _;subst e1;cases v<;>rfl
def sG(prog:Program)(w:World)(i:Int)(t:Tok):(eg prog w).is (.inl i) (.int i t)=true:=yo i t
def sH(prog:Program)(w:World)(x:Str)(t:Tok):(eg prog w).is (.inr x) (.str x t)=true:=yq x t
inductive V where
 |non|bl (b:Bool)|int (i:Int)|str (x:Str)|byt (b:Array UInt8)|flt (b:UInt64)|ref (a:Addr)|ty (n:String)
 deriving DecidableEq
def  RelV:V->Value->Prop
 |.non,u=>u=Value.none
 |.bl b,u=>u=Value.bool b
 |.int i,u=>∃t,u=Value.int i t
 |.str x,u=>∃t,u=Value.str x t
 |.byt b,u=>∃t,u=Value.bytes b t
 |.flt b,u=>∃t,u=Value.float b t
 |.ref a,u=>u=Value.ref a
 |.ty n,u=>u=Value.type n
abbrev Vals:List V->U0->Prop:=Paired RelV
def Vals.length(r:Vals xs g):xs.length=g.length:=Paired.length r
def Vals.get:∀{xs:List V}{us:U0}{i:Nat}{x:V},Vals xs us->xs[i]?=!x->∃u,us[i]?=!u/\RelV x u
 |_,_,_,_,.nil,e=>by simp at e
 |_,_,0,_,.cons r _,e=>by simp at e;subst e;exact⟨_,rfl,r⟩
 |_,_,i+1,x,.cons _ t,e=>by
  let⟨u,h1,h2⟩:=Vals.get (i:=i) (x:=x) t (by simpa using e);exact⟨u,by simpa using h1,h2⟩
def Vals.set(r:RelV x u):∀{xs:List V}{us:U0}(i:Nat),Vals xs us->Vals (xs.set i x) (us.set i u)
 |_,_,_,.nil=>.nil
 |_,_,0,.cons _ t=>.cons r t
 |_,_,i+1,.cons q t=>.cons q (Vals.set r i t)
def Vals.append:∀{xs ys:List V}{us ws:U0},Vals xs us->Vals ys ws->Vals (xs++ys) (us++ws)
 |_,_,_,_,.nil,s=>s
 |_,_,_,_,.cons r t,s=>.cons r (Vals.append t s)
def Vals.take:∀{xs:List V}{us:U0}(n:Nat),Vals xs us->Vals (xs.take n) (us.take n)
 |_,_,0,_=>.nil
 |_,_,_+1,.nil=>.nil
 |_,_,n+1,.cons r t=>.cons r (Vals.take n t)
def Vals.drop:∀{xs:List V}{us:U0}(n:Nat),Vals xs us->Vals (xs.drop n) (us.drop n)
 |_,_,0,r=>r
 |_,_,_+1,.nil=>.nil
 |_,_,n+1,.cons _ t=>Vals.drop n t
def  RelO:Option V->U1->Prop
 |some v,!u=>RelV v u
 |none,none=>True
 |_,_=>False
def  KV{κ:Type}:List (κ×V)->List (κ×Value)->Prop:=Paired λ(p:κ×V)(q:κ×Value)=>p.1=q.1/\RelV p.2 q.2
def  kV:jk->V
 |.inl i=>.int i
 |.inr x=>.str x
inductive HO where
 |lst (xs:List V)
 |tup (xs:List V)
 |dK (kvs:List (jk×V))|dT (kvs:List (List jk×V))
 |set (S:Int->Bool) (n:Nat)
 |ins (C dx:Addr) (fs:List (Str×V))
 |own (x:Addr)
 |xd (fs:List (Str×V))
 |met (f x:Addr)
 |rng (lo hi:Int)
 |frz (o:Obj) (u:HO)
 |tbl (ps:U6)
 |cod (ps:U6) (pos:Pos) (q:Str)
 |ext (φ:Heap->Prop)
abbrev Hp:=Addr->Option HO
noncomputable def  upd(H:Hp)(a:Addr)(o:HO):Hp:=λb=>if b=a then !o else H b
def ai:upd H a o a=!o:=by unfold upd;rw[if_pos rfl]
def ae(h:b≠a):upd H a o b=H b:=by unfold upd;rw[if_neg h]
def DN:upd (upd H a o) a u=upd H a u:=by
 funext b;unfold upd;split<;>rfl
def ak{H:Hp}(h:H a=!o)(h':H b=none):a≠b:=by
 intro e;subst e;rw[h]at h';cases h'
section
variable(P:Program)(w:World)
def  ObjOk(H:Hp)(h:Heap)(a:Addr):HO->Prop
 |.lst xs=>xs.length<=sizeLine/\∃(its:U0)(n:Nat),Vals xs its/\h.get? a=some {cls:=.type "list",data:=.seq its.toArray n}
 |.tup xs=>xs.length<=sizeLine/\∃its:U0,Vals xs its/\IsTup h a its.toArray
 |.dK kvs=>kvs.length<=sizeLine/\(a==sysModules)=false/\∃vs,KV kvs vs/\h.DictOf (eg P w) a vs
 |.dT kvs=>kvs.length<=sizeLine/\(a==sysModules)=false/\∃xs:List (List jk×Addr×Value),
  Paired (λ(p:List jk×V)(q:List jk×Addr×Value)=>p.1=q.1/\H q.2.1=!(.tup (p.1.map kV))/\RelV p.2 q.2.2) kvs xs/\
  ∃o es ep,h.get? a=!o/\o.ExactDict/\o.data=.dict es ep/\es.toList=xs.map (entryOfKey (tupleKind (eg P w)))/\(xs.map (·.1)).Nodup
 |.set S n=>h.SetOf (intKind P w) a S n
 |.ins C dx fs=>H dx=!(.own a)/\fs.length<=1000/\dx≠a/\h.get? a=!(PySem.W.instObj C dx)/\
  ∃mA,h.Ns1 dx mA/\(∀f,RelO (fs.lookup f) (mA f))/\PySem.Within mA (fs.map (·.1))
 |.own _=>∃o,h.get? a=!o
 |.xd fs=>∃mA,h.Ns1 a mA/\∀f,RelO (fs.lookup f) (mA f)
 |.rng lo hi=>∃t u v,h.get? a=some {cls:=.type "range",data:=.fields #[.int lo t,.int hi u,.int 1 v]}
 |.frz o u=>h.get? a=!o/\ObjOk H h a u
 |.tbl ps=>h.get? a=some {cls:=.none,data:=.fields ps}
 |.cod ps pos q=>h.get? a=some {cls:=.none,data:=.fields ps}\/∃c oc vs t,h.get? a=some {cls:=.none,data:=.fields (ps++#[rawInt pos.line,rawInt pos.col,.ref c])}/\H c=!(.frz oc (.own a))/\oc.data=.fields vs/\vs[1]?=!(.str q t)
 |.met f x=>h.get? a=!(PySem.W.methodObj (.ref f) (.ref x))
 |.ext φ=>φ h/\(∃o,h.get? a=!o)/\∀h1 h2:Heap,φ h1->(∀o,h1.get? a=!o->h2.get? a=!o)->φ h2
def  HOk(H:Hp)(h:Heap):Prop:=∀a o,H a=!o->ObjOk P w H h a o
end
section
variable{P:Program}{w:World}{H H':Hp}{h h':Heap}{a:Addr}{o:HO}
def ObjOk.lt(x:ObjOk P w H h a o):a<h.objs.size:=by
 cases o with
 |lst xs=>let⟨_,_,_,_,e⟩:=x;exact Ve e
 |tup xs=>let⟨_,_,_,p⟩:=x;exact p.lt
 |dK kvs=>let⟨_,_,_,_,o,_,_,e,_⟩:=x;exact Ve e
 |dT kvs=>let⟨_,_,_,_,o,_,_,e,_⟩:=x;exact Ve e
 |set S n=>let⟨o,_,_,_,e,_⟩:=x;exact Ve e
 |ins C dx fs=>let⟨_,_,_,e,_⟩:=x;exact Ve e
 |own y=>let⟨_,e⟩:=x;exact Ve e
 |xd fs=>let⟨_,⟨_,_,_,e,_⟩,_⟩:=x;exact Ve e
 |rng lo hi=>let⟨_,_,_,e⟩:=x;exact Ve e
 |frz j u=>let⟨e,_⟩:=x;exact Ve e
 |tbl ps=>exact Ve (x)
 |cod ps pos q=>
  rcases x with e|⟨_,_,_,_,e,_⟩
  .exact Ve e
  .exact Ve e
 |met f y=>exact Ve (x)
 |ext g=>let⟨_,⟨_,e⟩,_⟩:=x;exact Ve e
def Paired.mapP:∀{l₁:List α}{l₂:List β},Paired F l₁ l₂->(∀a b,F a b->G a b)->Paired G l₁ l₂
 |_,_,.nil,_=>.nil
 |_,_,.cons r t,f=>.cons (f _ _ r) (Paired.mapP t f)
def ObjOk.stay(x:ObjOk P w H h a o)(k:∀b u,(b=a\/H b=!(.own a))->h.get? b=!u->h'.get? b=!u)
  (ho:∀b,H b=!(.own a)->H' b=!(.own a)) (ht:∀b xs,H b=!(.tup xs)->H' b=!(.tup xs)) (hz:∀b o' T,H b=!(.frz o' T)->H' b=!(.frz o' T):=by intro _ _ _ q;exact q):ObjOk P w H' h' a o:=by
 induction o with
 |lst xs=>let⟨z,l,n,r,e⟩:=x;exact⟨z,l,n,r,k _ _ (.inl rfl) e⟩
 |tup xs=>let⟨z,l,r,g,e,c⟩:=x;exact⟨z,l,r,g,k _ _ (.inl rfl) e,c⟩
 |dK kvs=>let⟨z,y,I,r,g,es,j,e,c⟩:=x;exact⟨z,y,I,r,g,es,j,k _ _ (.inl rfl) e,c⟩
 |dT kvs=>
  let⟨z,y,xs,r,g,es,j,e,c⟩:=x;exact⟨z,y,xs,Paired.mapP r λp q z=>⟨z.1,ht _ _ z.2.1,z.2.2⟩,g,es,j,k _ _ (.inl rfl) e,c⟩
 |set S n=>let⟨g,es,j,t,e,c⟩:=x;exact⟨g,es,j,t,k _ _ (.inl rfl) e,c⟩
 |ins C dx fs=>
  let⟨d,z,ne,e,mA,⟨J,es,j,e2,c⟩,r⟩:=x;exact⟨ho _ d,z,ne,k _ _ (.inl rfl) e,mA,⟨J,es,j,k _ _ (.inr d) e2,c⟩,r⟩
 |own y=>let⟨g,e⟩:=x;exact⟨g,k _ _ (.inl rfl) e⟩
 |xd fs=>let⟨mA,⟨J,es,j,e,c⟩,r⟩:=x;exact⟨mA,⟨J,es,j,k _ _ (.inl rfl) e,c⟩,r⟩
 |rng lo hi=>let⟨t,u,v,e⟩:=x;exact⟨t,u,v,k _ _ (.inl rfl) e⟩
 |frz g u ih=>let⟨e,q⟩:=x;exact⟨k _ _ (.inl rfl) e,ih q⟩
 |cod ps pos q=>
  rcases x with e|⟨c,U,I,t,e,o1,r⟩
  .exact .inl (k a _ (.inl rfl) e)
  .exact .inr ⟨c,U,I,t,k a _ (.inl rfl) e,hz _ _ _ o1,r⟩
 |tbl ps=>
  have e:h.get? a=some {cls:=.none,data:=.fields ps}:=x;exact k a _ (.inl rfl) e
 |met f y=>
  have e:h.get? a=!(PySem.W.methodObj _ _):=x;exact k a _ (.inl rfl) e
 |ext φ=>let⟨p,⟨o,e⟩,st⟩:=x;exact⟨st _ _ p λo q=>k _ _ (.inl rfl) q,⟨o,k _ _ (.inl rfl) e⟩,st⟩
def HOk.lt(x:HOk P w H h)(e:H a=!o):a<h.objs.size:=(x a o e).lt
def HOk.fresh(x:HOk P w H h)(e:h.objs.size<=a):H a=none:=by
 cases q:H a with
 |none=>rfl
 |some u=>exact absurd (Vl (x.lt q) e) (Vt _)
def HOk.kept(x:HOk P w H h)(k:∀b u,h.get? b=!u->h'.get? b=!u):HOk P w H h':=λa o e=>
 (x a o e).stay (λb u _ q=>k b u q) (λ_ q=>q) λ_ _ q=>q
def HOk.laid(x:HOk P w H h)(k:∀b u,h.get? b=!u->h'.get? b=!u)(l:h.objs.size<=a)(new:ObjOk P w (upd H a o) h' a o):HOk P w (upd H a o) h':=λb u e=>by
 have g:=x.fresh l;by_cases j:b=a
 .subst j;rw[ai]at e;cases e;exact new
 .rw[ae j]at e;exact(x b u e).stay (λc v _ q=>k c v q) (λc q=>by rw[ae (ak q g)];exact q) (λc xs q=>by rw[ae (ak q g)];exact q) λc o' p q=>by rw[ae (ak q g)];exact q
end
def  Rd(H:Hp)(a:Addr)(u:HO):Prop:=H a=!u\/∃o,H a=!(.frz o u)
def Rd.ok(r:Rd H a u)(x:HOk P w H h):ObjOk P w H h a u:=by
 rcases r with r|⟨o,r⟩
 .exact x a u r
 .let⟨_,q⟩:=x a _ r;exact q
def  Lq:Option HO->Prop
 |some (.lst _)=>True
 |some (.dK _)=>True
 |some (.dT _)=>True
 |some (.set _ _)=>True
 |some (.ins _ _ _)=>True
 |some (.ext _)=>True
 |_=>False
section
variable{P:Program}{w:World}{H:Hp}{h h':Heap}{x e:Addr}{o':HO}
def HOk.write(ok:HOk P w H h)(l:Lq (H x))(J:e=x\/H e=!(.own x))(k:∀b u,b≠e->h.get? b=!u->h'.get? b=!u)(C:∃u,h'.get? e=!u)
  (new:ObjOk P w (upd H x o') h' x o'):HOk P w (upd H x o') h':=λb u q=>by
 have j:∀c y,H c=!(.own y)->c≠x:=λc y r z=>by subst z;rw[r]at l;exact l
 have o:∀c xs,H c=!(.tup xs)->c≠x:=λc xs r z=>by subst z;rw[r]at l;exact l
 by_cases t:b=x
 .subst t;rw[ai]at q;cases q;exact new
 .rw[ae t]at q;by_cases g:b=e
  .have I:H b=!(.own x):=by
    rcases J with z|z
    .exact absurd (g.trans z) t
    .rw[g];exact z
   rw[q]at I;cases I;let⟨v,T⟩:=C;exact⟨v,by rw[g];exact T⟩
  .refine(ok b u q).stay (λc v p r=>k c v ?_ r) (λc r=>by rw[ae (j c b r)];exact r) (λc xs r=>by rw[ae (o c xs r)];exact r) λc o' U r=>by rw[ae (λz=>by subst z;rw[r]at l;exact l)];exact r
   rcases p with rfl|p
   .exact g
   .rintro rfl;rcases J with z|z
    .exact j c b p z
    .rw[p]at z;cases z;exact t rfl
end
def  Still:HO->Prop
 |.frz _ _=>True
 |.cod _ _ _=>True
 |_=>False
def Still.nm(h:Still u):¬Lq (!u):=by
 cases u<;>first|exact h.elim|exactλz=>z
def  GT(H:Hp):Prop:=∀b z,lamTabs.lookup b=!z->H b=!(.cod #[] z.1 z.2)
structure Un(fs ex:List Addr)(H H':Hp)(h h':Heap):Prop where
 keep:∀b o,h.get? b=!o->H b=none->b ∉ fs->b ∉ ex->h'.get? b=!o
 slot:∀b o,h.get? b=!o->H b=none->b∈fs->b ∉ ex->∃sl,h'.get? b=some {o with slots:=sl}
 free:∀b o,h.get? b=!o->H b=none->b ∉ ex->H' b=none
 there:∀b o,h.get? b=!o->b ∉ ex->∃o',h'.get? b=!o'
 tups:∀b xs,H b=!(.tup xs)->H' b=!(.tup xs)
 frzs:∀b o,Still o->H b=!o->H' b=!o
 tbls:∀b ps,H b=!(.tbl ps)->∃more,H' b=!(.tbl (ps++more))
section
variable{fs fs' ex ex':List Addr}{H H1 H2:Hp}{h h1 h2 h':Heap}{a x e:Addr}{o:HO}
def Un.any(u:Un fs ex H H1 h h1)(q:h.get? b=!ob)(n:H b=none)(hx:b ∉ ex):∃sl,h1.get? b=some {ob with slots:=sl}:=by
 by_cases hb:b∈fs
 .exact u.slot b ob q n hb hx
 .exact⟨ob.slots,u.keep b ob q n hb hx⟩
def Un.kept(k:∀b u,h.get? b=!u->h'.get? b=!u):Un fs ex H H h h':=
 ⟨λb g q _ _ _=>k b g q,λb g q _ _ _=>⟨g.slots,k b g q⟩,λ_ _ _ n _=>n,λb g q _=>⟨g,k b g q⟩,λ_ _ q=>q,λ_ _ _ q=>q,λ_ ps q=>⟨#[],by rw[q];simp⟩⟩
def Un.refl:Un fs ex H H h h:=Un.kept λ_ _ q=>q
def Un.laid(k:∀b u,h.get? b=!u->h'.get? b=!u)(j:h.objs.size<=a)(g:H a=none):Un fs ex H (upd H a o) h h' where
 keep:=λb u q _ _ _=>k b u q
 slot:=λb u q _ _ _=>⟨u.slots,k b u q⟩
 free:=λb u q n _=>by rw[ae (Nat.ne_of_lt (lt_of_lt_of_le (Heap.lt_size q) j))];exact n
 there:=λb u q _=>⟨u,k b u q⟩
 tups:=λb xs q=>by rw[ae (ak q g)];exact q
 frzs:=λb u xs q=>by rw[ae (ak q g)];exact q
 tbls:=λb ps q=>⟨#[],by rw[ae (ak q g),q];simp⟩
def Un.write(g:Lq (H x))(C:e=x\/H e=!(.own x))(k:∀b u,b≠e->h.get? b=!u->h'.get? b=!u)(t:∃u,h'.get? e=!u):Un fs ex H (upd H x o) h h':=by
 have l:∀b,H b=none->b≠x:=λb n z=>by subst z;rw[n]at g;exact g
 have p:∀b,H b=none->b≠e:=λb n z=>by
  subst z;rcases C with r|r
  .exact l b n r
  .rw[n]at r;cases r
 have j:∀b u,H b=!u->¬Lq (!u)->b≠x:=λb u q nm z=>by subst z;rw[q]at g;exact nm g
 refine⟨λb u q n _ _=>k b u (p b n) q,λb u q n _ _=>⟨u.slots,k b u (p b n) q⟩,λb u q n _=>by rw[ae (l b n)];exact n,λb u q _=>?_,
  λb xs q=>by rw[ae (j b _ q λz=>z)];exact q,λb u xs q=>by rw[ae (j b _ q xs.nm)];exact q,λb ps q=>⟨#[],by rw[ae (j b _ q λz=>z),q];simp⟩⟩
 grind
end
noncomputable def  Sv(h:Heap)(H:Hp):List Addr:=(List.range h.objs.size).filter λa=>(H a).isSome
def  qK(h:Heap)(H:Hp):Heap:=PySem.W.hideAll h (Sv h H)
def yt(h:Heap)(H:Hp):(qK h H).objs.size=h.objs.size:=PySem.W.hideAll_size _ _
def zJ(e:h.get? b=!o)(n:H b=none):(qK h H).get? b=!o:=
 PySem.W.hideAll_get _ e λg=>by
  have q:=(List.mem_filter.mp g).2;rw[n]at q;simp at q
def DO(e:(qK h H).get? b=!o):h.get? b=!o/\H b=none:=by
 have g:=PySem.W.of_hideAll _ e;refine⟨g,?_⟩;cases q:H b with
 |none=>rfl
 |some x=>
  have j:b∈Sv h H:=List.mem_filter.mpr ⟨Vw.mpr (Ve g),by simp[q]⟩;have z:(qK h H).get? b=none:=PySem.W.hideAll_none _ j;rw[z]at e;cases e
noncomputable def  DP(g h:Heap)(L:Addr):UW:=(List.range h.objs.size).filterMap λa=>if a=L\/(g.get? a).isSome=true then none else(h.get? a).map λo=>(a,o)
def  rest(g h:Heap)(L d:Addr):UW:=(DP g h L).filter λp=>decide (p.1≠d)
structure Mod(K:Frag)(mg:Str->U1)(base:Heap):Prop where
 kin:K.In base
 glob:base.Ns mainGlobals mg
 blt:∃mb,base.Ns builtinsNs mb/\∀x:Str,x≠"__name__" ->mb x=bootBuiltins x
 nolimit:base.NoLimit
structure Cx where
 prog:Program
 w:World
 K:Frag
 mg:Str->U1
 base:Heap
 A:Around
 N:U3
 s₀:Shared
 H₀:Hp
 env:Env
 outer:List Env
 stack:List Env
 ex:List Addr
 fn:Str->Bool
 calm:Bool
 pn:UW
 xe:UZ
noncomputable def  frs(l:List Env):List Addr:=l.filterMap (·.frame)
abbrev Cx.fs(X:Cx):List Addr:=frs X.outer
def  pQ(sc:Scope)(x:Str):Prop:=sc.names.lookup x=some .local\/sc.names.lookup x=some .cell\/sc.names.lookup x=some .free
def  DB(sc:Scope)(x:Str):Prop:=sc.names.lookup x=some .local\/sc.names.lookup x=some .cell
def  Qa(env:Env)(h:Heap)(m:Str->U1)(x:Str)(u:Value):Prop:=
 (env.kindOf x=some .local/\m x=!u)\/((env.kindOf x=some .cell\/env.kindOf x=some .free)/\∃c,env.cells.lookup x=!c/\h.IsCell c (!u))
structure Cx.Ok(X:Cx):Prop where
 mod:Mod X.K X.mg X.base
 kind:X.env.scope.kind=.function
 glob:X.env.globals=mainGlobals
 blt:X.env.builtins=builtinsNs
 above:X.s₀.heap.objs.size<=X.env.locals
 inj:∀x y c,X.env.cells.lookup x=!c->X.env.cells.lookup y=!c->x=y
 has:∀x,(X.env.kindOf x=some .cell\/X.env.kindOf x=some .free)->∃c,X.env.cells.lookup x=!c
 cab:∀x c,X.fn x=true->X.env.cells.lookup x=!c->X.s₀.heap.objs.size<=c
 hd:X.calm=true->X.A.handled=none
 frames:X.A.frames=!X.stack
 stk:X.stack=X.outer\/(X.stack=X.env::X.outer/\X.env.frame=!X.env.locals)
 exf:∀b∈X.ex,b≠X.env.locals/\∀x c,X.env.cells.lookup x=!c->c≠b
 bs:∀b o,X.base.get? b=!o->X.s₀.heap.get? b=!o/\X.H₀ b=none
 bsz:X.base.objs.size<=X.s₀.heap.objs.size
 noex:∀b o,X.base.get? b=!o->b ∉ X.ex
 exfs:∀b∈X.ex,b ∉ X.fs
 funs:X.s₀.heap.FunFrames X.base X.outer
 frf:(∀b∈X.fs,X.H₀ b=none)/\GT X.H₀
structure Inv(X:Cx)(pins:UW)(σ:List (Option V))(H:Hp)(s:Shared):Prop where
 ok:X.Ok
 os:s.os=X.s₀.os
 bare:AllBare s.gens
 base:Un X.fs X.ex X.H₀ H X.s₀.heap s.heap
 loc:∃m,s.heap.Ns X.env.locals m/\∀(i:Nat)(x:Str)(v:V),X.N[i]?=!x->σ[i]?=!(!v)->pQ X.env.scope x->∃u,RelV v u/\Qa X.env s.heap m x u
 cell:∀x c,X.env.cells.lookup x=!c->∃v,s.heap.IsCell c v
 free:H X.env.locals=none
 freeC:∀x c,X.env.cells.lookup x=!c->H c=none
 pin:∀p∈X.pn++pins,s.heap.get? p.1=!p.2/\H p.1=none/\p.1≠X.env.locals/\p.1 ∉ X.fs/\∀v,p.2.data≠.cell v
 hok:HOk X.prog X.w H s.heap
 len:σ.length=X.N.length
section
variable{X:Cx}{pins:UW}{σ:List (Option V)}{H H':Hp}{s:Shared}{h':Heap}
def Cx.Ok.nofr(ok:X.Ok)(e:X.base.get? b=!o):b ∉ X.fs:=λg=>by
 have:=(ok.funs.mem g).1;grind
def Inv.bs(I:Inv X pins σ H s):∀b o,X.base.get? b=!o->s.heap.get? b=!o/\H b=none:=λb o e=>
 ⟨I.base.keep b o (I.ok.bs b o e).1 (I.ok.bs b o e).2 (I.ok.nofr e) (I.ok.noex b o e),I.base.free b o (I.ok.bs b o e).1 (I.ok.bs b o e).2 (I.ok.noex b o e)⟩
def Inv.bk(I:Inv X pins σ H s):∀b o,X.base.get? b=!o->s.heap.get? b=!o:=λb o e=>(I.bs b o e).1
def Inv.mod(I:Inv X pins σ H s):Mod X.K X.mg X.base:=I.ok.mod
def Inv.kIn(I:Inv X pins σ H s):X.K.In s.heap:=I.ok.mod.kin.keeps I.bk
def Inv.nolimit(I:Inv X pins σ H s):s.heap.NoLimit:=I.ok.mod.nolimit.keeps I.bk
def Inv.lt(I:Inv X pins σ H s):X.env.locals<s.heap.objs.size:=let⟨_,g,_⟩:=I.loc;g.lt
def Inv.sz(I:Inv X pins σ H s):X.s₀.heap.objs.size<=s.heap.objs.size:=Vn I.ok.above (Vu I.lt)
def Inv.nofs(I:Inv X pins σ H s){a:Addr}(h:s.heap.objs.size<=a):a ∉ X.fs:=λj=>by
 let⟨_,o,g,_⟩:=I.ok.funs.mem j;exact absurd (Vl (Ve g) (Vn I.sz h)) (Vt _)
def Inv.cne(I:Inv X pins σ H s):∀x c,X.env.cells.lookup x=!c->c≠X.env.locals:=λx c e z=>by
 let⟨v,o,l,hd⟩:=I.cell x c e;let⟨m,⟨o',es,p,g,j,_⟩,_⟩:=I.loc;grind
def Inv.funs(I:Inv X pins σ H s):s.heap.FunFrames X.base X.outer:=by
 have all:∀(l:List Env),(∀b∈frs l,b∈X.fs)->X.s₀.heap.FunFrames X.base l->s.heap.FunFrames X.base l:=by
  intro l;induction l with
  |nil=>intro _ _;trivial
  |cons env r C=>
   intro t hl;let⟨hk,⟨L,o,g,U,T,hd⟩,J⟩:=hl;have p:=t L (by unfold frs;rw[List.filterMap_cons,g];exact Vi);let⟨sl,e⟩:=I.base.slot L o T (I.ok.frf.1 L p) p λz=>I.ok.exfs L z p;exact⟨hk,⟨L,_,g,U,e,hd⟩,C (λb j=>t b (by unfold frs;rw[List.filterMap_cons,g];exact Vj _ j)) J⟩
 exact all X.outer (λ_ j=>j) I.ok.funs
def Inv.stack(I:Inv X pins σ H s):s.heap.FunFrames X.base X.stack:=by
 rcases I.ok.stk with e|⟨e,j⟩
 .rw[e];exact I.funs
 .rw[e];let⟨m,g,_⟩:=I.loc;refine .cons (by rw[I.ok.kind];decide) j g ?_ I.funs;exact Heap.get?_none_of_le (Vn I.ok.bsz I.ok.above)
def Inv.stkSub(I:Inv X pins σ H s):∀b∈frs X.stack,b∈X.env.locals::X.fs:=λb g=>by
 rcases I.ok.stk with e|⟨e,j⟩
 .rw[e]at g;exact Vj _ g
 .rw[e]at g;unfold frs at g;rw[List.filterMap_cons,j]at g;exact g
def Inv.stkFree(I:Inv X pins σ H s):∀b∈frs X.stack,H b=none:=λb g=>by
 rcases mem_cons.mp (I.stkSub b g)with e|g
 .rw[e];exact I.free
 .let⟨_,o,j,_⟩:=I.ok.funs.mem g;exact I.base.free b o j (I.ok.frf.1 b g) λz=>I.ok.exfs b z g
def Inv.tab(I:Inv X pins σ H s):GT H:=λb z h=>I.base.frzs b _ True.intro (I.ok.frf.2 b z h)
def Inv.step{ch:List Addr}(I:Inv X pins σ H s)(t:∀b∈ch,(b∈X.ex\/X.s₀.heap.objs.size<=b)/\b≠X.env.locals/\(∀x c,X.env.cells.lookup x=!c->c≠b)/\∀p∈X.pn++pins,p.1≠b)(keep:∀b o,b≠X.env.locals->b ∉ X.fs->b ∉ ch->s.heap.get? b=!o->H b=none->h'.get? b=!o)(slot:∀b o,b≠X.env.locals->b∈X.fs->b ∉ ch->s.heap.get? b=!o->H b=none->∃sl,h'.get? b=some {o with slots:=sl})(free:∀b o,b ∉ ch->s.heap.get? b=!o->H b=none->H' b=none)(there:∀b o,b ∉ ch->s.heap.get? b=!o->∃o',h'.get? b=!o')(tups:∀b xs,H b=!(.tup xs)->H' b=!(.tup xs))(frzs:∀b o,Still o->H b=!o->H' b=!o)(tbls:∀b ps,H b=!(.tbl ps)->∃more,H' b=!(.tbl (ps++more)))(ns:∀m,s.heap.Ns X.env.locals m->h'.Ns X.env.locals m)(hok:HOk X.prog X.w H' h')(hg:AllBare g'):
  Inv X pins σ H' {s with heap:=h',gens:=g',drawn:=d',toks:=t'}:=by
 have neL:∀b o,X.s₀.heap.get? b=!o->b≠X.env.locals:=λb o e=>Vo (Vl (Ve e) I.ok.above)
 have J:∀b o,X.s₀.heap.get? b=!o->b ∉ X.ex->b ∉ ch:=λb o e g U=>by
  rcases(t b U).1 with z|z
  .exact g z
  .exact absurd (Vl (Ve e) z) (Vt _)
 have C:∀x c,X.env.cells.lookup x=!c->∀v,s.heap.IsCell c v->h'.IsCell c v:=λx c e v ⟨o,ho,hd⟩=>by
  have j:c ∉ ch:=λz=>(t c z).2.2.1 x c e rfl;by_cases hc:c∈X.fs
  .let⟨sl,q⟩:=slot c o (I.cne x c e) hc j ho (I.freeC x c e);exact⟨_,q,hd⟩
  .exact⟨o,keep c o (I.cne x c e) hc j ho (I.freeC x c e),hd⟩
 refine⟨I.ok,I.os,hg,⟨λb o e n U g=>?_,λb o e n U g=>?_,λb o e n g=>?_,λb o e g=>?_,λb xs e=>tups b xs (I.base.tups b xs e),λb o xs e=>frzs b o xs (I.base.frzs b o xs e),λb ps e=>?_⟩,?_,λx c e=>?_,?_,λx c e=>?_,λp hp=>?_,hok,I.len⟩
 .exact keep b o (neL b o e) U (J b o e g) (I.base.keep b o e n U g) (I.base.free b o e n g)
 .let⟨sl,T⟩:=I.base.slot b o e n U g;let⟨sl',e2⟩:=slot b _ (neL b o e) U (J b o e g) T (I.base.free b o e n g);exact⟨sl',e2⟩
 .let⟨o',T⟩:=I.base.there b o e g;exact free b o' (J b o e g) T (I.base.free b o e n g)
 .let⟨o',T⟩:=I.base.there b o e g;exact there b o' (J b o e g) T
 .let⟨m1,T⟩:=I.base.tbls b ps e;let⟨m2,e2⟩:=tbls b _ T;exact⟨m1++m2,by rw[e2,Array.append_assoc]⟩
 .let⟨m,hn,hl⟩:=I.loc;refine⟨m,ns m hn,λi x v T e2 e3=>?_⟩;let⟨u,r,l⟩:=hl i x v T e2 e3;refine⟨u,r,?_⟩;rcases l with l|⟨k,c,e,z⟩
  .exact .inl l
  .exact .inr ⟨k,c,e,C x c e _ z⟩
 .let⟨v,z⟩:=I.cell x c e;exact⟨v,C x c e v z⟩
 .let⟨m,⟨o,_,_,ho,_⟩,_⟩:=I.loc;exact free _ o (λz=>(t _ z).2.1 rfl) ho I.free
 .let⟨v,o,ho,hd⟩:=I.cell x c e;exact free c o (λz=>(t c z).2.2.1 x c e rfl) ho (I.freeC x c e)
 .let⟨e,n,ne,nf,d⟩:=I.pin p hp;have j:p.1 ∉ ch:=λz=>(t p.1 z).2.2.2 p hp rfl;exact⟨keep p.1 p.2 ne nf j e n,free p.1 p.2 j e n,ne,nf,d⟩
def Inv.un(I:Inv X pins σ H s)(u:Un X.fs [] H H' s.heap h')(hok:HOk X.prog X.w H' h'):Inv X pins σ H' {s with heap:=h',toks:=t'}:=by
 let⟨m,⟨o,es,ep,ho,r⟩,_⟩:=id I.loc;let⟨sl,hL⟩:=u.any ho I.free (by simp);exact I.step (ch:=[]) (λ_ z=>nomatch z) (λb o _ hb _ e n=>u.keep b o e n hb (by simp)) (λb o _ hb _ e n=>u.slot b o e n hb (by simp)) (λb o _ e n=>u.free b o e n (by simp)) (λb o _ e=>u.there b o e (by simp)) u.tups u.frzs u.tbls (λm' hm=>by
  let⟨o',es',ep',ho',r'⟩:=hm;rw[ho]at ho';cases ho';exact⟨_,es',ep',hL,r'⟩) hok I.bare
def Inv.call(I:Inv X pins σ H s)(u:Un (frs X.stack) ch H H' s.heap h')(t:HOk X.prog X.w H' h')(hg:AllBare g')(l:∀b∈ch,(b∈X.ex\/X.s₀.heap.objs.size<=b)/\b≠X.env.locals/\(∀x c,X.env.cells.lookup x=!c->c≠b)/\∀p∈X.pn++pins,p.1≠b):
  Inv X pins σ H' {s with heap:=h',gens:=g',drawn:=d',toks:=t'}:=by
 let⟨m,⟨o,es,ep,U,r⟩,_⟩:=id I.loc
 let⟨sl,C⟩:=u.any U I.free λz=>(l _ z).2.1 rfl
 exact I.step l (λb o C hb g e n=>u.keep b o e n (λz=>(mem_cons.mp (I.stkSub b z)).elim C hb) g) (λb o _ _ g e n=>u.any e n g) (λb o g e n=>u.free b o e n g) (λb o g e=>u.there b o e g) u.tups u.frzs u.tbls (λm' hm=>by
  let⟨o',J,T,j,r'⟩:=hm;rw[U]at j;cases j;exact⟨_,J,T,C,r'⟩) t hg
def Inv.turned(I:Inv X pins σ H s)(k:∀b o,b≠it->s.heap.get? b=!o->h'.get? b=!o)(hn:H it=none)(hL:it≠X.env.locals)(h1:it∈X.ex\/X.s₀.heap.objs.size<=it)(h2:∀x c,X.env.cells.lookup x=!c->c≠it)(h3:∀p∈X.pn++pins,p.1≠it):Inv X pins σ H {s with heap:=h',toks:=t'}:=by
 have nit:∀b u,H b=!u->b≠it:=λb u e z=>by rw[z,hn]at e;cases e
 refine I.step (ch:=[it]) (λb hb=>?_) (λb o _ _ hc e _=>k b o (λz=>hc (by simp[z])) e) (λb o _ _ hc e _=>⟨o.slots,k b o (λz=>hc (by simp[z])) e⟩) (λ_ _ _ _ n=>n)
  (λb o hc e=>⟨o,k b o (λz=>hc (by simp[z])) e⟩) (λ_ _ e=>e) (λ_ _ _ e=>e) (λb ps e=>⟨#[],by rw[e];simp⟩) (λm hm=>?_) (λb u e=>?_) I.bare
 .have e:b=it:=by simpa using hb
  subst e;exact⟨h1,hL,h2,h3⟩
 .let⟨o,es,ep,ho,r⟩:=hm;exact⟨o,es,ep,k _ o (Ne.symm hL) ho,r⟩
 .refine(I.hok b u e).stay (λc v hc q=>k c v ?_ q) (λ_ q=>q) λ_ _ q=>q;rcases hc with z|z
  .rw[z];exact nit b u e
  .exact nit c _ z
def Inv.tok(I:Inv X pins σ H s)(t:Nat):Inv X pins σ H {s with toks:=t}:=I.un Un.refl I.hok
def Inv.kept(I:Inv X pins σ H s)(k:∀b u,s.heap.get? b=!u->h'.get? b=!u):Inv X pins σ H {s with heap:=h',toks:=t'}:=I.un (Un.kept k) (I.hok.kept k)
def Inv.laid{a:Addr}(I:Inv X pins σ H s)(k:∀b u,s.heap.get? b=!u->h'.get? b=!u)(hp:s.heap.objs.size<=a)(new:ObjOk X.prog X.w (upd H a o) h' a o):
 Inv X pins σ (upd H a o) {s with heap:=h',toks:=t'}:=I.un (Un.laid k hp (I.hok.fresh hp)) (I.hok.laid k hp new)
def Inv.write(I:Inv X pins σ H s)(mu:Lq (H x))(he:e=x\/H e=!(.own x))(k:∀b u,b≠e->s.heap.get? b=!u->h'.get? b=!u)(heo:∃u,h'.get? e=!u)(new:ObjOk X.prog X.w (upd H x o) h' x o):Inv X pins σ (upd H x o) {s with heap:=h',toks:=t'}:=I.un (Un.write mu he k heo) (I.hok.write mu he k heo new)
def Inv.weak(I:Inv X pins σ H s)(o:g.length=σ.length)(w:∀(i:Nat) v,g[i]?=!(!v)->σ[i]?=!(!v)):Inv X pins g H s:=
 ⟨I.ok,I.os,I.bare,I.base,let⟨m,l,j⟩:=I.loc;⟨m,l,λi x v r e2 p=>j i x v r (w i v e2) p⟩,I.cell,I.free,I.freeC,I.pin,I.hok,o.trans I.len⟩
def Inv.pins_of(I:Inv X pins σ H s)(h:∀p∈g,s.heap.get? p.1=!p.2/\H p.1=none/\p.1≠X.env.locals/\p.1 ∉ X.fs/\∀v,p.2.data≠.cell v):Inv X g σ H s:=
 ⟨I.ok,I.os,I.bare,I.base,I.loc,I.cell,I.free,I.freeC,λp j=>(mem_append.mp j).elim (λz=>I.pin p (Vr _ z)) (h p),I.hok,I.len⟩
def sI{N:U3}(g:N.Nodup){i j:Nat}(a:N[i]?=!x)(b:N[j]?=!x):i=j:=by
 let⟨h1,l⟩:=Vh.mp a;let⟨h2,e2⟩:=Vh.mp b;exact(List.getElem_inj g).mp (l.trans e2.symm)
def pR(I:Inv X pins σ H s)(hN:X.N.Nodup)(hi:X.N[i]?=!x)(J:DB X.env.scope x)(r:RelV v u)(h:∀s',Inv X pins (σ.set i (!v)) H s'->(∃a,Heap.SameBut a s.heap s'.heap/\(a=X.env.locals\/X.env.cells.lookup x=!a))->Q () s')(hf:X.fn x=true\/X.env.scope.names.lookup x=some .local:=by first|exact .inl rfl|exact .inr rfl|assumption):wpAny M A (storeName X.env x u) Q E s:=by
 let⟨m,hn,hl⟩:=id I.loc;have hcls:(X.env.scope.kind==.class||(X.env.scope.kind==.module&&X.env.locals !=X.env.globals))=false:=by rw[I.ok.kind];rfl
 have hiσ:i<σ.length:=by rw[I.len];exact(Vh.mp hi).1
 have cne:=I.cne;have l:∀{a:Addr}{h':Heap},(∃o,s.heap.get? a=!o/\H a=none)->Heap.SameBut a s.heap h'->HOk X.prog X.w H h':=λ{a h'} ha g b ob e=>by
  let⟨_,_,T⟩:=ha;refine(I.hok b ob e).stay (λc w' C q=>(g.2 c ?_).trans q) (λ_ q=>q) λ_ _ q=>q;rintro rfl;rcases C with rfl|C
  .rw[T]at e;cases e
  .rw[T]at C;cases C
 rcases J with U|U
 .refine wpAny_storeName_local U hn (λh' hn' g=>?_) hcls;let⟨oL,_,_,hoL,_⟩:=id hn;refine h _ ⟨I.ok,I.os,I.bare,⟨λb o e n hb J=>?_,λb o e n hb J=>?_,I.base.free,λb o e J=>?_,I.base.tups,I.base.frzs,I.base.tbls⟩,⟨_,hn',λj y v' t e2 e3=>?_⟩,λy c e=>?_,I.free,I.freeC,λp hp=>?_,l ⟨oL,hoL,I.free⟩ g,by simpa using I.len⟩ ⟨_,g,.inl rfl⟩
  .exact(g.2 b (Vo (Vl (Ve e) I.ok.above))).trans (I.base.keep b o e n hb J)
  .let⟨sl,t⟩:=I.base.slot b o e n hb J;exact⟨sl,(g.2 b (Vo (Vl (Ve e) I.ok.above))).trans t⟩
  .let⟨o',t⟩:=I.base.there b o e J;exact⟨o',(g.2 b (Vo (Vl (Ve e) I.ok.above))).trans t⟩
  .by_cases hj:j=i
   .subst hj;rw[hi]at t;cases t;rw[List.getElem?_set_self hiσ]at e2;cases e2;exact⟨u,r,.inl ⟨U,by simp⟩⟩
   .rw[List.getElem?_set_ne (Ne.symm hj)]at e2;let⟨u',r',q⟩:=hl j y v' t e2 e3;refine⟨u',r',?_⟩;rcases q with⟨k,e⟩|⟨k,c,e,z⟩
    .refine .inl ⟨k,?_⟩;have:y≠x:=λe=>hj (sI hN t (e▸hi));simp[this,e]
    .exact .inr ⟨k,c,e,z.sameBut g (cne y c e)⟩
  .let⟨w',z⟩:=I.cell y c e;exact⟨w',z.sameBut g (cne y c e)⟩
  .let⟨e,n,ne,nf,d⟩:=I.pin p hp;exact⟨(g.2 p.1 ne).trans e,n,ne,nf,d⟩
 .have hfn:X.fn x=true:=by
   rcases hf with z|z
   .exact z
   .rw[z]at U;cases U
  let⟨c,C⟩:=I.ok.has x (.inl U);let⟨w',z⟩:=I.cell x c C;refine wpAny_storeName_cell I.ok.kind U C z (λh' hc' g=>?_);let⟨oc,hoc,hocd⟩:=id z;refine h {s with heap:=h'} ⟨I.ok,I.os,I.bare,⟨λb o e n hb J=>?_,λb o e n hb J=>?_,I.base.free,λb o e J=>?_,I.base.tups,I.base.frzs,I.base.tbls⟩,⟨m,hn.sameBut g (Ne.symm (cne x c C)),λj y v' t e2 e3=>?_⟩,λy c' e=>?_,I.free,I.freeC,λp hp=>?_,l ⟨oc,hoc,I.freeC x c C⟩ g,by simpa using I.len⟩ ⟨c,g,.inr C⟩
  .exact(g.2 b (Vo (Vl (Ve e) (I.ok.cab x c hfn C)))).trans (I.base.keep b o e n hb J)
  .let⟨sl,t⟩:=I.base.slot b o e n hb J;exact⟨sl,(g.2 b (Vo (Vl (Ve e) (I.ok.cab x c hfn C)))).trans t⟩
  .let⟨o',t⟩:=I.base.there b o e J;exact⟨o',(g.2 b (Vo (Vl (Ve e) (I.ok.cab x c hfn C)))).trans t⟩
  .by_cases hj:j=i
   .subst hj;rw[hi]at t;cases t;rw[List.getElem?_set_self hiσ]at e2;cases e2;exact⟨u,r,.inr ⟨.inl U,c,C,hc'⟩⟩
   .rw[List.getElem?_set_ne (Ne.symm hj)]at e2;let⟨u',r',q⟩:=hl j y v' t e2 e3;refine⟨u',r',?_⟩;rcases q with q|⟨k,c',e,z'⟩
    .exact .inl q
    .refine .inr ⟨k,c',e,z'.sameBut g ?_⟩;rintro rfl;exact hj (sI hN t (I.ok.inj _ _ _ e C▸hi))
  .by_cases hcc:c'=c
   .subst hcc;exact⟨_,hc'⟩
   .let⟨w2,z2⟩:=I.cell y c' e;exact⟨w2,z2.sameBut g hcc⟩
  .let⟨e,n,ne,nf,d⟩:=I.pin p hp;refine⟨(g.2 p.1 ?_).trans e,n,ne,nf,d⟩;intro q;rw[q,hoc]at e;have q':=Option.some.inj e;exact d w' (by rw[<-q'];exact hocd)
def sJ(I:Inv X pins σ H s)(l:X.N.Nodup)(hi:X.N[i]?=!x)(g:DB X.env.scope x)(r:RelV v u)(h:∀s',Inv X pins (σ.set i (!v)) H s'->Q () s')(j:X.fn x=true\/X.env.scope.names.lookup x=some .local:=by first|exact .inl rfl|exact .inr rfl|assumption):wpAny M A (storeName X.env x u) Q E s:=
 pR I l hi g r (λs' o _=>h s' o) j
def Inv.call'(I:Inv X pins σ H s)(l:s'.os=s.os)(u:Un (frs X.stack) r H H' s.heap s'.heap)(g:HOk X.prog X.w H' s'.heap)(o:AllBare s'.gens)(j:∀b∈r,(b∈X.ex\/X.s₀.heap.objs.size<=b)/\b≠X.env.locals/\(∀x c,X.env.cells.lookup x=!c->c≠b)/\∀p∈X.pn++pins,p.1≠b):Inv X pins σ H' s':=by
 let⟨h',C,J,t,o'⟩:=s';have e:=l;subst e;exact I.call u g o j
end
abbrev XK:=Value->Option Addr->Hp->Prop
abbrev St:=List (Option V)
abbrev VK:=V->Hp->Prop
abbrev TE:=St->Hp->VK->Prop
abbrev TT:=St->Hp->(Bool->Hp->Prop)->Prop
abbrev TA:=St->Hp->(List V->Hp->Prop)->Prop
structure Ends where
 nx:St->Hp->Prop
 rt:VK
 bk:St->Hp->Prop:=λ_ _=>False
 ct:St->Hp->Prop:=λ_ _=>False
noncomputable abbrev TS:=Ends->St->Hp->Prop
def  EP(X:Cx)(pins:UW)(σ:St)(Q:VK)(u:Value)(s':Shared):Prop:=∃v H',Inv X pins σ H' s'/\RelV v u/\Q v H'
def  TP(X:Cx)(pins:UW)(σ:St)(Q:Bool->Hp->Prop)(b:Bool)(s':Shared):Prop:=∃H',Inv X pins σ H' s'/\Q b H'
def  AP(X:Cx)(pins:UW)(σ:St)(Q:List V->Hp->Prop)(us:U0)(s':Shared):Prop:=∃vs H',Inv X pins σ H' s'/\Vals vs us/\Q vs H'
def  SP(X:Cx)(pins:UW)(D:Ends)(f:Flow)(s':Shared):Prop:=
 match f with
 |.next=>∃σ' H',Inv X pins σ' H' s'/\D.nx σ' H'
 |.brk=>∃σ' H',Inv X pins σ' H' s'/\D.bk σ' H'
 |.cont=>∃σ' H',Inv X pins σ' H' s'/\D.ct σ' H'
 |.ret u=>∃v σ' H',Inv X pins σ' H' s'/\RelV v u/\D.rt v H'
def  PE(X:Cx)(e:Expr)(t:TE):Prop:=
 ∀(pins:UW)(s:Shared)(σ:St)(H:Hp)(Q:VK),Inv X pins σ H s->t σ H Q->wpAny (!4) X.A (eval e X.env) (EP X pins σ Q) X.xe s
def  PT(X:Cx)(e:Expr)(t:TT):Prop:=
 ∀(pins:UW)(s:Shared)(σ:St)(H:Hp)(Q:Bool->Hp->Prop),Inv X pins σ H s->t σ H Q->wpAny (!4) X.A (isTrue e X.env (eval e X.env)) (TP X pins σ Q) X.xe s
def  PW(X:Cx)(e:Expr)(t:TT):Prop:=
 ∀(whole:Sem Value)(pins:UW)(s:Shared)(σ:St)(H:Hp)(Q:Bool->Hp->Prop),Inv X pins σ H s->t σ H Q->wpAny (!4) X.A (isTrue e X.env whole) (TP X pins σ Q) X.xe s
def PW.pt(h:PW X e t):PT X e t:=h _
def  PA(X:Cx)(es:U8)(t:TA):Prop:=
 ∀(pos:Pos)(pins:UW)(s:Shared)(σ:St)(H:Hp)(Q:List V->Hp->Prop),Inv X pins σ H s->t σ H Q->wpAny (!4) X.A (spliced (!17)) (AP X pins σ Q) X.xe s
def  PS(X:Cx)(st:Stmt)(t:TS):Prop:=
 ∀(pins:UW)(s:Shared)(σ:St)(H:Hp)(D:Ends),Inv X pins σ H s->t D σ H->wpAny (!4) X.A (exec st X.env) (SP X pins D) X.xe s
def  PSs(X:Cx)(st:List Stmt)(t:TS):Prop:=
 ∀(pins:UW)(s:Shared)(σ:St)(H:Hp)(D:Ends),Inv X pins σ H s->t D σ H->wpAny (!4) X.A (execs st X.env) (SP X pins D) X.xe s
def bq{Q g:α->Shared->Prop}(h:wpAny M A t Q E s)(j:∀a s,Q a s->g a s):wpAny M A t g E s:=Vz h j λ_ _ x=>x
section
variable{X:Cx}
def  LK(i:Nat):TE:=λσ H Q=>∃v,σ[i]?=!(!v)/\Q v H
def  tC(v:V):TE:=λ_ H Q=>Q v H
def bK{pos}(U:X.N[i]?=!x)(t:pQ X.env.scope x)(hd:(!6)=false:=by decide)(o:(!14)=false:=by decide):PE X (.Name x pos) (LK i):=by
 intro pins s σ H Q I h;let⟨v,e,h⟩:=h;let⟨m,C,T⟩:=I.loc;let⟨u,r,l⟩:=T i x v U e t;have fin:EP X pins σ Q u s:=⟨v,H,I,r,h⟩;rcases l with⟨j,J⟩|⟨j,c,p,g⟩
 .exact wpAny_Name (wpAny_loadName_local I.ok.kind j C J fin) hd
 .rcases j with j|j
  .exact wpAny_Name (wpAny_loadName_cell I.ok.kind j p g fin) hd
  .exact wpAny_Name (wpAny_loadName_free I.ok.kind j p g fin o) hd
def pe_int:PE X (.Constant (.int i) j pos) (tC (.int i)):=λ_ _ _ H _ I h=>wpAny_Constant_int ⟨.int i,H,I.tok _,⟨_,rfl⟩,h⟩
def pe_bl:PE X (.Constant (.bool b) j pos) (tC (.bl b)):=λ_ _ _ H _ I h=>Constant_bool ⟨.bl b,H,I,rfl,h⟩
def pe_non:PE X (.Constant .none j pos) (tC .non):=λ_ _ _ H _ I h=>Constant_none ⟨.non,H,I,rfl,h⟩
def pe_str:PE X (.Constant (.str x) j pos) (tC (.str x)):=λ_ _ _ H _ I h=>Calls.Constant_str ⟨.str x,H,I.tok _,⟨_,rfl⟩,h⟩
def  Gl(X:Cx)(x:Str):Prop:=X.env.kindOf x=some .globalImplicit
def qL{σ:St}(I:Inv X pins σ H s)(j:Gl X x)(g:X.mg x=!u)(h:Q u s)(hd:(!6)=false:=by decide):wpAny (!4) X.A (eval (.Name x pos) X.env) Q E s:=
 Calls.Name_function_global I.ok.kind j (Calls.loadGlobal_global (by rw[I.ok.glob];exact I.mod.glob.keeps I.bk) g h) hd
def dI{E}{σ:St}{pos}(I:Inv X pins σ H s)(o:Gl X x)(l:X.mg x=none)(g:bootBuiltins x=!u)(h:Q u s)(j:x≠"__name__":=by decide)(hd:(!6)=false:=by decide):wpAny (!4) X.A (eval (.Name x pos) X.env) Q E s:=by
 let⟨p,h1,h2⟩:=I.mod.blt;exact Calls.Name_function_global I.ok.kind o (Calls.loadGlobal_builtin (by rw[I.ok.glob];exact I.mod.glob.keeps I.bk) l (by rw[I.ok.blt];exact h1.keeps I.bk) ((h2 x j).trans g) h) hd
def DQ(j:Gl X x)(g:X.mg x=!u)(r:RelV v u)(hd:(!6)=false:=by decide):PE X (.Name x pos) (tC v):=
 λ_ _ _ H _ I h=>qL I j g ⟨v,H,I,r,h⟩ hd
def DR{pos}(o:Gl X x)(l:X.mg x=none)(g:bootBuiltins x=!u)(r:RelV v u)(j:x≠"__name__":=by decide)(hd:(!6)=false:=by decide):PE X (.Name x pos) (tC v):=
 λ_ _ _ H _ I h=>dI I o l g ⟨v,H,I,r,h⟩ j hd
variable{a b:Expr}{ta tb:TE}{pos:Pos}
variable{tA tB':TT}{rest:U8}
def  Qb(t u:TT):TT:=λσ H Q=>t σ H λc H1=>if c=true then u σ H1 Q else Q false H1
def  T1(t u:TT):TT:=λσ H Q=>t σ H λc H1=>if c=true then Q true H1 else u σ H1 Q
def  Qc(t:TT):TT:=λσ H Q=>t σ H λc H1=>Q (not c) H1
def pw_and1(g:PT X a tA):PW X (.BoolOp .And [a] pos) tA:=by
 intro j pins s σ H Q I h;refine isTrue_and (bq (g pins s σ H Q I h) λc l e=>?_);cases c with
 |true=>exact isTrue_and_nil e
 |false=>exact e
def pw_or1(g:PT X a tA):PW X (.BoolOp .Or [a] pos) tA:=by
 intro j pins s σ H Q I h;refine isTrue_or (bq (g pins s σ H Q I h) λc l e=>?_);cases c with
 |false=>exact isTrue_or_nil e
 |true=>exact e
def pw_and(r:PT X a tA)(p:PW X (.BoolOp .And (b::rest) pos) tB'):PW X (.BoolOp .And (a::b::rest) pos) (Qb tA tB'):=by
 intro l pins s σ H Q I h;refine isTrue_and (bq (r pins s σ H _ I h) λc o ⟨H1,j,g⟩=>?_);cases c with
 |true=>exact p l pins o σ H1 Q j g
 |false=>exact⟨H1,j,g⟩
def pw_or(r:PT X a tA)(p:PW X (.BoolOp .Or (b::rest) pos) tB'):PW X (.BoolOp .Or (a::b::rest) pos) (T1 tA tB'):=by
 intro l pins s σ H Q I h;refine isTrue_or (bq (r pins s σ H _ I h) λc o ⟨H1,j,g⟩=>?_);cases c with
 |true=>exact⟨H1,j,g⟩
 |false=>exact p l pins o σ H1 Q j g
def HX(g:PT X a tA):PT X (.UnaryOp .Not a pos) (Qc tA):=by
 intro pins s σ H Q I h;exact isTrue_not (g pins s σ H (λc H1=>Q (not c) H1) I h)
def  LL(ta tb:TE):TE:=λσ H Q=>ta σ H λx H1=>∃c,x=.bl c/\if c=true then tb σ H1 Q else Q (.bl false) H1
def  Qd(ta tb:TE):TE:=λσ H Q=>ta σ H λx H1=>∃c,x=.bl c/\if c=true then Q (.bl true) H1 else tb σ H1 Q
def  LM(ta:TE):TE:=λσ H Q=>ta σ H λx H1=>∃c,x=.bl c/\Q (.bl (not c)) H1
def HY(h:PE X a t):PE X (.BoolOp op [a] pos) t:=λpins s σ H Q I g=>BoolOp_one (h pins s σ H Q I g)
def HZ(r:PE X a ta)(p:PE X (.BoolOp .And (b::rest) pos) tb):PE X (.BoolOp .And (a::b::rest) pos) (LL ta tb):=by
 intro pins s σ H Q I h;refine BoolOp_and (bq (r pins s σ H _ I h) λv l ⟨x,H1,j,o,g⟩=>?_);let⟨c,rfl,g⟩:=g;cases o;refine wpAny_truthy_bool ?_;cases c with
 |true=>exact p pins l σ H1 Q j g
 |false=>exact⟨.bl false,H1,j,rfl,g⟩
def LN(ha:PE X a ta)(hb:PE X (.BoolOp .Or (b::rest) pos) tb):PE X (.BoolOp .Or (a::b::rest) pos) (Qd ta tb):=by
 intro pins s σ H Q I h;refine BoolOp_or (bq (ha pins s σ H _ I h) λv s1 ⟨x,H1,I1,r1,q1⟩=>?_);let⟨c,rfl,q1⟩:=q1;cases r1;refine wpAny_truthy_bool ?_;cases c with
 |false=>exact hb pins s1 σ H1 Q I1 q1
 |true=>exact⟨.bl true,H1,I1,rfl,q1⟩
def H0(l:PE X a ta):PE X (.UnaryOp .Not a pos) (LM ta):=by
 intro pins s σ H Q I h;refine UnaryOp_ (bq (l pins s σ H _ I h) λv p ⟨x,H1,o,j,g⟩=>?_);let⟨c,rfl,g⟩:=g;cases j;exact not_of (wpAny_truthy_bool ⟨.bl (not c),H1,o,rfl,g⟩)
def  T3(t:TT)(ta tb:TE):TE:=λσ H Q=>t σ H λc H1=>if c=true then ta σ H1 Q else tb σ H1 Q
def sK(o:PT X c tA)(r:PE X a ta)(p:PE X b tb):PE X (.IfExp c a b pos) (T3 tA ta tb):=by
 intro pins s σ H Q I h;refine wpAny_IfExp (bq (o pins s σ H _ I h) λd g ⟨H1,l,j⟩=>?_);cases d with
 |true=>exact r pins g σ H1 Q l j
 |false=>exact p pins g σ H1 Q l j
end
def  SqL(K:Frag)(H:Hp)(a:Addr)(xs:List V):Prop:=
 Rd H a (.lst xs)\/
  ∃(o:Obj)(its:U6)(n:Nat),K.lookup a=!o/\o.cls=.type "list"/\o.dict=none/\o.data=.seq its n/\its.size<=sizeLine/\Vals xs its.toList
def  SqT(K:Frag)(H:Hp)(a:Addr)(xs:List V):Prop:=
 Rd H a (.tup xs)\/
  ∃(o:Obj)(its:U6)(n:Nat),K.lookup a=!o/\o.cls=.type "tuple"/\o.data=.seq its n/\its.size<=sizeLine/\Vals xs its.toList
def  Qe:Value->Option V
 |.none=>some .non
 |.bool b=>!(.bl b)
 |.int i _=>!(.int i)
 |.str x _=>!(.str x)
 |.bytes b _=>!(.byt b)
 |.float b _=>!(.flt b)
 |.ref a=>!(.ref a)
 |.type n=>!(.ty n)
 |_=>none
def RelV.abs(r:RelV x u):Qe u=!x:=by
 cases x with
 |non=>cases r;rfl
 |bl _=>cases r;rfl
 |int _=>let⟨t,rfl⟩:=r;rfl
 |str _=>let⟨t,rfl⟩:=r;rfl
 |byt _=>let⟨t,rfl⟩:=r;rfl
 |flt _=>let⟨t,rfl⟩:=r;rfl
 |ref _=>cases r;rfl
 |ty _=>cases r;rfl
def RelV.inj(r:RelV x u)(q:RelV y u):x=y:=Option.some.inj (r.abs.symm.trans q.abs)
def Vals.inj:∀{xs ys:List V}{us:U0},Vals xs us->Vals ys us->xs=ys
 |_,_,_,.nil,.nil=>rfl
 |_,_,_,.cons r t,.cons r' t'=>by rw[r.inj r',Vals.inj t t']
section
variable{X:Cx}{pins:UW}{σ:St}{H:Hp}{s:Shared}{a:Addr}{xs ys:List V}
def SqL.up{K}(h:∀b o,H b=!o->H' b=!o)(q:SqL K H a xs):SqL K H' a xs:=by
 rcases q with(q|⟨o,q⟩)|q
 .exact .inl (.inl (h _ _ q))
 .exact .inl (.inr ⟨o,h _ _ q⟩)
 .exact .inr q
def SqL.of{K}(h:H a=!(.lst xs)):SqL K H a xs:=.inl (.inl h)
def SqT.of{K}(h:H a=!(.tup xs)):SqT K H a xs:=.inl (.inl h)
def Inv.list(I:Inv X pins σ H s)(h:SqL X.K H a xs):∃g:U0,Vals xs g/\PlainL s.heap a g.toArray/\xs.length<=sizeLine:=by
 rcases h with h|⟨o,g,n,l,p,hd,j,t,r⟩
 .let⟨z,g,n,r,e⟩:=h.ok I.hok;exact⟨g,r,⟨_,n,e,rfl,rfl,rfl⟩,z⟩
 .refine⟨g.toList,r,⟨o,n,I.kIn a o l,p,hd,by simpa using j⟩,?_⟩;have e:=r.length;simp only[Array.length_toList]at e;omega
def Inv.tuple(I:Inv X pins σ H s)(h:SqT X.K H a xs):∃g:U0,Vals xs g/\IsTup s.heap a g.toArray/\xs.length<=sizeLine:=by
 rcases h with h|⟨o,g,n,l,t,j,C,r⟩
 .let⟨z,g,r,p⟩:=h.ok I.hok;exact⟨g,r,p,z⟩
 .refine⟨g.toList,r,⟨o,I.kIn a o l,t,n,by simpa using j⟩,?_⟩;have e:=r.length;simp only[Array.length_toList]at e;omega
def Inv.list_inj(I:Inv X pins σ H s)(h:SqL X.K H a xs)(h':SqL X.K H a ys):xs=ys:=by
 let⟨j,r,⟨o,n,e,_,_,d⟩,_⟩:=I.list h;let⟨g,t,⟨o',C,l,_,_,p⟩,_⟩:=I.list h';rw[e]at l;cases l;rw[d]at p;injection p with d1 _;have:j=g:=by simpa using congrArg Array.toList d1
 subst this;exact r.inj t
def Inv.tuple_inj(I:Inv X pins σ H s)(h:SqT X.K H a xs)(h':SqT X.K H a ys):xs=ys:=by
 let⟨j,r,⟨o,e,_,n,d⟩,_⟩:=I.tuple h;let⟨g,t,⟨o',l,_,C,p⟩,_⟩:=I.tuple h';rw[e]at l;cases l;rw[d]at p;injection p with d1 _;have:j=g:=by simpa using congrArg Array.toList d1
 subst this;exact r.inj t
end
noncomputable abbrev Cx.wish(X:Cx)(E:UZ):Cx:={X with xe:=E}
abbrev Cx.nox(X:Cx):Cx:=X.wish λ_ _=>False
def Cx.Ok.wish{X:Cx}(ok:X.Ok)(E:UZ):(X.wish E).Ok:=
 ⟨ok.mod,ok.kind,ok.glob,ok.blt,ok.above,ok.inj,ok.has,ok.cab,ok.hd,ok.frames,ok.stk,ok.exf,ok.bs,ok.bsz,ok.noex,ok.exfs,ok.funs,ok.frf⟩
def Cx.Ok.unwish{X:Cx}(ok:(X.wish E).Ok):X.Ok:=
 ⟨ok.mod,ok.kind,ok.glob,ok.blt,ok.above,ok.inj,ok.has,ok.cab,ok.hd,ok.frames,ok.stk,ok.exf,ok.bs,ok.bsz,ok.noex,ok.exfs,ok.funs,ok.frf⟩
def Inv.wish(I:Inv X pins σ H s)(E:UZ):Inv (X.wish E) pins σ H s:=⟨I.ok.wish E,I.os,I.bare,I.base,I.loc,I.cell,I.free,I.freeC,I.pin,I.hok,I.len⟩
def Inv.unwish(I:Inv (X.wish E) pins σ H s):Inv X pins σ H s:=⟨I.ok.unwish,I.os,I.bare,I.base,I.loc,I.cell,I.free,I.freeC,I.pin,I.hok,I.len⟩
def SP.unwish{X:Cx}{pins:UW}{E:UZ}{D}(h:SP (X.wish E) pins D f s'):SP X pins D f s':=by
 cases f with
 |next=>let⟨g,H',I,q⟩:=h;exact⟨g,H',I.unwish,q⟩
 |brk=>let⟨g,H',I,q⟩:=h;exact⟨g,H',I.unwish,q⟩
 |cont=>let⟨g,H',I,q⟩:=h;exact⟨g,H',I.unwish,q⟩
 |ret u=>let⟨v,g,H',I,r,q⟩:=h;exact⟨v,g,H',I.unwish,r,q⟩
def PSs.nox{X:Cx}{st}(h:PSs X.nox st t):PSs X st t:=λpins s σ H D I g=>
 Vz (h pins s σ H D (I.wish _) g) (λ_ _ q=>q.unwish) λ_ _ z=>False.elim z
section
variable{X:Cx}{st:Stmt}{rest:List Stmt}{t u:TS}{e:Expr}{te:TE}{pos:Pos}
def  zK:TS:=λD σ H=>D.nx σ H
def  LO(t u:TS):TS:=λD σ H=>t {D with nx:=u D} σ H
def pss_nil:PSs X [] zK:=λ_ _ σ H _ I h=>wpAny_execs_nil ⟨σ,H,I,h⟩
def gi(h1:PS X st t)(h2:PSs X rest u):PSs X (st::rest) (LO t u):=by
 intro pins s σ H D I h;refine wpAny_execs_cons (bq (h1 pins s σ H {D with nx:=u D} I h) λf j q=>?_);cases f with
 |next=>
  let⟨g,H',l,q⟩:=q;exact h2 pins j g H' D l q
 |ret v=>exact q
 |brk=>exact q
 |cont=>exact q
def ps_pass:PS X (.Pass pos) zK:=λ_ _ σ H _ I h=>wpAny_Pass ⟨σ,H,I,h⟩
def Inv.quiet{σ:St}(I:Inv X pins σ H s):interactive X.env=false:=by simp[interactive,I.ok.kind]
def ps_doc:PS X (.Expr (.Constant (.str x) j pos) pos') zK:=λ_ s σ H _ I h=>wpAny_Expr (Calls.Constant_str (⟨σ,H,I.tok _,h⟩)) I.quiet
def  LP(te:TE):TS:=λD σ H=>te σ H λ_ H1=>D.nx σ H1
def ek(l:PE X e te)(j:swapsWith e none pos.line X.env=pure false:=by rfl):PS X (.Expr e pos) (LP te):=by
 intro pins s σ H D I h;exact wpAny_Expr_any (bq (l pins s σ H _ I h) λv p ⟨x,H1,o,r,g⟩=>⟨σ,H1,o,g⟩) I.quiet j
def  Qf(te:TE):TS:=λD σ H=>te σ H D.rt
def zL(l:PE X e te):PS X (.Return (!e) pos) (Qf te):=by
 intro pins s σ H D I h;exact wpAny_Return_some (bq (l pins s σ H _ I h) λv p ⟨x,H1,o,g,j⟩=>⟨x,σ,H1,o,g,j⟩)
def  LQ:TS:=λD _ H=>D.rt .non H
def ps_retN:PS X (.Return none pos) LQ:=λ_ _ σ H _ I h=>wpAny_Return_none ⟨.non,σ,H,I,rfl,h⟩
def  Qg(c:TT)(t u:TS):TS:=λD σ H=>c σ H λb H1=>if b=true then t D σ H1 else u D σ H1
def LR(o:PT X c tc)(r:PSs X a t)(p:PSs X b u):PS X (.If c a b pos) (Qg tc t u):=by
 intro pins s σ H D I h;refine wpAny_If (bq (o pins s σ H _ I h) λd g ⟨H1,l,j⟩=>?_);cases d with
 |true=>exact r pins g σ H1 D l j
 |false=>exact p pins g σ H1 D l j
def  zM:TS:=λ_ _ _=>False
def ps_never:PS X st zM:=λ_ _ _ _ _ _ h=>h.elim
def pss_never:PSs X J zM:=λ_ _ _ _ _ _ h=>h.elim
end
abbrev TG:=V->St->Hp->(St->Hp->Prop)->Prop
abbrev GX:=List V->St->Hp->(St->Hp->Prop)->Prop
def  PG(X:Cx)(target:Expr)(t:TG):Prop:=
 ∀(pins:UW)(s:Shared)(σ:St)(H:Hp)(v:V)(u:Value)(Q:St->Hp->Prop),Inv X pins σ H s->RelV v u->t v σ H Q->
  wpAny (!4) X.A (assign target X.env u) (λ_ s'=>∃σ' H',Inv X pins σ' H' s'/\Q σ' H') X.xe s
def  PGs(X:Cx)(ts:U8)(t:GX):Prop:=
 ∀(pins:UW)(s:Shared)(σ:St)(H:Hp)(vs:List V)(us:U0)(Q:St->Hp->Prop),Inv X pins σ H s->Vals vs us->t vs σ H Q->
  wpAny (!4) X.A (assignInOrder ((assignEach ts X.env).map (·.2)) us) (λ_ s'=>∃σ' H',Inv X pins σ' H' s'/\Q σ' H') X.xe s
abbrev H9:=V->V->V->Hp->(Hp->Prop)->Prop
def  Ia(X:Cx)(t:H9):Prop:=
 ∀(pins:UW)(s:Shared)(σ:St)(H:Hp)(o i v:V)(ov iv u:Value)(Q:Hp->Prop),Inv X pins σ H s->RelV o ov->RelV i iv->RelV v u->t o i v H Q->
  wpAny (!4) X.A (setItem ov iv u) (λ_ s'=>∃H',Inv X pins σ H' s'/\Q H') X.xe s
section
variable{X:Cx}{pos:Pos}
def  sL(i:Nat):TG:=λv σ H Q=>Q (σ.set i (!v)) H
def qM(l:X.N.Nodup)(hi:X.N[i]?=!x)(g:DB X.env.scope x)(j:X.fn x=true\/X.env.scope.names.lookup x=some .local:=by first|exact .inl rfl|exact .inr rfl|assumption):PG X (.Name x pos) (sL i):=by
 intro pins s σ H v u Q I r h;exact wpAny_assign_Name (sJ I l hi g r (λs' o=>⟨_,H,o,h⟩) j)
def  Qh:GX:=λvs σ H Q=>vs=[]/\Q σ H
def  LS(t:TG)(u:GX):GX:=λvs σ H Q=>∃v r,vs=v::r/\t v σ H λσ' H'=>u r σ' H' Q
def pgs_nil:PGs X [] Qh:=by
 intro pins s σ H g j Q I r h;let⟨e,h⟩:=h;exact assignInOrder_nil ⟨σ,H,I,h⟩
def sM(h1:PG X e t)(h2:PGs X es u)(p:(assignEach (e::es) X.env).map (·.2)=assign e X.env::(assignEach es X.env).map (·.2):=by rfl):PGs X (e::es) (LS t u):=by
 intro pins s σ H T us Q I r h;let⟨v,U,C,h⟩:=h;subst C;cases r with
 |cons r l=>
  rw[p];refine assignInOrder_cons (bq (h1 pins s σ H _ _ _ I r h) λ_ j ⟨g,H1,J,o⟩=>?_);exact h2 pins j g H1 _ _ Q J l o
def  Qi(K:Frag)(n:Nat)(t:GX):TG:=λv σ H Q=>∃a xs,v=.ref a/\SqT K H a xs/\xs.length=n/\t xs σ H Q
def zN{k}(hc:X.calm=true)(h:PGs X es t)(hn:(assignEach es X.env).length=n:=by rfl)(hst:(assignEach es X.env).findIdx? (·.1)=none:=by rfl):PG X (.Tuple es k pos) (Qi X.K n t):=by
 intro pins s σ H v u Q I r hw;let⟨a,xs,e1,hq,hl,hw⟩:=hw;subst e1;cases r;let⟨its,rv,ht,hz⟩:=I.tuple hq;refine assign_Tuple_tuple (I.ok.hd hc) ht (by simp[hn,<-hl,rv.length]) hst λh' hx=>?_;have I1:Inv X pins σ H {s with heap:=h'}:=I.kept λb o e=>hx b o (Vo (Ve e)) e;exact h pins _ σ H xs _ Q I1 (by simpa using rv) hw
def  Qj(to ti:TE)(t:H9):TG:=λv σ H Q=>to σ H λo H1=>ti σ H1 λi H2=>t o i v H2 λH3=>Q σ H3
def zO(ho:PE X o to)(hi:PE X i l)(hs:Ia X t)(ha:∀v,assign (.Subscript o i pos) X.env v=(do
  let g<-holding [v] (eval o X.env)
  let j<-holding [v,g] (eval i X.env)
  standAt pos
  holding [v,g,j] (setItem g j v)
  release [v,g,j] []):=by intro _;rfl):PG X (.Subscript o i pos) (Qj to l t):=by
 intro pins s σ H v u Q I r h
 refine Vb (wpAny_holding (bq (ho pins s σ H _ I h) λg C ⟨x,H1,I1,T,q1⟩=>?_))
 refine Vb (wpAny_holding (bq (hi pins C σ H1 _ I1 q1) λj p ⟨y,H2,I2,J,q2⟩=>?_))
 refine Vb (wpAny_standAt (Vb (wpAny_holding (bq (hs pins p σ H2 x y v g j u _ I2 T J r q2) λ_ s3 ⟨H3,I3,U⟩=>?_))))
 exact wpAny_release ⟨σ,H3,I3,U⟩
def  zP(te:TE)(g:TG):TS:=λD σ H=>te σ H λx H1=>g x σ H1 D.nx
def qN(C:PE X e te)(t:PG X tg g)(r:swapsWithSole [tg] e pos.line X.env=pure false:=by rfl)(p:swappedStores [tg] e X.env=pure none:=by rfl)(h1:(assignEach [tg] X.env).map (·.2)=[assign tg X.env]:=by rfl):PS X (.Assign [tg] e pos) (zP te g):=by
 intro pins s σ H D I h;refine wpAny_Assign_stores (bq (C pins s σ H _ I h) λv j ⟨x,H1,J,l,o⟩=>?_) r p;rw[h1];exact bq (t pins j σ H1 x v _ J l o) λ_ T q=>q
def Ib(t:X.N.Nodup)(hi:X.N[i]?=!x)(l:DB X.env.scope x)(r:PE X e te)(o:swapsWith e (!(.Name x pos')) pos.line X.env=pure false:=by rfl)(p:X.fn x=true\/X.env.scope.names.lookup x=some .local:=by first|exact .inl rfl|exact .inr rfl|assumption):
  PS X (.Assign [.Name x pos'] e pos) (zP te (sL i)):=by
 intro pins s σ H D I h
 refine wpAny_Assign_Name (bq (r pins s σ H _ I h) λv U ⟨y,H1,J,g,j⟩=>?_) o
 exact sJ J t hi l g (λT C=>⟨_,H1,C,j⟩) p
end
def  Ic(c:TT)(tb:TS):TS:=λD σ H=>∃W:Nat->St->Hp->Prop,(∃m,W m σ H)/\∀m σ H,W m σ H->
 c σ H λb H1=>if b=true then∃N:St->Hp->Prop,(∀σ' H',N σ' H'->∃m',m'<m/\W m' σ' H')/\tb {D with nx:=N,ct:=N,bk:=D.nx} σ H1 else D.nx σ H1
def zQ{X:Cx}{pos:Pos}{c:Expr}{body:List Stmt}{tc:TT}{tb:TS}(hp:PassesOwn (!4) X.A X.env X.xe)(hc:PT X c tc)(hb:PSs X body tb):PS X (.While c body [] pos) (Ic tc tb):=by
 intro pins s σ H D I h;let⟨W,⟨m0,w0⟩,turn⟩:=h;refine wpAny_While (codeAny_whileLoop (λn s'=>∃σ' H',Inv X pins σ' H' s'/\W n σ' H') ?_ m0 ⟨σ,H,I,w0⟩);rintro n s1 ⟨σ1,H1,I1,w1⟩;refine wpAny_passesOwn hp (bq (hc pins s1 σ1 H1 _ I1 (turn n σ1 H1 w1)) λb s2 ⟨H2,I2,q2⟩=>?_);cases b with
 |true=>
  let⟨N,hN,q2⟩:=q2;rw[if_pos rfl];refine wpAny_passesOwn hp (bq (hb pins s2 σ1 H2 _ I2 q2) λf s3 q3=>?_);cases f with
  |next=>
   let⟨σ3,H3,I3,n3⟩:=q3;let⟨m',hm,w3⟩:=hN σ3 H3 n3;exact⟨m',hm,σ3,H3,I3,w3⟩
  |cont=>
   let⟨σ3,H3,I3,n3⟩:=q3;let⟨m',hm,w3⟩:=hN σ3 H3 n3;exact⟨m',hm,σ3,H3,I3,w3⟩
  |brk=>exact q3
  |ret v=>exact q3
 |false=>
  rw[if_neg Bool.false_ne_true];exact wpAny_execs_nil ⟨σ1,H2,I2,q2⟩
structure It where
 go:Nat->Hp->Prop
 yld:Nat->Hp->V->Hp->Prop
 stop:Nat->Hp->Prop
def  jQ(X:Cx)(pins:UW)(H:Hp)(b:Addr):Prop:=
 H b=none/\b≠X.env.locals/\b ∉ X.fs/\(b∈X.ex\/X.s₀.heap.objs.size<=b)/\(∀x c,X.env.cells.lookup x=!c->c≠b)/\∀p∈X.pn++pins,p.1≠b
def Inv.fpOk{σ:St}{b:Addr}(I:Inv X pins σ H s)(g:s.heap.objs.size<=b)(l:H' b=none):jQ X pins H' b:=by
 refine⟨l,Nat.ne_of_gt (Vl I.lt g),I.nofs g,.inr (Vn I.sz g),λx c e z=>?_,λp j z=>?_⟩
 .let⟨v,q⟩:=I.cell x c e;exact absurd (Vl q.lt (by rw[z];exact g)) (Vt _)
 .exact absurd (Vl (Ve (I.pin p j).1) (by rw[z];exact g)) (Vt _)
structure Turn(P:Program)(w:World)(K:Frag)(tg:Expr)(J:It)(fp:List Addr)(it:Addr)(tn:Nat->Heap->Prop):Prop where
 mem:it∈fp
 obj:∀i h,tn i h->∀b∈fp,∃o,h.get? b=!o/\∀v,o.data≠.cell v
 keep:∀i h h',tn i h->(∀b∈fp,∀o,h.get? b=!o->h'.get? b=!o)->tn i h'
 item:∀(X:Cx),X.prog=P->X.w=w->X.K=K->X.calm=true->∀(i:Nat)(pins:UW)(s:Shared)(σ:St)(H:Hp)(E:UZ),Inv X pins σ H s->(∀b∈fp,jQ X pins H b)->tn i s.heap->J.go i H->
  wpAny (model P w) X.A (pyNext (.ref it)) (λr s1=>∃u,r=!u/\
   wpAny (model P w) X.A (letOwnedTupleGo tg (.ref it) u) (λ_ s2=>∃x H',Inv X pins σ H' s2/\RelV x u/\J.yld i H x H'/\tn (i+1) s2.heap/\∀b∈fp,H' b=none) E s1) E s
 done:∀(X:Cx),X.prog=P->X.w=w->X.K=K->X.calm=true->∀(i:Nat)(pins:UW)(s:Shared)(σ:St)(H:Hp)(E:UZ),Inv X pins σ H s->(∀b∈fp,jQ X pins H b)->tn i s.heap->J.stop i H->
  wpAny (model P w) X.A (pyNext (.ref it)) (λr s1=>r=none/\Inv X pins σ H s1) E s
 self:∀(A:Around)(i:Nat)(s:Shared)(Q:UZ)(E:UZ),tn i s.heap->Q (.ref it) s->wpAny (model P w) A (pyIter (.ref it)) Q E s
noncomputable abbrev TI:=St->Hp->(It->Hp->Prop)->Prop
def  Sw(X:Cx)(pins:UW)(σ:St)(tg:Expr)(R:It->Hp->Prop)(itv:Value)(s2:Shared):Prop:=
 ∃(it:Addr)(fp:List Addr)(tn:Nat->Heap->Prop)(J:It)(H':Hp),itv=.ref it/\Inv X pins σ H' s2/\Turn X.prog X.w X.K tg J fp it tn/\tn 0 s2.heap/\(∀b∈fp,jQ X pins H' b)/\R J H'
def  PI(X:Cx)(tg iter:Expr)(wi:TI):Prop:=
 ∀(pins:UW)(s:Shared)(σ:St)(H:Hp)(R:It->Hp->Prop),Inv X pins σ H s->wi σ H R->
  wpAny (!4) X.A (eval iter X.env) (λv s1=>wpAny (!4) X.A (pyIter v) (Sw X pins σ tg R) X.xe s1) X.xe s
def wL(p:s.heap.get? l = !o)(t:o.cls = .type n)(hd:o.data = .fields j)(r:["enumerate", "zip", "dict_itemiterator", "dict_reverseitemiterator", "odict_iterator", "itertools.zip_longest", "itertools.pairwise"].contains n = false)(g:Q () s):wpAny M A (letOwnedTupleGo tg (.ref l) u) Q E s:=by
  cases tg <;> first
    | exact Vd g
    | (cases u <;> first
        | exact Vd g
        | (refine Vb (wpAny_load p ?_)
           rw [t,hd]
           show wpAny M A (if (["enumerate", "zip", "dict_itemiterator", "dict_reverseitemiterator", "odict_iterator", "itertools.zip_longest", "itertools.pairwise"].contains n && j[0]? == !(rawInt _)) = true then _ else _) Q E s
           rw [if_neg (by intro h; rw [r,Bool.false_and] at h; cases h)]
           exact Vd g))
noncomputable def  Pd(K:Frag)(a:Addr):It:=
 ⟨λi H=>∃xs x,SqL K H a xs/\xs[i]?=!x,λi H x H'=>H'=H/\∀xs,SqL K H a xs->xs[i]?=!x,λi H=>∃xs,SqL K H a xs/\xs.length<=i⟩
noncomputable def  Pf(K:Frag)(a:Addr):It:=
 ⟨λi H=>∃xs x,SqT K H a xs/\xs[i]?=!x,λi H x H'=>H'=H/\∀xs,SqT K H a xs->xs[i]?=!x,λi H=>∃xs,SqT K H a xs/\xs.length<=i⟩
def  Pg(lo:Int)(n:Nat):It:=⟨λi _=>i<n,λi H x H'=>H'=H/\x=.int (lo+i),λi _=>n<=i⟩
def yu{P:Program}{w:World}{K:Frag}{tg:Expr}(a g:Addr):Turn P w K tg (Pd K a) [g] g (λi h=>h.IsListIter g a i) where
 mem:=by simp
 obj:=λi h st b j=>by
  have e:b=g:=by simpa using j
  subst e;let⟨o,e,c,d⟩:=st;exact⟨o,e,λv z=>by rw[d]at z;cases z⟩
 keep:=λi h h' st k=>st.at λo e=>k g (by simp) o e
 item:=by
  intro X hP T hK hc i pins s σ H E I t st U;subst hP T hK;let⟨xs,x,r,J⟩:=U;let⟨C,rv,p,hz⟩:=I.list r;let⟨u,hu,ru⟩:=rv.get J;let⟨f0,f1,f2,f3,f4,f5⟩:=t g (by simp);refine wpAny_pyNext_list_item st p.isList (by simpa using hu) λh' l sb=>?_;have I1:Inv X pins σ H {s with heap:=h'}:=I.turned (λb o j e=>(sb.2 b j).trans e) f0 f1 f3 f4 f5;let⟨o,e,c,d⟩:=id l;exact⟨u,rfl,wL e c d (!3) ⟨x,H,I1,ru,⟨rfl,λys hy=>by rw[I.list_inj hy r];exact J⟩,l,λb j=>(t b j).1⟩⟩
 done:=by
  intro X hP T hK hc i pins s σ H E I t st U;subst hP T hK;let⟨xs,r,J⟩:=U;let⟨C,rv,p,hz⟩:=I.list r;let⟨f0,f1,f2,f3,f4,f5⟩:=t g (by simp);have hl:=rv.length;exact wpAny_pyNext_list_end (I.ok.hd hc) st p.isList (by simp;omega) λh' eb=>⟨rfl,I.turned (λb o j e=>eb b o j e) f0 f1 f3 f4 f5⟩
 self:=λ_ _ _ _ _ st h=>wpAny_pyIter_listiter st h
def uV{P:Program}{w:World}{K:Frag}{tg:Expr}(a g:Addr):Turn P w K tg (Pf K a) [g] g (λi h=>h.IsTupleIter g a i) where
 mem:=by simp
 obj:=λi h st b j=>by
  have e:b=g:=by simpa using j
  subst e;let⟨o,e,c,d⟩:=st;exact⟨o,e,λv z=>by rw[d]at z;cases z⟩
 keep:=λi h h' st k=>st.at λo e=>k g (by simp) o e
 item:=by
  intro X hP T hK hc i pins s σ H E I t st U;subst hP T hK;let⟨xs,x,r,J⟩:=U;let⟨C,rv,p,hz⟩:=I.tuple r;let⟨u,hu,ru⟩:=rv.get J;let⟨f0,f1,f2,f3,f4,f5⟩:=t g (by simp);refine wpAny_pyNext_tuple_item st (p) (by simpa using hu) λh' l sb=>?_;have I1:Inv X pins σ H {s with heap:=h'}:=I.turned (λb o j e=>(sb.2 b j).trans e) f0 f1 f3 f4 f5;let⟨o,e,c,d⟩:=id l;exact⟨u,rfl,wL e c d (!3) ⟨x,H,I1,ru,⟨rfl,λys hy=>by rw[I.tuple_inj hy r];exact J⟩,l,λb j=>(t b j).1⟩⟩
 done:=by
  intro X hP T hK hc i pins s σ H E I t st U;subst hP T hK;let⟨xs,r,J⟩:=U;let⟨C,rv,p,hz⟩:=I.tuple r;let⟨f0,f1,f2,f3,f4,f5⟩:=t g (by simp);have hl:=rv.length;exact wpAny_pyNext_tuple_end (I.ok.hd hc) st (p) (by simp;omega) λh' eb=>⟨rfl,I.turned (λb o j e=>eb b o j e) f0 f1 f3 f4 f5⟩
 self:=λ_ _ _ _ _ st h=>wpAny_pyIter_tupleiter st h
def uW{P:Program}{w:World}{K:Frag}{tg:Expr}(g:Addr)(lo:Int)(n:Nat):Turn P w K tg (Pg lo n) [g] g (λi h=>IsRangeIter h g (lo+(i:Nat)*1) ((n:Int)-(i:Nat)) 1) where
 mem:=by simp
 obj:=λi h st b j=>by
  have e:b=g:=by simpa using j
  subst e;exact⟨_,st,λv z=>by
   have z':=z;cases z'⟩
 keep:=λi h h' st k=>k g (by simp) _ st
 item:=by
  intro X hP hw hK C i pins s σ H E I p st r;subst hP hw hK;let⟨f0,f1,f2,U,T,J⟩:=p g (by simp);have W:=Walks.range (prog:=X.prog) (w:=X.w) (I.ok.hd C) g lo 1 n;refine W.item i s _ _ r st λv h' tk hv l kk=>?_;let⟨t,rfl⟩:=hv;have I1:Inv X pins σ H {s with heap:=h',toks:=tk}:=I.turned (λb o j e=>kk b o (by simpa using j) e) f0 f1 U T J;refine⟨_,rfl,wL l rfl rfl (!3) ⟨.int _,H,I1,⟨t,?_⟩,⟨rfl,rfl⟩,l,λb j=>(p b j).1⟩⟩;rw[Int.mul_one]
 done:=by
  intro X hP hw hK C i pins s σ H E I p st r;let⟨f0,f1,f2,U,T,J⟩:=p g (by simp);exact wpAny_pyNext_range_end (I.ok.hd C) st (by have:n<=i:=r;omega) λh' eb=>⟨rfl,I.turned (λb o j e=>eb b o j e) f0 f1 U T J⟩
 self:=λ_ _ _ _ _ st h=>wpAny_pyIter_rangeiter st h
section
variable{X:Cx}{tg:Expr}
def zR{σ:St}{lo hi}(I:Inv X pins σ H s)(h1:-(2^62)<=lo)(h2:lo<2^62)(h3:-(2^62)<=hi)(h4:hi<2^62)(q:R (Pg lo (hi-lo).toNat) H):wpAny (!4) X.A (pyIter (.ref s.heap.objs.size)) (Sw X pins σ tg R) E {s with heap:=s.heap.push {cls:=.type "range",data:=.fields #[.int lo t,.int hi u,.int 1 v]},toks:=tk}:=by
 refine wpAny_pyIter_range (IsRange.new ..) (small_one h1 h2 h3 h4) ?_;have I1:Inv X pins σ H {s with heap:=s.heap.push {cls:=.type "range",data:=.fields #[.int lo t,.int hi u,.int 1 v]},toks:=tk}:=I.kept λb o e=>Vc _ e;refine⟨(s.heap.push {cls:=.type "range",data:=.fields #[.int lo t,.int hi u,.int 1 v]}).objs.size,[(s.heap.push {cls:=.type "range",data:=.fields #[.int lo t,.int hi u,.int 1 v]}).objs.size],_,_,H,rfl,
  I1.kept λb o e=>Vc _ e,uW _ lo (hi-lo).toNat,?_,λb hb=>?_,q⟩
 .have e1:lo+((0:Nat):Int)*1=lo:=by simp
  have e2:(((hi-lo).toNat:Nat):Int)-((0:Nat):Int)=Builtin.Range.rangeSize lo hi 1:=by rw[rangeSize_one];split<;>omega
  rw[e1,e2];exact Vf _ rfl
 .have e:b=(s.heap.push {cls:=.type "range",data:=.fields #[.int lo t,.int hi u,.int 1 v]}).objs.size:=by simpa using hb
  subst e;exact I1.fpOk (Vy _) (I1.hok.fresh (Vy _))
def  LU(ta:TA):TI:=λσ H R=>ta σ H λvs H1=>∃j:Int,vs=[.int j]/\ -(2^62)<=j/\j<2^62/\R (Pg 0 j.toNat) H1
def yw(U:Gl X "range")(T:X.mg "range"=none)(ha:PA X [a] ta)(J:starEach [a] X.env=[(false,eval a X.env)]:=by rfl):PI X tg (.Call (.Name "range" p) [a] [] pos) (LU ta):=by
 intro pins s σ H R I h;refine Call_ (dI I U T boot_range (PyProof.Rows.callWith_type1 (bq (ha pos pins s σ H _ I h) λus s1 ⟨vs,H1,I1,o,g⟩=>?_) J rfl));let⟨j,e,g,C,q⟩:=g;subst e;cases o with
 |cons r l=>
  cases l;let⟨t,rfl⟩:=r;exact call_range_1 (zR I1 (!1) (!1) g C (by simpa using q))
def  LV(wi:TI)(g:TG)(tb:TS):TS:=λD σ H=>wi σ H λJ H1=>∃W:Nat->Nat->St->Hp->Prop,(∃m,W 0 m σ H1)/\∀i m σ H,W i m σ H->
 (J.stop i H/\D.nx σ H)\/(J.go i H/\∃N:St->Hp->Prop,(∀σ' H',N σ' H'->∃m',m'<m/\W (i+1) m' σ' H')/\∀x H',J.yld i H x H'->g x σ H' λσ2 H2=>tb {D with nx:=N,ct:=N,bk:=D.nx} σ2 H2)
def  nn(fp:List Addr)(h:Heap):UW:=fp.filterMap λb=>(h.get? b).map λo=>(b,o)
def gC(g:b∈fp)(e:h.get? b=!o):(b,o)∈nn fp h:=List.mem_filterMap.mpr ⟨b,g,by rw[e];rfl⟩
def yx(g:p∈nn fp h):p.1∈fp/\h.get? p.1=!p.2:=by
 let⟨b,j,e⟩:=List.mem_filterMap.mp g;cases q:h.get? b with
 |none=>rw[q]at e;cases e
 |some o=>
  rw[q]at e;have l:=Option.some.inj e;subst l;exact⟨j,q⟩
def Inv.pinned{σ:St}(I:Inv X pins σ H s)(t:∀b∈fp,jQ X pins H b)(r:∀b∈fp,∃o,s.heap.get? b=!o/\∀v,o.data≠.cell v):Inv X (pins++nn fp s.heap) σ H s:=
 I.pins_of λp l=>(mem_append.mp l).elim (λz=>I.pin p (Vs _ z)) λz=>by
  let⟨g,e⟩:=yx z;let⟨C,f1,f2,_⟩:=t p.1 g;let⟨o,j,d⟩:=r p.1 g;rw[e]at j;cases j;exact⟨e,C,f1,f2,d⟩
def Inv.unpinned{σ:St}(I:Inv X (pins++pl) σ H s):Inv X pins σ H s:=I.pins_of λp g=>I.pin p (Vs _ (Vr _ g))
def uX(hp:PassesOwn (!4) X.A X.env X.xe)(hc:X.calm=true)(hi:PI X tg iter wi)(hg:PG X tg g)(C:PSs X body tb)(hs:∀x,foldedSetIterable iter X.env x=pure x:=by intro _;rfl):PS X (.For tg iter body [] pos) (LV wi g tb):=by
 intro pins s σ H D I h
 refine wpAny_For (bq (hi pins s σ H _ I h) λv s1 h1=>bq h1 λitv s2 h2=>?_) hs
 let⟨it,fp,tn,J,H2,e,I2,T,Ln,f2,W,⟨m0,w0⟩,turn⟩:=h2
 subst e
 -- what stays true of the iterator's objects through the loop
 have t:∀{H':Hp},(∀b∈fp,H' b=none)->∀b∈fp,jQ X pins H' b:=λhn b C=>⟨hn b C,(f2 b C).2⟩
 refine codeAny_forLoop_any (λn s'=>∃i p H',Inv X pins p H' s'/\tn i s'.heap/\(∀b∈fp,H' b=none)/\W i n p H') ?_ m0 ⟨0,σ,H2,I2,Ln,λb C=>(f2 b C).1,w0⟩
 rintro n s3 ⟨i,l,H3,I3,GW,fr3,w3⟩
 rcases turn i n l H3 w3 with⟨stop,qn⟩|⟨go,N,hN,step⟩
 .refine wpAny_passesOwn hp (bq (T.done X rfl rfl rfl hc i pins s3 l H3 X.xe I3 (t fr3) GW stop) λr s4 ⟨hr,I4⟩=>?_)
  subst hr
  exact wpAny_execs_nil ⟨l,H3,I4,qn⟩
 .refine wpAny_passesOwn hp (bq (T.item X rfl rfl rfl hc i pins s3 l H3 X.xe I3 (t fr3) GW go) λr s4 ⟨u,hr,h4⟩=>?_)
  subst hr
  refine wpAny_passesOwn hp (bq h4 λ_ s5 ⟨x,H5,I5,r5,y5,st5,fr5⟩=>?_)
  have I5':=I5.pinned (t fr5) (T.obj _ _ st5)
  refine wpAny_passesOwn hp (bq (hg _ s5 l H5 x u _ I5' r5 (step x H5 y5)) λ_ s6 ⟨σ6,H6,I6,q6⟩=>?_)
  refine wpAny_passesOwn hp (bq (C _ s6 σ6 H6 _ I6 q6) λf s7 q7=>?_)
  have again:∀{j:St}{H7:Hp},Inv X (pins++nn fp s5.heap) j H7 s7->N j H7->∃m,m<n/\∃i p H',Inv X pins p H' s7/\tn i s7.heap/\(∀b∈fp,H' b=none)/\W i m p H':=λ{j H7} U n7=>by
   let⟨m',hm,w7⟩:=hN j H7 n7
   refine⟨m',hm,i+1,j,H7,U.unpinned,T.keep _ _ _ st5 λb C o e=>(U.pin (b,o) (Vs _ (Vs _ (gC C e)))).1,λb C=>?_,w7⟩
   let⟨o,e,d⟩:=T.obj _ _ st5 b C
   exact(U.pin (b,o) (Vs _ (Vs _ (gC C e)))).2.1
  cases f with
  |next=>let⟨j,H7,U,n7⟩:=q7;exact again U n7
  |cont=>let⟨j,H7,U,n7⟩:=q7;exact again U n7
  |brk=>let⟨j,H7,U,q7⟩:=q7;exact⟨j,H7,U.unpinned,q7⟩
  |ret v=>let⟨x7,j,H7,U,r7,q7⟩:=q7;exact⟨x7,j,H7,U.unpinned,r7,q7⟩
end
abbrev R2:=V->V->Hp->VK->Prop
def  OpR(X:Cx)(f:Value->Value->Sem Value)(r:R2):Prop:=
 ∀(pins:UW)(s:Shared)(σ:St)(H:Hp)(x y:V)(v u:Value)(Q:VK),Inv X pins σ H s->RelV x v->RelV y u->r x y H Q->
  wpAny (!4) X.A (f v u) (EP X pins σ Q) X.xe s
def  Qk(X:Cx)(f:Value->Sem Value)(r:V->Hp->VK->Prop):Prop:=
 ∀(pins:UW)(s:Shared)(σ:St)(H:Hp)(x:V)(v:Value)(Q:VK),Inv X pins σ H s->RelV x v->r x H Q->
  wpAny (!4) X.A (f v) (EP X pins σ Q) X.xe s
def  eQ(X:Cx)(f:Value)(r:List V->Hp->VK->Prop):Prop:=
 ∀(pins:UW)(s:Shared)(σ:St)(H:Hp)(xs:List V)(us:U0)(Q:VK),Inv X pins σ H s->Vals xs us->r xs H Q->
  wpAny (!4) X.A (call f us) (EP X pins σ Q) X.xe s
def  Ql(X:Cx)(r:V->Hp->(Bool->Hp->Prop)->Prop):Prop:=
 ∀(pins:UW)(s:Shared)(σ:St)(H:Hp)(x:V)(v:Value)(Q:Bool->Hp->Prop),Inv X pins σ H s->RelV x v->r x H Q->
  wpAny (!4) X.A (truthy v) (TP X pins σ Q) X.xe s
def  LW(r:R2)(ta tb:TE):TE:=λσ H Q=>ta σ H λx H1=>tb σ H1 λy H2=>r x y H2 Q
def  T5(r:V->Hp->VK->Prop)(ta:TE):TE:=λσ H Q=>ta σ H λx H1=>r x H1 Q
def  rI(C:Int->Int->Prop)(g:Int->Int->V):R2:=λx y H Q=>∃i j,x=.int i/\y=.int j/\C i j/\Q (g i j) H
def  sA(g:Int->Int->V):R2:=λx y H Q=>∃i j,x=.int i/\y=.int j/\Q (g i j) H
def  rU(g:Int->V):V->Hp->VK->Prop:=λx H Q=>∃i,x=.int i/\Q (g i) H
section
variable{X:Cx}{a b c:Expr}{ta tb tc:TE}{pos:Pos}
def Ie(t:PE X a ta)(r:PE X b tb){σ:St}{R:V->V->Hp->Prop}(I:Inv X pins σ H s)(h:ta σ H λx H1=>tb σ H1 λy H2=>R x y H2){f:Value->Value->Sem Value}(hf:∀v u l x y H2,Inv X pins σ H2 l->RelV x v->RelV y u->R x y H2->wpAny (!4) X.A (f v u) Q X.xe l):
  wpAny (!4) X.A (eval a X.env) (λv j=>wpAny (!4) X.A (eval b X.env) (λu g=>wpAny (!4) X.A (f v u) Q X.xe g) X.xe j) X.xe s:=by
 refine bq (t pins s σ H _ I h) λv o ⟨x,H1,C,T,p⟩=>?_
 refine bq (r pins o σ H1 _ C p) λu l ⟨y,H2,I2,J,U⟩=>?_
 grind
def GY(l:OpR X (binaryOp op) r)(p:PE X a ta)(o:PE X b tb):PE X (.BinOp a op b pos) (LW r ta tb):=by
 intro pins s σ H Q I h;exact wpAny_BinOp (Ie p o I h λv u g x y H2 t rx j q=>l pins g σ H2 x y v u Q t rx j q)
def LX(o:Qk X (unaryOp op) r)(p:PE X a ta):PE X (.UnaryOp op a pos) (T5 r ta):=by
 intro pins s σ H Q I h;exact UnaryOp_ (bq (p pins s σ H _ I h) λv g ⟨x,H1,t,j,l⟩=>o pins g σ H1 x v Q t j l)
def Ph{g:Int->Int->Int}(rule:∀(i j:Int)(t u:Tok)(s:Shared)(Q:UZ)(E:UZ),C i j->Q (.int (g i j) s.toks) {s with toks:=s.toks+1}->wpAny (!4) X.A (f (.int i t) (.int j u)) Q E s):
  OpR X f (rI C λi j=>.int (g i j)):=by
 intro pins s σ H x y v u Q I rx ry h
 let⟨i,j,rfl,rfl,hc,q⟩:=h
 let⟨t,rfl⟩:=rx
 let⟨t',rfl⟩:=ry
 exact rule i j t t' s _ _ hc ⟨.int (g i j),H,I.tok _,⟨_,rfl⟩,q⟩
def LY{g:Int->Int->Int}(rule:∀(i j:Int)(t u:Tok)(s:Shared)(Q:UZ)(E:UZ),Q (.int (g i j) s.toks) {s with toks:=s.toks+1}->wpAny (!4) X.A (f (.int i t) (.int j u)) Q E s):
  OpR X f (sA λi j=>.int (g i j)):=by
 intro pins s σ H x y v u Q I rx ry h
 let⟨i,j,rfl,rfl,q⟩:=h
 let⟨t,rfl⟩:=rx
 let⟨t',rfl⟩:=ry
 exact rule i j t t' s _ _ ⟨.int (g i j),H,I.tok _,⟨_,rfl⟩,q⟩
def DS{g:Int->Int->Bool}(rule:∀(i j:Int)(t u:Tok)(s:Shared)(Q:UZ)(E:UZ),Q (.bool (g i j)) s->wpAny (!4) X.A (f (.int i t) (.int j u)) Q E s):
  OpR X f (sA λi j=>.bl (g i j)):=by
 intro pins s σ H x y v u Q I rx o h
 let⟨i,j,rfl,rfl,q⟩:=h
 let⟨t,rfl⟩:=rx
 let⟨l,rfl⟩:=o
 exact rule i j t l s _ _ ⟨.bl (g i j),H,I,rfl,q⟩
def  zS(i j:Int):Prop:=0<=j/\j<=1000000/\i.natAbs<2^64
def  CMul(i j:Int):Prop:=(-(2^64)<i/\i<2^64)\/(-(2^64)<j/\j<2^64)
def CMul.ok(h:CMul i j):IntMulOk i j:=by
 rcases h with⟨h1,h2⟩|⟨h1,h2⟩
 .exact .of_left (intBits_le_64 h1 h2)
 .exact .of_right (intBits_le_64 h1 h2)
def Ig:OpR X (binaryOp .Add) (sA λi j=>.int (i+j)):=LY λ_ _ _ _ _ _ _ q=>add_int q
def Ih:OpR X (binaryOp .Sub) (sA λi j=>.int (i-j)):=LY λ_ _ _ _ _ _ _ q=>sub_int q
def Ii:OpR X (binaryOp .Mult) (rI CMul λi j=>.int (i*j)):=Ph λ_ _ _ _ _ _ _ g q=>mul_int q g.ok
def Ij:OpR X (binaryOp .Mod) (rI (λ_ j=>0<j) λi j=>.int (i%j)):=Ph λi j _ _ _ _ _ g q=>by
 exact mod_int' (!1) (by rw[Int.fmod_eq_emod_of_nonneg i (!1)];exact q)
def Ik:OpR X (binaryOp .Pow) (rI zS λi j=>.int (i^j.toNat)):=Ph λ_ _ _ _ _ _ _ hc q=>pow_int_small hc.1 hc.2.1 hc.2.2 q
def T6{g:Int->Int}(rule:∀(i:Int)(t:Tok)(s:Shared)(Q:UZ)(E:UZ),Q (.int (g i) s.toks) {s with toks:=s.toks+1}->wpAny (!4) X.A (f (.int i t)) Q E s):
  Qk X f (rU λi=>.int (g i)):=by
 intro pins s σ H x v Q I rx h
 let⟨i,rfl,q⟩:=h
 let⟨t,rfl⟩:=rx
 exact rule i t s _ _ ⟨.int (g i),H,I.tok _,⟨_,rfl⟩,q⟩
def Il:Qk X (unaryOp .USub) (rU λi=>.int (-i)):=T6 λ_ _ _ _ _ q=>neg_int q
end
noncomputable def  zT:V->V->Bool
 |.non,.non=>true|.non,.int _=>true|.int _,.non=>true|.non,.bl _=>true|.bl _,.non=>true|.non,.str _=>true|.str _,.non=>true
 |.int _,.int _=>true|.bl _,.bl _=>true|.str _,.str _=>true|.byt _,.byt _=>true
 |.int _,.str _=>true|.str _,.int _=>true|.bl _,.str _=>true|.str _,.bl _=>true
 |_,_=>false
def  T7:R2:=λx y H Q=>zT x y=true/\Q (.bl (decide (x=y))) H
def  T9:R2:=λx y H Q=>zT x y=true/\Q (.bl (not (decide (x=y)))) H
def wM:decide (V.int i=V.int j)=(i==j):=by
 rw[Bool.eq_iff_iff];simp
def dec_bl:decide (V.bl i=V.bl j)=(i==j):=by
 rw[Bool.eq_iff_iff];simp
def wN:decide (V.str i=V.str j)=(i==j):=by
 rw[Bool.eq_iff_iff];simp
def wO:decide (V.byt i=V.byt j)=(i.toList==j.toList):=by
 rw[Bool.eq_iff_iff];cases i;cases j;simp
section
variable{X:Cx}{a b c:Expr}{ta tb tc:TE}{pos:Pos}
def fin_bl{σ:St}(I:Inv X pins σ H s)(q:Q (.bl k) H)(e:k=g):EP X pins σ Q (.bool g) s:=by
 subst e;exact⟨.bl k,H,I,rfl,q⟩
def LZ:OpR X (compareOp .Eq) T7:=by
 intro pins s σ H x y v u Q I rx g h;let⟨o,q⟩:=h;cases x with
 |non=>
  cases rx;cases y with
  |non=>cases g;exact PySem.EqNone.eq_none_none (!10)
  |bl j=>cases g;exact PySem.EqNone.eq_none_bool (!10)
  |int j=>let⟨l,rfl⟩:=g;exact PySem.EqNone.eq_none_int (!10)
  |str j=>let⟨l,rfl⟩:=g;exact PySem.EqNone.eq_none_str (!10)
  |_=>exact absurd (o) Vg
 |bl i=>
  cases rx;cases y with
  |non=>cases g;exact PySem.EqNone.eq_bool_none (!10)
  |bl j=>cases g;exact eq_bool (fin_bl I q dec_bl)
  |str j=>let⟨l,rfl⟩:=g;exact PySem.EqMixed.eq_bool_str (!10)
  |_=>exact absurd (o) Vg
 |int i=>
  let⟨t,rfl⟩:=rx;cases y with
  |non=>cases g;exact PySem.EqNone.eq_int_none (!10)
  |int j=>let⟨l,rfl⟩:=g;exact eq_int (fin_bl I q wM)
  |str j=>let⟨l,rfl⟩:=g;exact PySem.EqMixed.eq_int_str (!10)
  |_=>exact absurd (o) Vg
 |str i=>
  let⟨t,rfl⟩:=rx;cases y with
  |non=>cases g;exact PySem.EqNone.eq_str_none (!10)
  |bl j=>cases g;exact PySem.EqMixed.eq_str_bool (!10)
  |int j=>let⟨l,rfl⟩:=g;exact PySem.EqMixed.eq_str_int (!10)
  |str j=>let⟨l,rfl⟩:=g;exact eq_str (fin_bl I q wN)
  |_=>exact absurd (o) Vg
 |byt i=>
  let⟨t,rfl⟩:=rx;cases y with
  |byt j=>let⟨l,rfl⟩:=g;exact PySem.W.eq_bytes (fin_bl I q wO)
  |_=>exact absurd (o) Vg
 |_=>cases y<;>exact absurd (show false=true from o) Vg
def L0:OpR X (compareOp .NotEq) T9:=by
 intro pins s σ H x y v u Q I rx g h;let⟨o,q⟩:=h;cases x with
 |non=>
  cases rx;cases y with
  |non=>cases g;exact PySem.EqNone.ne_none_none (!10)
  |bl j=>cases g;exact PySem.EqNone.ne_none_bool (!10)
  |int j=>let⟨l,rfl⟩:=g;exact PySem.EqNone.ne_none_int (!10)
  |str j=>let⟨l,rfl⟩:=g;exact PySem.EqNone.ne_none_str (!10)
  |_=>exact absurd (o) Vg
 |bl i=>
  cases rx;cases y with
  |non=>cases g;exact PySem.EqNone.ne_bool_none (!10)
  |bl j=>cases g;exact ne_bool (fin_bl I q (congrArg not dec_bl))
  |str j=>let⟨l,rfl⟩:=g;exact PySem.EqMixed.ne_bool_str (!10)
  |_=>exact absurd (o) Vg
 |int i=>
  let⟨t,rfl⟩:=rx;cases y with
  |non=>cases g;exact PySem.EqNone.ne_int_none (!10)
  |int j=>let⟨l,rfl⟩:=g;exact ne_int (fin_bl I q (congrArg not wM))
  |str j=>let⟨l,rfl⟩:=g;exact PySem.EqMixed.ne_int_str (!10)
  |_=>exact absurd (o) Vg
 |str i=>
  let⟨t,rfl⟩:=rx;cases y with
  |non=>cases g;exact PySem.EqNone.ne_str_none (!10)
  |bl j=>cases g;exact PySem.EqMixed.ne_str_bool (!10)
  |int j=>let⟨l,rfl⟩:=g;exact PySem.EqMixed.ne_str_int (!10)
  |str j=>let⟨l,rfl⟩:=g;exact ne_str (fin_bl I q (congrArg not wN))
  |_=>exact absurd (o) Vg
 |byt i=>
  let⟨t,rfl⟩:=rx;cases y with
  |byt j=>let⟨l,rfl⟩:=g;exact PySem.W.ne_bytes (fin_bl I q (congrArg not wO))
  |_=>exact absurd (o) Vg
 |_=>cases y<;>exact absurd (show false=true from o) Vg
def op_lt:OpR X (compareOp .Lt) (sA λi j=>.bl (decide (i<j))):=DS λ_ _ _ _ _ _ _ q=>lt_int q
def pS:OpR X (compareOp .LtE) (sA λi j=>.bl (decide (i<=j))):=DS λ_ _ _ _ _ _ _ q=>le_int q
def op_gt:OpR X (compareOp .Gt) (sA λi j=>.bl (decide (j<i))):=DS λ_ _ _ _ _ _ _ q=>gt_int q
def GZ:OpR X (compareOp .GtE) (sA λi j=>.bl (decide (j<=i))):=DS λ_ _ _ _ _ _ _ q=>ge_int q
def op_isN:OpR X (compareOp .Is) (λx y H Q=>y=.non/\Q (.bl (decide (x=.non))) H):=by
 intro pins s σ H x y v u Q I rx g h;let⟨rfl,q⟩:=h;cases g;refine is_none_gen (fin_bl I q ?_);cases x<;>first
  |(cases rx;rfl)
  |(let⟨t,rfl⟩:=rx;rfl)
def op_notN:OpR X (compareOp .IsNot) (λx y H Q=>y=.non/\Q (.bl (not (decide (x=.non)))) H):=by
 intro pins s σ H x y v u Q I rx ry h;let⟨rfl,q⟩:=h;cases ry;refine isnot_none_gen (fin_bl I q ?_);cases x<;>first
  |(cases rx;rfl)
  |(let⟨t,rfl⟩:=rx;rfl)
def OpR.or(h:OpR X f r)(h':OpR X f j):OpR X f (λx y H Q=>r x y H Q\/j x y H Q):=by
 intro pins s σ H x y v u Q I rx g q;rcases q with q|q
 .exact h pins s σ H x y v u Q I rx g q
 .exact h' pins s σ H x y v u Q I rx g q
def dJ(b:Expr)(h:op≠.In:=by decide)(h2:op≠.NotIn:=by decide):behindInMarks op b=false:=by
 have g:(op==CmpOp.In)=false:=by cases op<;>first|rfl|exact absurd rfl h
 have e2:(op==CmpOp.NotIn)=false:=by cases op<;>first|rfl|exact absurd rfl h2
 cases b<;>simp[behindInMarks,g,e2]
def DT(l:OpR X (compareOp op) r)(t:PE X a ta)(p:PE X b tb)(o:behindInMarks op b=false):PE X (.Compare a [op] [b] pos) (LW r ta tb):=by
 intro pins s σ H Q I h;exact wpAny_Compare1 (Ie t p I h λv u g x y H2 C rx j q=>l pins g σ H2 x y v u Q C rx j q) o
def  Ha(t:TE):TT:=λσ H Q=>t σ H λx H'=>∃k,x=.bl k/\Q k H'
def DU(T:OpR X (compareOp op) r)(ha:PE X a ta)(hb:PE X b tb)(U:behindInMarks op b=false):PT X (.Compare a [op] [b] pos) (Ha (LW r ta tb)):=by
 intro pins s σ H Q I h;refine wpAny_isTrue_Compare1 (bq (ha pins s σ H _ I h) λv j ⟨x,H1,I1,p,J⟩=>bq (hb pins j σ H1 _ I1 J) λu g ⟨y,H2,I2,o,C⟩=>
  bq (T pins g σ H2 x y v u _ I2 p o C) λc s3 ⟨z,H3,I3,l,k,e,t⟩=>?_) U
 subst e;cases l;exact wpAny_truthy_bool ⟨H3,I3,t⟩
def  uY(r r':R2)(ta tb tc:TE):TE:=λσ H Q=>ta σ H λx H1=>tb σ H1 λy H2=>r x y H2 λz H3=>∃k,z=.bl k/\
 (if k=true then tc σ H3 λw' H4=>r' y w' H4 Q else Q (.bl false) H3)
def zU(ho:OpR X (compareOp op) r)(ho':OpR X (compareOp op') r')(ha:PE X a ta)(hb:PE X b tb)(hc:PE X c tc)(hm:lastMarks [op,op'] [b,c]=false:=by with_unfolding_all rfl):PE X (.Compare a [op,op'] [b,c] pos) (uY r r' ta tb tc):=by
 intro pins s σ H Q I h;refine Compare_chain (bq (ha pins s σ H _ I h) λv s1 ⟨x,H1,I1,r1,q1⟩=>chain_link (bq (hb pins s1 σ H1 _ I1 q1) λu s2 ⟨y,H2,I2,r2,q2⟩=>
  bq (ho pins s2 σ H2 x y v u _ I2 r1 r2 q2) λd s3 ⟨z,H3,I3,r3,k,e,q3⟩=>?_)) hm
 subst e;cases r3;refine wpAny_truthy_bool ?_;cases k with
 |false=>exact ite_ff ⟨.bl false,H3,I3,rfl,q3⟩
 |true=>exact ite_tt (chain_last (bq (hc pins s3 σ H3 _ I3 q3) λw' s4 ⟨z',H4,I4,r4,q4⟩=>ho' pins s4 σ H4 y z' u w' Q I4 r2 r4 q4))
def zV(ho:OpR X (compareOp op) r)(ho':OpR X (compareOp op') r')(ha:PE X a ta)(hb:PE X b tb)(hc:PE X c tc)(hm:lastMarks [op,op'] [b,c]=false:=by with_unfolding_all rfl):PT X (.Compare a [op,op'] [b,c] pos) (Ha (uY r r' ta tb tc)):=by
 intro pins s σ H Q I h;refine isTrue_chain (bq (ha pins s σ H _ I h) λv s1 ⟨x,H1,I1,r1,q1⟩=>test_link (bq (hb pins s1 σ H1 _ I1 q1) λu s2 ⟨y,H2,I2,r2,q2⟩=>
  bq (ho pins s2 σ H2 x y v u _ I2 r1 r2 q2) λd s3 ⟨z,H3,I3,r3,k,e,q3⟩=>?_)) hm
 subst e;cases r3;refine wpAny_truthy_bool ?_;cases k with
 |false=>
  let⟨k',e',q'⟩:=q3;cases e';exact ite_ff ⟨H3,I3,q'⟩
 |true=>
  refine ite_tt (test_last (bq (hc pins s3 σ H3 _ I3 q3) λw' s4 ⟨z',H4,I4,r4,q4⟩=>bq (ho' pins s4 σ H4 y z' u w' _ I4 r2 r4 q4) λd' s5 ⟨z2,H5,I5,r5,k2,e2,q5⟩=>?_));subst e2;cases r5;exact wpAny_truthy_bool ⟨H5,I5,q5⟩
def  L4(K:Frag)(x:V)(H:Hp)(k:Bool):Prop:=
 match x with
 |.non=>k=false
 |.bl b=>k=b
 |.int i=>k=(i !=0)
 |.str y=>y.length<=sizeLine/\k=((y.length:Int) !=0)
 |.byt y=>y.size<=sizeLine/\k=((y.size:Int) !=0)
 |.ref p=>(∃xs,SqL K H p xs/\k=not xs.isEmpty)\/(∃xs,SqT K H p xs/\k=not xs.isEmpty)\/∃kvs,H p=!(.dK kvs)/\k=not kvs.isEmpty
 |_=>False
def uZ{vs:List (κ×Value)}(r:KV kvs vs):(not vs.isEmpty)=not kvs.isEmpty:=by
 cases r<;>rfl
def np(r:Vals xs its):(not its.toArray.isEmpty)=not xs.isEmpty:=by
 cases r<;>simp
def jS:(sizeLine:Nat)<2^63:=by rw[sizeLine_eq];decide
def Im:Ql X (λx H Q=>∃k,L4 X.K x H k/\Q k H):=by
 intro pins s σ H x v Q I rx h;let⟨k,e,q⟩:=h;have hs:=sizeLine_eq;cases x with
 |non=>
  cases rx;have g:=e;subst g;exact truthy_none ⟨H,I,q⟩
 |bl b=>
  cases rx;have g:=e;subst g;exact wpAny_truthy_bool ⟨H,I,q⟩
 |int i=>
  let⟨t,rfl⟩:=rx;have g:=e;subst g;exact PySem.P.truthy_int ⟨H,I,q⟩
 |str y=>
  let⟨t,rfl⟩:=rx;obtain⟨T,g⟩:y.length<=sizeLine/\k=((y.length:Int) !=0):=e;subst g;exact PySem.P.truthy_str (!1) ⟨H,I.tok _,q⟩
 |byt y=>
  let⟨t,rfl⟩:=rx;obtain⟨T,g⟩:y.size<=sizeLine/\k=((y.size:Int) !=0):=e;subst g;exact PySem.W.truthy_bytes (!1) ⟨H,I.tok _,q⟩
 |ref p=>
  cases rx;have g:(∃xs,SqL X.K H p xs/\k=not xs.isEmpty)\/(∃xs,SqT X.K H p xs/\k=not xs.isEmpty)\/∃kvs,H p=!(.dK kvs)/\k=not kvs.isEmpty:=e;rcases g with⟨xs,l,g⟩|⟨xs,l,g⟩|⟨kvs,l,g⟩
  .subst g;let⟨C,r,pl,J⟩:=I.list l;have j:=r.length;exact wpAny_truthy_list pl.isList (by simp only[size_toArray];omega) ⟨H,I.tok _,by rw[np r];exact q⟩
  .subst g;let⟨C,r,pl,J⟩:=I.tuple l;have j:=r.length;exact truthy_tuple pl (by simp only[size_toArray];omega) ⟨H,I.tok _,by rw[np r];exact q⟩
  .subst g;obtain⟨J,U,o,r,m⟩:kvs.length<=sizeLine/\(p==sysModules)=false/\∃o,KV kvs o/\s.heap.DictOf (eg X.prog X.w) p o:=I.hok p _ l;have j:=Paired.length r;exact wpAny_truthy_dict U m (!1) ⟨H,I.tok _,by rw[uZ r];exact q⟩
 |_=>exact(e).elim
def zW(p:PE X a ta)(o:∀whole,isTrue a X.env whole=(do let v<-whole;standAt a.pos;holding [v] (truthy v))):
  PT X a (λσ H Q=>ta σ H λx H'=>∃k,L4 X.K x H' k/\Q k H'):=by
 intro pins s σ H Q I h
 exact isTrue_plain (bq (p pins s σ H _ I h) λv g ⟨x,H1,r,j,l⟩=>Im pins g σ H1 x v Q r j l) (o _)
def fC(r:Vals [x] g):∃u,g=[u]/\RelV x u:=by
 cases r with
 |cons l j=>cases j;exact⟨_,rfl,l⟩
def zX(r:Vals [x,y] j):∃u g,j=[u,g]/\RelV x u/\RelV y g:=by
 cases r with
 |cons t p=>
  cases p with
  |cons o l=>cases l;exact⟨_,_,rfl,t,o⟩
def yy(l:X.calm=true):eQ X (.builtin "min") (λxs H Q=>∃i j,xs=[.int i,.int j]/\Q (.int (if j<i then j else i)) H):=by
 intro pins s σ H xs p Q I r h;let⟨i,j,rfl,q⟩:=h;let⟨u,o,rfl,⟨t,rfl⟩,⟨C,rfl⟩⟩:=zX r;refine min_two_ints (I.ok.hd l) λh' tk k=>⟨_,H,I.kept k,?_,q⟩;by_cases g:j<i
 .rw[if_pos g,if_pos g];exact⟨_,rfl⟩
 .rw[if_neg g,if_neg g];exact⟨_,rfl⟩
end
structure ObjM(h:Heap)(x dx C:Addr)(mA:Str->U1):Prop where
 obj:h.get? x=!(PySem.W.instObj C dx)
 ns:h.Ns1 dx mA
 ne:dx≠x
def yz{h:Heap}(n:h.Ns1 dx mA):∃j,h.get? dx=!j/\∀name,PySem.W.lookIn name j=!(mA name):=by
 let⟨o,es,J,p,hd,C,_,r⟩:=n;refine⟨o,p,λname=>?_⟩;have e:=r name;unfold nsFind findBy at e;rw[<-Array.find?_toList]at e;unfold PySem.W.lookIn;rw[hd];dsimp only;split
 .rename_i y q;rw[q]at e;exact congrArg some e
 .rename_i q;rw[q]at e;have a:es.toList.any (·.refKey)=false:=by
   rw[List.any_eq_false];intro y l;let⟨z,t,g⟩:=C y (Array.mem_toList_iff.mp l);simp[DictEntry.refKey,g]
  have I:¬es.toList.any (·.refKey)=true:=by rw[a];exact Vg
  rw[if_neg I];exact congrArg some e
def ObjM.look(I:ObjM h x dx C mA):∃g,PySem.W.InstAt h x (PySem.W.instObj C dx) C (!g)/\∀name,PySem.W.lookIn name g=!(mA name):=
 let⟨g,j,l⟩:=yz I.ns
 ⟨g,⟨I.obj,rfl,rfl,j⟩,l⟩
section
variable{prog:Program}{w:World}{A:Around}{E:UZ}{s:Shared}{K:Frag}{x dx C f:Addr}{mA:Str->U1}{name:Str}{v:Value}
def DV(X:K.In s.heap)(I:ObjM s.heap x dx C mA)(hg:PySem.W.plainGet K C name=true)(hh:PySem.W.hasDictIn K C=true)(ha:findIn K (.ref C) name=!none)(hv:mA name=!v)(hv':PySem.W.handedIn v=true)(h:Q v {s with toks:=s.toks+1}):
  wpAny (!7) A (getAttr (.ref x) name expr) Q E s:=by
 let⟨od,J,hl⟩:=I.look
 exact PySem.W.get_value X J (PySem.W.plainGet_of hg).1 (PySem.W.findObj_own hh ha rfl (by rw[hl,hv])) hv' h
def zY(X:K.In s.heap)(I:ObjM s.heap x dx C mA)(g:PySem.W.plainGet K C name=true)(r:findIn K (.ref C) name=!(!(.ref f)))(o:PySem.W.isFn K (.ref f)=true)(l:mA name=none)(h:Q (.ref f,[.ref x]) s):
  wpAny (!7) A (getMethod (.ref x) name pl) Q E s:=by
 let⟨j,J,p⟩:=I.look
 exact PySem.W.method_fn X J (PySem.W.plainGet_of g).1 (PySem.W.plainGet_of g).2 r (beq_iff_eq.mp o) (by show(PySem.W.lookIn name j).map (·.isSome)=!false;rw[p,l];rfl) h
def DW(X:K.In s.heap)(I:ObjM s.heap x dx C mA)(hs:findIn K (.ref C) "__setattr__"=!(!(.builtin "object.__setattr__")))(hp:PySem.W.plainOver K C=true)(ht:PySem.W.takerIn K C name=!none)(hh:PySem.W.hasDictIn K C=true)(hw:PySem.Within mA ns)(hsz:ns.length<=sizeLine)(h:∀h',ObjM h' x dx C (λy=>if y=name then !v else mA y)->Heap.SameBut dx s.heap h'->Q () {s with heap:=h',toks:=s.toks+2}):
  wpAny (!7) A (setAttr (.ref x) name v) Q E s:=by
 let⟨od,J,hl⟩:=I.look
 refine PySem.W.set_plain X J hs (PySem.W.osa_open X J hp ht λb=>?_)
 let⟨cd,hc,hd'⟩:=PySem.W.any_some hh
 have hx:=I.obj
 refine Vb (Vd (Vb (Vb (wpAny_loadPart hx (Vb (PySem.W.Looks.here (PySem.W.looks_clsIn X hc) ?_))))))
 rw[hd']
 refine Vd (Vb (Vd (Vb ?_)))
 refine wpAny_nsSet1 I.ns λh' hn2 hs2=>?_
 let⟨oD,esD,epD,hoD,hdD,hcD⟩:=hn2.count (PySem.Within.cons name v hw)
 refine Vb (wpAny_lookBehind hoD (by rw[hdD];exact pastItsLine_dict (Vn hcD (by rw[length_cons];omega))) ?_)
 exact Vd (h _ ⟨(hs2.2 _ (Ne.symm I.ne)).trans I.obj,hn2,I.ne⟩ hs2)
def zZ(X:K.In s.heap)(hm:PySem.W.makesIn K C=true)(hi:findIn K (.ref C) "__init__"=!(!(.ref f)))(hf:PySem.W.typeIn K (.ref f)=!(.type "function"))(h:codeAny (!7) (A.under (.builtin "type.__call__" ⟨.ref C::vs,kw⟩)) (.call (.ref f) ⟨.ref (!13)::vs,kw⟩) (PySem.W.InitBack (!13) R)
   {s with heap:=(s.heap.push PySem.W.emptyDict).push (PySem.W.instObj C s.heap.objs.size)}):
  codeAny (!7) A (.call (.ref C) ⟨vs,kw⟩) R s:=by
 exact PySem.W.make_core (PySem.W.makes_of X hm) (PySem.W.looks_findIn X hi) (λself=>PySem.W.bind_fn X self hf) (.inl rfl) h
end
noncomputable def  gD(f:Str)(v:V):List (Str×V)->List (Str×V)
 |[]=>[(f,v)]
 |(g,x)::r=>if g=f then(g,v)::r else(g,x)::gD f v r
def lS(f g:Str)(v:V):∀fs:List (Str×V),(gD f v fs).lookup g=if g=f then !v else fs.lookup g
 |[]=>by
  show List.lookup g [(f,v)]=_;by_cases h:g=f
  .have hb:(g==f)=true:=beq_iff_eq.mpr h;simp only[List.lookup,hb,if_pos h]
  .have hb:(g==f)=false:=beq_eq_false_iff_ne.mpr h;simp only[List.lookup,hb,if_neg h]
 |(k,x)::r=>by
  have ih:=lS f g v r;rw[show gD f v ((k,x)::r)=(if k=f then(k,v)::r else(k,x)::gD f v r)from rfl];by_cases hk:k=f
  .rw[if_pos hk];by_cases h:g=k
   .have hb:(g==k)=true:=beq_iff_eq.mpr h;simp only[List.lookup,hb,if_pos (h.trans hk)]
   .have hb:(g==k)=false:=beq_eq_false_iff_ne.mpr h;simp only[List.lookup,hb,if_neg (λe:g=f=>h (e.trans hk.symm))]
  .rw[if_neg hk];by_cases h:g=k
   .have hb:(g==k)=true:=beq_iff_eq.mpr h;simp only[List.lookup,hb,if_neg (λe:g=f=>hk (h.symm.trans e))]
   .have hb:(g==k)=false:=beq_eq_false_iff_ne.mpr h;simp only[List.lookup,hb];exact ih
def lm(f:Str)(v:V):∀fs:List (Str×V),f∈(gD f v fs).map (·.1)/\∀g,g∈fs.map (·.1)->g∈(gD f v fs).map (·.1)
 |[]=>⟨by simp[gD],λg h=>by simp at h⟩
 |(k,x)::r=>by
  let⟨i1,i2⟩:=lm f v r;rw[show gD f v ((k,x)::r)=(if k=f then(k,v)::r else(k,x)::gD f v r)from rfl];by_cases hk:k=f
  .rw[if_pos hk];subst hk;exact⟨by simp,λg h=>by simpa using h⟩
  .rw[if_neg hk];refine⟨?_,λg h=>?_⟩
   .rw[List.map_cons];exact Vj _ i1
   .rw[List.map_cons]at h⊢;rcases mem_cons.mp h with e|e
    .exact mem_cons.mpr (.inl e)
    .exact Vj _ (i2 g e)
def lU(f:Str)(v:V):∀fs:List (Str×V),(gD f v fs).length<=fs.length+1
 |[]=>by simp[gD]
 |(k,x)::r=>by
  have ih:=lU f v r;rw[show gD f v ((k,x)::r)=(if k=f then(k,v)::r else(k,x)::gD f v r)from rfl];by_cases hk:k=f
  .rw[if_pos hk,length_cons,length_cons];omega
  .rw[if_neg hk,length_cons,length_cons];omega
def RelO.some_of(r:RelO (!v) o):∃u,o=!u/\RelV v u:=by
 cases o with
 |none=>exact(r).elim
 |some u=>exact⟨u,rfl,r⟩
def RelO.none_of(r:RelO none o):o=none:=by grind [RelO]
def yA(r:RelV v u):PySem.W.handedIn u=true:=by
 cases v with
 |non=>cases(r);rfl
 |bl b=>cases(r);rfl
 |int i=>let⟨t,e⟩:=(r);cases e;rfl
 |str x=>let⟨t,e⟩:=(r);cases e;rfl
 |byt b=>let⟨t,e⟩:=(r);cases e;rfl
 |flt b=>let⟨t,e⟩:=(r);cases e;rfl
 |ref a=>cases(r);rfl
 |ty n=>cases(r);rfl
section
variable{P:Program}{w:World}{H H':Hp}{h h':Heap}{a C dx:Addr}{fs fs':List (Str×V)}
def qO(g:HOk P w H h)(e:H a=!(.ins C dx fs)):∃mA,ObjM h a dx C mA/\(∀f,RelO (fs.lookup f) (mA f))/\PySem.Within mA (fs.map (·.1))/\fs.length<=1000/\H dx=!(.own a):=by
 let⟨d,z,ne,j,mA,n,r,q⟩:=(g a _ e);exact⟨mA,⟨j,n,ne⟩,r,q,z,d⟩
end
structure Cls(K:Frag)(C:Addr):Prop where
 pg:PySem.W.plainGet K C Str.empty=true
 hd:PySem.W.hasDictIn K C=true
 po:PySem.W.plainOver K C=true
 sa:findIn K (.ref C) "__setattr__"=!(!(.builtin "object.__setattr__"))
def Cls.get{K}(c:Cls K C)(f:Str):PySem.W.plainGet K C f=true:=c.pg
def  NoAttr(K:Frag)(C:Addr)(f:Str):Prop:=findIn K (.ref C) f=!none
def NoAttr.taker{K}(n:NoAttr K C f):PySem.W.takerIn K C f=!none:=by
 unfold PySem.W.takerIn;grind [NoAttr]
structure Meth(K:Frag)(C:Addr)(m:Str)(f:Addr):Prop where
 at_:findIn K (.ref C) m=!(!(.ref f))
 fn:PySem.W.isFn K (.ref f)=true
 kp:PySem.W.keepIn K (.ref f)=true
section
variable{X:Cx}{pins:UW}{σ:St}{H:Hp}{s:Shared}{a C dx:Addr}{fs:List (Str×V)}{f:Str}{v:V}{A:Around}{E:UZ}
def u5(I:Inv X pins σ H s)(e:H a=!(.ins C dx fs))(c:Cls X.K C)(n:NoAttr X.K C f)(l:fs.lookup f=!v)(h:∀u s',Inv X pins σ H s'->RelV v u->Q u s'):wpAny (!4) A (getAttr (.ref a) f b) Q E s:=by
 let⟨mA,O,r,_,_,_⟩:=qO I.hok e;let⟨u,j,g⟩:=RelO.some_of (by rw[<-l];exact r f);exact DV I.kIn O (c.get f) c.hd n j (yA g) (h u _ (I.tok _) g)
def u6(I:Inv X pins σ H s)(e:H a=!(.ins C dx fs))(c:Cls X.K C)(k:Meth X.K C m g)(l:fs.lookup m=none)(h:Q (.ref g,[.ref a]) s):wpAny (!4) A (getMethod (.ref a) m pl) Q E s:=by
 let⟨mA,O,r,_,_,_⟩:=qO I.hok e;have j:=RelO.none_of (by rw[<-l];exact r m);exact zY I.kIn O (c.get m) k.at_ k.fn j h
def u7(I:Inv X pins σ H s)(e:H a=!(.ins C dx fs))(c:Cls X.K C)(n:NoAttr X.K C f)(hl:fs.length<1000)(J:RelV y u)(h:∀s',Inv X pins σ (upd H a (.ins C dx (gD f y fs))) s'->Q () s'):wpAny (!4) A (setAttr (.ref a) f u) Q E s:=by
 let⟨mA,O,r,l,_,p⟩:=qO I.hok e;have T:(fs.map (·.1)).length<=sizeLine:=by rw[length_map,sizeLine_eq];omega
 refine DW I.kIn O c.sa c.po n.taker c.hd l T λh' j t=>h _ ?_;have hd:∃o,h'.get? dx=!o:=let⟨o,_,_,e',_⟩:=j.ns;⟨o,e'⟩;refine I.write (by rw[e];exact True.intro) (.inr p) (λb q hb z=>(t.2 b hb).trans z) hd ?_;refine⟨by rw[ae O.ne];exact p,?_,O.ne,j.obj,_,j.ns,λg=>?_,λg U=>?_⟩
 .have:=lU f y fs;omega
 .show RelO ((gD f y fs).lookup g) (if g=f then !u else mA g);rw[lS];by_cases q:g=f
  .rw[if_pos q,if_pos q];exact J
  .rw[if_neg q,if_neg q];exact r g
 .by_cases q:g=f
  .rw[q];exact(lm f y fs).1
  .refine(lm f y fs).2 g (l g λz=>U ?_);show(if g=f then !u else mA g)=none;rw[if_neg q];exact z
def Inv.made(I:Inv X pins σ H s):Inv X pins σ (upd (upd H s.heap.objs.size (.own (!13))) (!13) (.ins C s.heap.objs.size []))
  {s with heap:=(s.heap.push PySem.W.emptyDict).push (PySem.W.instObj C s.heap.objs.size)}:=by
 have e1:(s.heap.push PySem.W.emptyDict).get? s.heap.objs.size=!PySem.W.emptyDict:=Vf s.heap rfl
 have e2:((s.heap.push PySem.W.emptyDict).push (PySem.W.instObj C s.heap.objs.size)).get? (!13)=!(PySem.W.instObj C s.heap.objs.size):=by
  have:=Vf (s.heap.push PySem.W.emptyDict) (o:=PySem.W.instObj C s.heap.objs.size) rfl;rwa [Heap.size_push]at this
 have e3:(s.heap.push PySem.W.emptyDict).Ns s.heap.objs.size (λ_=>none):=⟨PySem.W.emptyDict,#[],_,e1,rfl,(λe he=>absurd he (by simp)),λ_=>rfl⟩
 have I1:=I.laid (o:=.own (!13)) (t':=s.toks) (λb u q=>Vc _ q) (Vy _) ⟨_,e1⟩
 refine I1.laid (λb u q=>Vc _ q) (Nat.le_of_eq (Heap.size_push _ _)) ?_
 have ne:s.heap.objs.size≠s.heap.objs.size+1:=Vo (Nat.lt_succ_self _)
 refine⟨by rw[ae ne,ai],Nat.zero_le _,ne,e2,λ_=>none,(Heap.Ns1.of_empty e3).at λo q=>Vc _ q,λ_=>True.intro,λy hy=>absurd rfl hy⟩
def DX(j:attributeBase e f env (eval e env)=eval e env)(h:wpAny (!7) A (eval e env) (λo g=>wpAny (!7) A (getAttr o f true) Q E g) E s):wpAny (!7) A (eval (.Attribute e f pos) env) Q E s:=
 Attribute_any_ h (by rw[arm_eval_Attribute,j])
end
def  Qm(K:Frag)(ta:TE)(f:Str):TE:=λσ H Q=>ta σ H λx H1=>∃a C dx fs v,x=.ref a/\H1 a=!(.ins C dx fs)/\Cls K C/\NoAttr K C f/\fs.lookup f=!v/\Q v H1
def  Qn(K:Frag)(ta tv:TE)(f:Str):TS:=λD σ H=>tv σ H λy H1=>ta σ H1 λx H2=>∃a C dx fs,x=.ref a/\H2 a=!(.ins C dx fs)/\Cls K C/\NoAttr K C f/\fs.length<1000/\
 D.nx σ (upd H2 a (.ins C dx (gD f y fs)))
section
variable{X:Cx}{o e value:Expr}{f:Str}{pos pos' tpos:Pos}{ta tv:TE}
def z0(j:PE X e ta)(o:attributeBase e f X.env (eval e X.env)=eval e X.env):PE X (.Attribute e f pos) (Qm X.K ta f):=by
 intro pins s σ H Q I h;refine DX o (bq (j pins s σ H _ I h) λu U ⟨x,H1,t,rx,a,C,dx,fs,v,ex,p,c,n,l,q⟩=>?_);subst ex;obtain rfl:u=Value.ref a:=rx;exact u5 t p c n l λJ T r g=>⟨v,H1,r,g,q⟩
def z9(T:PE X o ta)(t:PE X value tv)(J:swapsWith value (!(.Attribute o f pos')) pos.line X.env=pure false):PS X (.Assign [.Attribute o f pos'] value pos) (Qn X.K ta tv f):=by
 intro pins s σ H D I h;refine plainObj_wpAny_Assign_Attribute (bq (t pins s σ H _ I h) λu g ⟨y,H1,I1,j,q⟩=>bq (T pins g σ H1 _ I1 q) λr s2 ⟨x,H2,I2,rx,a,C,dx,fs,ex,U,c,n,l,p⟩=>?_) J;subst ex;obtain rfl:r=Value.ref a:=rx;exact u7 I2 U c n l j λs3 I3=>⟨σ,_,I3,p⟩
end
structure Room(k:Nat)(A:Around):Prop where
 hd:A.handled=none
 dp:A.depth+3*k+5<recursionLimit
 un:A.units+16*k+200<cLine
def Room.mono(r:Room k A)(h:j<=k):Room j A:=⟨r.hd,by have:=r.dp;omega,by have:=r.un;omega⟩
def Room.deeper(r:Room (k+1) A)(env:Env):Room k (A.deeper env):=
 ⟨r.hd,by have:=r.dp;show A.depth+1+3*k+5<_;omega,by have:=r.un;show A.units+3+16*k+200<_;omega⟩
def u8{A:Around}:(A.under (.builtin "type.__call__" ⟨.ref C::g,j⟩)).depth=A.depth+1:=by constructor<;>grind
def u9{A:Around}:(A.under (.builtin "type.__call__" ⟨.ref C::g,j⟩)).units=A.units+1:=by constructor<;>grind
def Room.make(r:Room (k+1) A)(C:Addr)(g:U0)(j:List (Str×Value)):Room k (A.under (.builtin "type.__call__" ⟨.ref C::g,j⟩)):=
 ⟨r.hd,by have:=r.dp;rw[u8];omega,by have:=r.un;rw[u9];omega⟩
def Room.depth(r:Room k A):A.depth<recursionLimit:=by have:=r.dp;omega
def  L5:TA:=λ_ H Q=>Q [] H
def  L6(ta:TE)(tr:TA):TA:=λσ H Q=>ta σ H λx H1=>tr σ H1 λxs H2=>Q (x::xs) H2
section
variable{X:Cx}{e:Expr}{es:U8}{te:TE}{t:TA}{pos:Pos}
def pa_nil:PA X [] L5:=λ_ _ _ _ H Q I h=>Calls.spliced_nil ⟨[],H,I,.nil,h⟩
def dm(J:PE X e te)(C:PA X es t)(r:starEach (e::es) X.env=(false,eval e X.env)::starEach es X.env:=by rfl):PA X (e::es) (L6 te t):=by
 intro pos pins s σ H Q I h;rw[r];show wpAny _ _ (spliced ((false,eval e X.env)::backTo pos (starEach es X.env))) _ _ s;refine Calls.spliced_cons (bq (J pins s σ H _ I h) λu g ⟨x,H1,U,l,p⟩=>?_);exact bq (C pos pins g σ H1 _ U p) λus s2 ⟨xs,H2,T,j,o⟩=>⟨x::xs,H2,T,.cons l j,o⟩
def  Qo(t:TA):TE:=λσ H Q=>t σ H λxs H1=>xs.length<=sizeLine/\∀p,H1 p=none->Q (.ref p) (upd H1 p (.tup xs))
def  Qp(t:TA):TE:=λσ H Q=>t σ H λxs H1=>xs.length<=sizeLine/\∀p,H1 p=none->Q (.ref p) (upd H1 p (.lst xs))
def Aa{x1}(h:PA X es t):PE X (.Tuple es x1 pos) (Qo t):=by
 intro pins s σ H Q I o;refine wpAny_Tuple_spliced (bq (h pos pins s σ H _ I o) λl g ⟨xs,H1,j,r,z,q⟩=>⟨by rw[<-r.length];exact z,?_⟩);have p:=j.hok.fresh (Vy _);refine⟨.ref g.heap.objs.size,upd H1 g.heap.objs.size _,j.laid (λb u e=>Vc _ e) (Vy _) ?_,rfl,q _ p⟩;exact⟨z,l,r,⟨_,Vf _ rfl,rfl,_,rfl⟩⟩
def Ab(h:PA X es t):PE X (.List es pos) (Qp t):=by
 intro pins s σ H Q I o;refine wpAny_List_spliced (bq (h pos pins s σ H _ I o) λl g ⟨xs,H1,j,r,z,q⟩=>⟨by rw[<-r.length];exact z,?_⟩);have p:=j.hok.fresh (Vy _);refine⟨.ref g.heap.objs.size,upd H1 g.heap.objs.size _,j.laid (λb u e=>Vc _ e) (Vy _) ?_,rfl,q _ p⟩;exact⟨z,l,0,r,Vf _ rfl⟩
end
abbrev Sp:=List V->Hp->VK->XK->Prop
abbrev Io:=List Env->Hp->Shared->XK->UZ
structure Env0(P:Program)(w:World)(K:Frag)(mg:Str->U1)(base:Heap)(A:Around)(outer:List Env)(s:Shared)(H:Hp):Prop where
 frames:A.frames=!outer
 mod:Mod K mg base
 bs:∀b o,base.get? b=!o->s.heap.get? b=!o/\H b=none
 bsz:base.objs.size<=s.heap.objs.size
 funs:s.heap.FunFrames base outer
 frf:(∀b∈frs outer,H b=none)/\GT H
 hok:HOk P w H s.heap
 bare:AllBare s.gens
def  CE(outer:List Env)(P:Program)(w:World)(H:Hp)(s:Shared)(Q:VK)(u:Value)(s':Shared):Prop:=
 ∃v H',s'.os=s.os/\AllBare s'.gens/\Un (frs outer) [] H H' s.heap s'.heap/\HOk P w H' s'.heap/\RelV v u/\Q v H'
def  CR(CX:Io)(outer:List Env)(P:Program)(w:World)(H:Hp)(s:Shared)(Q:VK)(E:XK)(r:Result)(s':Shared):Prop:=
 match r with
 |.ok (.ret u)=>CE outer P w H s Q u s'
 |.ok _=>False
 |.error e=>CX outer H s E e s'
structure FnOk(P:Program)(w:World)(K:Frag)(mg:Str->U1)(base:Heap)(CX:Io)(k:Nat)(f:Addr)(fd:FuncData)(ps:U3)(sp:Sp):Prop where
 len:∀vs H Q E,sp vs H Q E->vs.length=ps.length
 run:∀(A:Around)(outer:List Env)(s:Shared)(H:Hp)(args:Args)(us:U0)(vs:List V)(Q:VK)(E:XK),Room k A->Env0 P w K mg base A outer s H->BindsTo s fd args (ps.zip us)->Vals vs us->sp vs H Q E->
  codeAny (model P w) A (.call (.ref f) args) (CR CX outer P w H s Q E) s
def FnOk.imp{K}(F:FnOk P w K mg base CX k f fd ps sp)(h:∀j H Q E,l j H Q E->sp j H Q E):FnOk P w K mg base CX k f fd ps l:=
 ⟨λj H Q E q=>F.len j H Q E (h _ _ _ _ q),λA g s H args o j Q E t C I p r=>F.run A g s H args o j Q E t C I p (h _ _ _ _ r)⟩
def Env0.make{K}(e:Env0 P w K mg base A g s H)(C:Addr)(j:U0)(l:List (Str×Value)):
 Env0 P w K mg base (A.under (.builtin "type.__call__" ⟨.ref C::j,l⟩)) g s H:=⟨by first|exact e.frames|(simpa [Around.under,Code.envs,Code.isFrame,pushEnvs] using e.frames),e.mod,e.bs,e.bsz,e.funs,e.frf,e.hok,e.bare⟩
section
variable{X:Cx}{pins:UW}{σ:St}{H:Hp}{s s':Shared}
def Inv.env0(I:Inv X pins σ H s):Env0 X.prog X.w X.K X.mg X.base X.A X.stack s H:=
 ⟨I.ok.frames,I.ok.mod,I.bs,Vn I.ok.bsz I.sz,I.stack,⟨I.stkFree,I.tab⟩,I.hok,I.bare⟩
def Inv.after(I:Inv X pins σ H s)(h:CE X.stack X.prog X.w H s Q u s'):EP X pins σ Q u s':=by
 let⟨v,H',os,bare,un,l,r,q⟩:=h;let⟨o,g,d,t,j⟩:=s';obtain rfl:j=s.os:=os;exact⟨v,H',I.call un l bare (λb z=>absurd z (by simp)),r,q⟩
end
def  L7(sp:Sp)(dvs:List V)(E:XK)(t:TA):TE:=λσ H Q=>t σ H λvs H1=>sp (vs++dvs) H1 Q E
def  L8(C:Addr)(m:Str)(sp:Sp)(dvs:List V)(E:XK)(ta:TE)(t:TA):TE:=λσ H Q=>ta σ H λx H1=>∃a dx fs,x=.ref a/\H1 a=!(.ins C dx fs)/\fs.lookup m=none/\
 t σ H1 λvs H2=>sp (x::(vs++dvs)) H2 Q E
def  L9(C:Addr)(sp:Sp)(dvs:List V)(E:XK)(t:TA):TE:=λσ H Q=>t σ H λvs H1=>∀x dx,H1 x=none->H1 dx=none->dx≠x->
 sp (.ref x::(vs++dvs)) (upd (upd H1 dx (.own x)) x (.ins C dx [])) (λv H2=>v=.non/\Q (.ref x) H2) E
def  Binds(K:Frag)(fd:FuncData)(ps:U3)(ds:U0):Prop:=
 ∀(s:Shared)(us:U0),K.In s.heap->(us++ds).length=ps.length->BindsTo s fd ⟨us,[]⟩ (ps.zip (us++ds))
def Binds.all{K}(h:∀g:U0,g.length=ps.length->bindArgs fd ⟨g,[]⟩=pure (ps.zip g)):Binds K fd ps []:=λs g _ j=>by
 rw[List.append_nil]at j⊢;exact .of_eq (h g j)
def  lq(CX:Io)(X:Cx)(E:XK):Prop:=∀(pins:UW)(σ:St)(H:Hp)(s:Shared)(e:Value)(s':Shared),Inv X pins σ H s->CX X.stack H s E e s'->X.xe e s'
section
variable{X:Cx}{CX:Io}{k:Nat}{f C:Addr}{fd:FuncData}{ps:U3}{sp:Sp}{dvs:List V}{ds:U0}{E:XK}{x m:Str}{p pos apos:Pos}{e o:Expr}{es:U8}{ta:TE}{t:TA}
def Ac{σ:St}(F:FnOk X.prog X.w X.K X.mg X.base CX k f fd ps sp)(p:Room k X.A)(C:Binds X.K fd ps ds)(hd:Vals dvs ds)(o:lq CX X E)(I:Inv X pins σ H s)(r:Vals vs j)(h:sp (vs++dvs) H Q E):wpAny (!4) X.A (call (.ref f) j) (EP X pins σ Q) X.xe s:=by
 have l:=r.append hd;have t:(j++ds).length=ps.length:=by rw[<-l.length];exact F.len _ _ _ _ h
 refine wpAny_call (codeAny_mono (F.run X.A X.stack s H ⟨j,[]⟩ _ _ Q E p I.env0 (C s j I.kIn t) l h) λr s' g=>?_);cases r with
 |error e=>exact o pins σ H s e s' I g
 |ok J=>
  cases J with
  |ret u=>exact I.after g
  |next=>exact False.elim g
  |brk=>exact False.elim g
  |cont=>exact False.elim g
def qP(F:FnOk X.prog X.w X.K X.mg X.base CX k f fd ps sp)(C:Room k X.A)(U:Gl X x)(J:X.mg x=!(.ref f))(T:PySem.W.keepIn X.K (.ref f)=true)(hb:Binds X.K fd ps ds)(hd:Vals dvs ds)(o:lq CX X E)
  (ha:PA X (e::es) t) (j:(!6)=false:=by decide) (he:starEach (e::es) X.env=(false,eval e X.env)::starEach es X.env:=by rfl) (g:(!17).any (·.1)=false:=by rfl):
  PE X (!18) (L7 sp dvs E t):=by
 intro pins s σ H Q I h
 refine wpAny_Call_Name_kw (qL I U J ?_ j)
 refine PySem.W.callWith_K I.ok.mod.kin T (bq (ha pos pins s σ H _ I h) λus s1 ⟨vs,H1,l,r,q⟩=>⟨l.kIn,?_⟩) he g
 exact Ac F C hb hd o l r q
def Ad(T : PE X o ta)(c : Cls X.K C)(p : Meth X.K C m f)(F : FnOk X.prog X.w X.K X.mg X.base CX k f fd ps sp)(J : Room k X.A)(U : Binds X.K fd ps ds)(hd : Vals dvs ds)(r : lq CX X E)(t : eval (.Call (.Attribute o m apos) [] [] pos) X.env = (do
   let j <- eval o X.env
   standAt apos.atName
   let (f,first) <- holding [j] (getMethod j m pl)
   callWith pos f first (backTo pos (starEach [] X.env)) (backToKw pos (keywordEach [] X.env))):=by rfl) :
  PE X (.Call (.Attribute o m apos) [] [] pos) (L8 C m sp dvs E ta L5):=by
 intro pins s σ H Q I h
 refine PySem.W.methodCall_KW (bq (T pins s σ H _ I h) fun u s1 ⟨x,H1,g,rx,a,dx,fs,ex,ea,l,q⟩=>?_) t
 subst ex
 obtain rfl:u = Value.ref a:=rx
 refine u6 g ea c p l ?_
 exact PySem.W.callWith_K0 g.kIn p.kp (Ac (vs:=[.ref a]) F J U hd r g (.cons rfl .nil) q)
structure Mk(K:Frag)(C f:Addr):Prop where
 makes:PySem.W.makesIn K C=true
 init:findIn K (.ref C) "__init__"=!(!(.ref f))
 fn:PySem.W.isFn K (.ref f)=true
 kp:PySem.W.keepIn K (.ref C)=true
def Ae{σ:St}(M:Mk X.K C f)(F:FnOk X.prog X.w X.K X.mg X.base CX k f fd ps sp)(hr:Room (k+1) X.A)(hb:Binds X.K fd ps ds)(hd:Vals dvs ds)(hx:lq CX X E)(I:Inv X pins σ H s)(r:Vals vs us)(h:∀x dx,H x=none->H dx=none->dx≠x->sp (.ref x::(vs++dvs)) (upd (upd H dx (.own x)) x (.ins C dx [])) (λv H2=>v=.non/\Q (.ref x) H2) E):
  wpAny (!4) X.A (call (.ref C) us) (EP X pins σ Q) X.xe s:=by
 have hq:=h _ s.heap.objs.size (I.hok.fresh (Nat.le_succ _)) (I.hok.fresh (Vy _)) (Vo (Nat.lt_succ_self _))
 have I2:=Inv.made (C:=C) I
 have r2:Vals (V.ref (!13)::(vs++dvs)) (Value.ref (!13)::(us++ds)):=.cons rfl (r.append hd)
 have hl:(Value.ref (!13)::us++ds).length=ps.length:=by
  have e:=r2.length;rw[F.len _ _ _ _ hq]at e;exact e.symm
 refine wpAny_call (zZ I.kIn M.makes M.init (beq_iff_eq.mp M.fn) (codeAny_mono (F.run _ X.stack _ _ ⟨Value.ref _::us,[]⟩ (Value.ref _::(us++ds)) _ _ E (hr.make C us [])
  (I2.env0.make C us []) (hb _ (Value.ref _::us) I2.kIn hl) r2 hq) λr s' hq'=>?_))
 cases r with
 |error e=>exact hx pins σ _ _ e s' I2 hq'
 |ok fl=>
  cases fl with
  |ret u=>
   let⟨v,H',I3,rv,ev,q3⟩:=I2.after hq';subst ev;exact⟨rv,⟨V.ref _,H',I3,rfl,q3⟩⟩
  |next=>exact False.elim hq'
  |brk=>exact False.elim hq'
  |cont=>exact False.elim hq'
def DY(M:Mk X.K C f)(F:FnOk X.prog X.w X.K X.mg X.base CX k f fd ps sp)(J:Room (k+1) X.A)(U:Gl X x)(T:X.mg x=!(.ref C))(hb:Binds X.K fd ps ds)(hd:Vals dvs ds)(o:lq CX X E)
  (ha:PA X (e::es) t) (j:(!6)=false:=by decide) (he:starEach (e::es) X.env=(false,eval e X.env)::starEach es X.env:=by rfl) (g:(!17).any (·.1)=false:=by rfl):
  PE X (!18) (L9 C sp dvs E t):=by
 intro pins s σ H Q I h
 refine wpAny_Call_Name_kw (qL I U T ?_ j)
 refine PySem.W.callWith_K I.ok.mod.kin M.kp (bq (ha pos pins s σ H _ I h) λus s1 ⟨vs,H1,l,r,q⟩=>⟨l.kIn,?_⟩) he g
 exact Ae M F J hb hd o l r q
end
structure FnScope(N P:U3)(sc:Scope):Prop where
 kind:sc.kind=.function
 co:sc.isCoroutine=false
 gen:sc.isGenerator=false
 nd:N.Nodup
 pre:N.take P.length=P
 par:∀x∈P,sc.names.lookup x=some .local\/sc.names.lookup x=some .cell
 nofree:∀y∈sc.names,y.2≠.free
def pT{kindOf}:∀{binds:List (Str×Value)}{m:Str->U1},(∀v,(x,v) ∉ binds)->bindL kindOf binds m x=m x
 |[],_,_=>rfl
 |(n,v)::r,m,h=>by
  unfold bindL;rw[pT λw hw=>h w (mem_cons_of_mem _ hw)];split
  .have:x≠n:=by rintro rfl;exact h v Vi
   simp[this]
  .rfl
def pU{kindOf}:∀{binds:List (Str×Value)}{m:Str->U1},(∀v,(x,v) ∉ binds)->bindC kindOf binds m x=m x
 |[],_,_=>rfl
 |(n,v)::r,m,h=>by
  unfold bindC;rw[pU λw hw=>h w (mem_cons_of_mem _ hw)];split
  .rfl
  .have:x≠n:=by rintro rfl;exact h v Vi
   simp[this]
def pV{kindOf}:∀{P:U3}{vs:U0}{i:Nat}{m:Str->U1},P.Nodup->P[i]?=!x->vs[i]?=!v->kindOf x=some .local->
  bindL kindOf (P.zip vs) m x=!v
 |[],_,_,_,_,h,_,_=>by simp at h
 |_::_,[],_,_,_,_,h,_=>by simp at h
 |p::P,w::vs,0,m,nd,h1,h2,hk=>by
  simp at h1 h2;subst h1;subst h2;show bindL kindOf ((p,w)::P.zip vs) m p=_;unfold bindL;rw[pT λv hv=>(List.nodup_cons.mp nd).1 (List.of_mem_zip hv).1,if_pos hk];simp
 |p::P,w::vs,i+1,m,nd,h1,h2,hk=>by
  show bindL kindOf ((p,w)::P.zip vs) m x=_;unfold bindL;exact pV (i:=i) (List.nodup_cons.mp nd).2 (by simpa using h1) (by simpa using h2) hk
def pW{kindOf}:∀{P:U3}{vs:U0}{i:Nat}{m:Str->U1},P.Nodup->P[i]?=!x->vs[i]?=!v->kindOf x≠some .local->
  bindC kindOf (P.zip vs) m x=!v
 |[],_,_,_,_,h,_,_=>by simp at h
 |_::_,[],_,_,_,_,h,_=>by simp at h
 |p::P,w::vs,0,m,nd,h1,h2,hk=>by
  simp at h1 h2;subst h1;subst h2;show bindC kindOf ((p,w)::P.zip vs) m p=_;unfold bindC;rw[pU λv hv=>(List.nodup_cons.mp nd).1 (List.of_mem_zip hv).1,if_neg hk];simp
 |p::P,w::vs,i+1,m,nd,h1,h2,hk=>by
  show bindC kindOf ((p,w)::P.zip vs) m x=_;unfold bindC;exact pW (i:=i) (List.nodup_cons.mp nd).2 (by simpa using h1) (by simpa using h2) hk
noncomputable def  jE(N:U3)(vs:List V):St:=vs.map some++List.replicate (N.length-vs.length) none
def  nq(CX:Io)(P:Program)(w:World)(K:Frag)(mg:Str->U1)(base:Heap)(N:U3)(qual:Str)(scope:Scope)(f:Addr)(cd:Value)(A:Around)(outer:List Env)(s:Shared)(H:Hp)(E:XK):Cx where
 prog:=P
 w:=w
 K:=K
 mg:=mg
 base:=base
 A:=A.deeper (envOfC qual scope s.heap.objs.size f cd)
 N:=N
 s₀:=s
 H₀:=H
 env:=envOfC qual scope s.heap.objs.size f cd
 outer:=outer
 stack:=envOfC qual scope s.heap.objs.size f cd::outer
 ex:=[]
 calm:=true
 fn:=λ_=>true
 pn:=[]
 xe:=λe s'=>wpAny (model P w) (A.deeper (envOfC qual scope s.heap.objs.size f cd)) (leaving (envOfC qual scope s.heap.objs.size f cd) e) (λ_ s''=>CX outer H s E e s'') (λe' s''=>CX outer H s E e' s'') s'
def sN{g:Scope}(h:g.names.lookup x=some .cell):∃c,(cellsFrom n g.names []).lookup x=!c:=by
 have q:=PySem.W.cellsFrom_some g.names n [] (.inl h);exact Option.isSome_iff_exists.mp q
def yB{K}(S:FnScope N ps scope)(hd:A.handled=none)(e0:Env0 P w K mg base A outer s H)(hl:vs.length=ps.length)(r:Vals vs us)(x:InCallC s s.heap.objs.size (bindL (envOfC qual scope s.heap.objs.size f cd).kindOf (ps.zip us) λ_=>none) (cellsFrom (!13) scope.names []) (bindC (envOfC qual scope s.heap.objs.size f cd).kindOf (ps.zip us) λ_=>none) s1):
  Inv (nq CX P w K mg base N qual scope f cd A outer s H E) [] (jE N vs) H s1:=by
 have hpl:ps.length<=N.length:=by have:=congrArg List.length S.pre;rw[List.length_take]at this;omega
 let⟨h1,tk,rfl,hk⟩:=x.done
 have noA:∀b:Addr,b ∉ (nq CX P w K mg base N qual scope f cd A outer s H E).ex:=λb z=>absurd (show b∈([]:List Addr)from z) (by simp)
 refine⟨⟨e0.mod,S.kind,rfl,rfl,Vy _,λy z c h1 h2=>?_,λy hy=>?_,λy c _ h=>?_,λ_=>hd,Around.frames_deeper e0.frames,.inr ⟨rfl,rfl⟩,λb z=>absurd z (noA b),e0.bs,e0.bsz,λb _ _=>noA b,λb z=>absurd z (noA b),e0.funs,e0.frf⟩,
  rfl,e0.bare,Un.kept hk,⟨_,x.toInCall.ns,λi y v h1 h2 h3=>?_⟩,λy c h=>⟨_,x.cell y c h⟩,e0.hok.fresh (Vy _),λy c h=>?_,λp hp=>absurd (show p∈([]:UW)from hp) (by simp),e0.hok.kept hk,?_⟩
 .exact name_of_addr x.apart (PySem.mem_of_lookup h1) (PySem.mem_of_lookup h2)
 .have hy:scope.names.lookup y=some .cell\/scope.names.lookup y=some .free:=hy;rcases hy with hy|hy
  .exact sN hy
  .exact absurd rfl (S.nofree _ (PySem.mem_of_lookup hy))
 .exact Vu (x.above y c (PySem.mem_of_lookup h))
 .have hi:i<vs.length:=by
   unfold jE at h2;by_cases hi:i<vs.length
   .exact hi
   .rw[getElem?_append_right (by simpa using hi)]at h2;rw[List.getElem?_replicate]at h2;split at h2<;>cases h2
  have ha:vs[i]?=!v:=by
   unfold jE at h2;rw[getElem?_append_left (by simpa using hi),getElem?_map]at h2;cases e:vs[i]? with
   |none=>rw[e]at h2;cases h2
   |some a=>rw[e]at h2;cases h2;rfl
  let⟨u,hu,rv⟩:=r.get ha;have hp:ps[i]?=!y:=by
   rw[<-S.pre,List.getElem?_take_of_lt (!1)];exact h1
  have ndP:ps.Nodup:=by rw[<-S.pre];exact S.nd.sublist (List.take_sublist _ _)
  refine⟨u,rv,?_⟩;rcases S.par y (Vx hp)with k|k
  .exact .inl ⟨k,pV ndP hp hu k⟩
  .let⟨c,e⟩:=sN k;refine .inr ⟨.inl k,c,e,?_⟩;have q:=x.cell y c e;rw[pW ndP hp hu (by show scope.names.lookup y≠_;rw[k];decide)]at q;exact q
 .exact e0.hok.fresh (Vu (x.above y c (PySem.mem_of_lookup h)))
 .unfold jE;show _=N.length;rw[length_append,length_map,List.length_replicate];omega
def Hb{K}{dV kV doc pm l ct oc}(lk:K.lookup f=!⟨oc,od,.func (PySem.W.fnOf name j C body scope dV kV doc pm an l ct),osl⟩)(hcd:PySem.W.codeIn K l j=true)(S:FnScope N ps scope)(len:∀T H Q E,sp T H Q E->T.length=ps.length)(hbody:∀(A:Around)(g:List Env)(s:Shared)(H:Hp)(T:List V)(Q:VK)(E:XK),Room k (A.deeper (envOfC j scope s.heap.objs.size f l))->sp T H Q E->
   ∃t,PSs (nq CX P w K mg base N j scope f l A g s H E) body t/\t {nx:=λ_ H'=>Q .non H',rt:=Q} (jE N T) H):
  FnOk P w K mg base CX (k+1) f (PySem.W.fnOf name j C body scope dV kV doc pm an l ct) ps sp:=by
 refine⟨len,λA g s H args us T Q E hr e0 hb r hsp=>?_⟩
 have hl:=len _ _ _ _ hsp
 have KX:=e0.mod.kin.keeps λb o e=>(e0.bs b o e).1
 have lim:=e0.mod.nolimit.keeps λb o e=>(e0.bs b o e).1
 have U:∀y∈ps.zip us,scope.names.lookup y.1=some .local\/(scope.names.lookup y.1=some .cell/\((cellsFrom (!13) scope.names []).lookup y.1).isSome=true):=λ⟨n,v⟩ hy=>by
  rcases S.par n (List.of_mem_zip hy).1 with q|q
  .exact .inl q
  .exact .inr ⟨q,PySem.W.cellsFrom_some _ _ _ (.inl q)⟩
 refine codeAny_call_function hr.depth (KX _ _ lk) rfl S.co S.gen rfl (PySem.W.codeRec_of KX hcd) (hb _ _ _ _ ?_)
 refine wpAny_newFunctionEnv_cells S.kind U λenv he s1 x=>?_
 subst he
 refine⟨lim.keeps x.toInCall.keep,codeAny_func ?_⟩
 let⟨t,ht,hq⟩:=hbody A g s H T Q E (hr.deeper _) hsp
 have I:Inv (nq CX P w K mg base N j scope f l A g s H E) [] (jE N T) H s1:=yB S hr.hd e0 hl r x
 refine Vz (ht [] s1 _ H _ I hq) (λfl s' hs=>?_) λe s' hs=>hs
 have fin:∀{p:St}{H':Hp}{v:V}{u:Value},Inv (nq CX P w K mg base N j scope f l A g s H E) [] p H' s'->RelV v u->Q v H'->CE g P w H s Q u s':=
  λ{p H' v u} J rv q=>⟨v,H',J.os,J.bare,J.base,J.hok,rv,q⟩
 cases fl with
 |ret u=>
  let⟨v,p,H',J,rv,q⟩:=hs;exact fin J rv q
 |next=>
  let⟨p,H',J,q⟩:=hs;exact fin (v:=V.non) J rfl q
 |brk=>
  let⟨_,_,_,q⟩:=hs;exact False.elim q
 |cont=>
  let⟨_,_,_,q⟩:=hs;exact False.elim q
section
variable{X:Cx}{x:Str}{p pos:Pos}{e:Expr}{es:U8}{t:TA}{id T:String}{r:List V->Hp->VK->Prop}
def  Sx(r:List V->Hp->VK->Prop)(t:TA):TE:=λσ H Q=>t σ H λvs H1=>r vs H1 Q
def nr(hc:eQ X (.builtin id) r)(hg:Gl X x)(hm:X.mg x=none)(U:bootBuiltins x=!(.builtin id))(ha:PA X (e::es) t)(hn:x≠"__name__":=by decide)(j:(!6)=false:=by decide)
  (he:starEach (e::es) X.env=(false,eval e X.env)::starEach es X.env:=by rfl) (g:(!17).any (·.1)=false:=by rfl):PE X (!18) (Sx r t):=by
 intro pins s σ H Q I h
 refine wpAny_Call_Name_kw (dI I hg hm U ?_ hn j)
 exact PyProof.Rows.callWith_builtin1 (bq (ha pos pins s σ H _ I h) λo C ⟨l,H1,I1,J,T⟩=>hc pins C σ H1 l o Q I1 J T) he g
def pX(hc:eQ X (.type T) r)(hg:Gl X x)(hm:X.mg x=none)(hv:bootBuiltins x=!(.type T))(ha:PA X (e::es) t)(hn:x≠"__name__":=by decide)(j:(!6)=false:=by decide)
  (he:starEach (e::es) X.env=(false,eval e X.env)::starEach es X.env:=by rfl) (g:(!17).any (·.1)=false:=by rfl):PE X (!18) (Sx r t):=by
 intro pins s σ H Q I h
 refine wpAny_Call_Name_kw (dI I hg hm hv ?_ hn j)
 exact PyProof.Rows.callWith_type1 (bq (ha pos pins s σ H _ I h) λo C ⟨l,H1,I1,J,U⟩=>hc pins C σ H1 l o Q I1 J U) he g
end
end L2
namespace HT
open PySem PyProof.Rows
noncomputable def  lexLt:U4->U4->Bool
 |[],[]=>false
 |[],_::_=>true
 |_::_,[]=>false
 |x::xs,y::ys=>if x=y then lexLt xs ys else decide (x<y)
def lexLt_cons(x y:Int)(xs ys:U4):lexLt (x::xs) (y::ys)=if x=y then lexLt xs ys else decide (x<y):=rfl
def lexLt_nil_nil:lexLt [] []=false:=rfl
def iB(y:Int)(ys:U4):lexLt [] (y::ys)=true:=rfl
def iC(x:Int)(xs:U4):lexLt (x::xs) []=false:=rfl
def sS(A:Around)(s:Shared)(a:Int)(t:Tok)(c:Int)(u:Tok):∃e,SeqAt.EqAt A s (.int a t) (.int c u) e/\(e=true↔a=c):=
 ⟨(a==c),SeqAt.EqAt.int_int a t c u,by simp⟩
def Af(A:Around)(s:Shared)(a:Int)(t:Tok)(c:Int)(u:Tok)(prog:Program)(w:World)(E:UZ)(Q:UZ)(h:Q (.bool (decide (a<c))) s):
  wpAny (!7) A (richCompare .Lt (.int a t) (.int c u)) Q E s:=
 (PyProof.Rows.lt_int h:wpAny _ A (compareOp .Lt _ _) Q E s)
section
open PySem.SeqAt
open PySem.AutoSeq1 (wpAny_loadPart')
open PySem.MeetsSeq PySem.MeetsSeq2 PySem.MeetsSeq3
def pz(l b:Addr)(items items2:U6)(n n2:Nat)(dd dd2:Option Addr)(sl sl2:Array (U1))(ns ms:U4)(hi:IntsAre items.toList ns)(hj:IntsAre items2.toList ms):
  Meets (Builtin.«tuple.__lt__» ⟨[.ref l,.ref b],[]⟩)
   (λ_ R s=>s.heap.get? l=some {cls:=.type "tuple",dict:=dd,data:=.seq items n,slots:=sl}/\s.heap.get? b=some {cls:=.type "tuple",dict:=dd2,data:=.seq items2 n2,slots:=sl2}/\
    R (.ok (.ret (.bool (lexLt ns ms)))) s):=
 .of_wp λprog w A R s h=>by
  let⟨hp,g,d,tk,os⟩:=s;let⟨hl,hb,h⟩:=h;have f2:=AutoSeq1.sub_tuple_tuple;have z1:items.size=ns.length:=by rw[<-hi.length];simp
  have z2:items2.size=ms.length:=by rw[<-hj.length];simp
  wp_walk using wpAny_loadPart' hl,wpAny_loadPart' hb,wpAny_forIn_list _ (λrest b s'=>b.1=none/\s'=⟨hp,g,d,tk,os⟩/\∃(vs ws:U0)(ns' ms':U4),rest=vs.zip ws/\
   IntsAre vs ns'/\IntsAre ws ms'/\ns'.length+items2.size=ms'.length+items.size/\R (.ok (.ret (.bool (lexLt ns' ms')))) ⟨hp,g,d,tk,os⟩) _
  case turn=>
   rintro⟨y,x⟩ rest b s' ⟨hb',rfl,vs,ws,ns',ms',hz,hvi,hwi,hlen,hR⟩;cases hvi with
   |nil=>rw[List.zip_nil_left]at hz;cases hz
   |cons a t hvi'=>
    cases hwi with
    |nil=>rw[List.zip_nil_right]at hz;cases hz
    |cons c u hwi'=>
     rw[List.zip_cons_cons]at hz;injection hz with hyx hrest;injection hyx with hy hx;subst hy hx;rw[lexLt_cons]at hR;simp only[length_cons]at hlen;let⟨e,he,hiff⟩:=sS A.in1 ⟨hp,g,d,tk,os⟩ a t c u;refine Vb (he prog w _ _ ?_);cases e with
     |true=>
      rw[if_pos (hiff.mp rfl)]at hR;wp_walk;exact⟨rfl,rfl,_,_,_,_,hrest,hvi',hwi',by omega,hR⟩
     |false=>
      rw[if_neg (λq=>absurd (hiff.mpr q) Bool.false_ne_true)]at hR;have hri:=Af A.in1 ⟨hp,g,d,tk,os⟩ a t c u prog w;wp_walk using hri;exact⟨_,rfl,by simpa using hR⟩
  case fin=>
   rintro⟨b1,b2⟩ s' ⟨hb',rfl,vs,ws,ns',ms',hz,hvi,hwi,hlen,hR⟩;simp only at hb';subst hb';have hv:lexLt ns' ms'=decide (items.size<items2.size):=by
    cases hvi with
    |nil=>
     cases hwi with
     |nil=>
      simp only[List.length_nil]at hlen;rw[lexLt_nil_nil];exact(decide_eq_false (!1)).symm
     |cons c u hw=>
      simp only[List.length_nil,length_cons]at hlen;rw[iB];exact(decide_eq_true (!1)).symm
    |cons a t hv=>
     cases hwi with
     |nil=>
      simp only[List.length_nil,length_cons]at hlen;rw[iC];exact(decide_eq_false (!1)).symm
     |cons c u hw=>
      rw[List.zip_cons_cons]at hz;cases hz
   rw[hv]at hR;wp_walk;exact⟨_,rfl,by simpa [Builtin.Tuple.tupleCompareSizes] using hR⟩
  case h=>
   exact⟨rfl,rfl,items.toList,items2.toList,ns,ms,rfl,hi,hj,by omega,h⟩
end
def lt_tupInts(hl:IsTup s.heap l items)(hb:IsTup s.heap b items2)(hi:IntsAre items.toList ns)(hj:IntsAre items2.toList ms)(hu:A.units<cLine)(h:Q (.bool (lexLt ns ms)) s):wpAny (!7) A (compareOp .Lt (.ref l) (.ref b)) Q E s:=by
 let⟨⟨cls,dd,data,sl⟩,ho,hc,n,hd⟩:=id hl;let⟨⟨cls2,dd2,data2,sl2⟩,ho2,hc2,n2,hd2⟩:=id hb;subst hc hd hc2 hd2;exact richCompare_meets_room (op:=.Lt) ⟨_,ho,rfl⟩ ⟨_,ho2,rfl⟩ PySem.F.slot_tuple_lt PySem.F.entry_tuple_lt (PySem.F.args_tuple_lt_2 _ _) (pz l b items items2 n n2 dd dd2 sl sl2 ns ms hi hj)
  ⟨ho,ho2,show Value.bool (lexLt ns ms)≠Value.notImplemented/\Q (.bool (lexLt ns ms)) s from⟨(λx=>nomatch x),h⟩⟩ hu
def cat_tup{prog:Program}{w:World}{A:Around}{E:UZ}{s:Shared}(ht:IsTup s.heap t l.toArray)(hb:IsTup s.heap b g.toArray)(hv:l≠[])(h1:g=[]->Q (.ref t) s)(h2:g≠[]->Q (.ref s.heap.objs.size) {s with heap:=s.heap.push {cls:=.type "tuple",data:=.seq (l++g).toArray}})(I:l.length+g.length<=sizeLine):wpAny (!7) A (binaryOp .Add (.ref t) (.ref b)) Q E s:=by
 let⟨⟨cls,dd,data,U⟩,C,hc,n,hd⟩:=id ht;let⟨⟨cls2,p,data2,o⟩,j,T,n2,J⟩:=id hb;subst hc hd T J;have e:l.toArray++g.toArray=(l++g).toArray:=by simp
 by_cases r:g=[]
 .exact concat_meets ⟨_,C,rfl⟩ ⟨_,j,rfl⟩ noFill_tuple_add seq_tuple_add PySem.F.slot_tuple_add PySem.F.entry_tuple_add (PySem.F.args_tuple_add_2 _ _)
   (tuple_addW1 t b l.toArray g.toArray n n2 dd p U o (by simpa using hv) (by simp[r])) ⟨C,j,h1 r⟩
 .refine concat_meets ⟨_,C,rfl⟩ ⟨_,j,rfl⟩ noFill_tuple_add seq_tuple_add PySem.F.slot_tuple_add PySem.F.entry_tuple_add (PySem.F.args_tuple_add_2 _ _)
   (tuple_addW2 t b l.toArray g.toArray n n2 dd p U o (by simpa using hv) (by simpa using r) (by rw[size_toArray,size_toArray];exact I)) ⟨C,j,?_⟩
  rw[e];exact h2 r
noncomputable def  sIx(n d:Nat):Va->Nat
 |none=>d
 |some v=>if v<0 then(v+(n:Int)).toNat else min v.toNat n
def sIx_none(n d:Nat):sIx n d none=d:=rfl
def sIx_nat(n d k:Nat):sIx n d (!(k:Int))=min k n:=by grind [sIx]
def wP(v:Int)(n d:Nat):(if v<0 then max (v+(n:Int)) 0 else min v (n:Int))=((sIx n d (!v):Nat):Int):=by grind [sIx]
def vb(lo hi:Va)(n:Nat):Builtin.Slice.sliceAdjust lo hi 1 (n:Int)=(((sIx n 0 lo:Nat):Int),((sIx n n hi:Nat):Int)):=by
 refine Prod.ext ?_ ?_
 .cases lo with
  |none=>rfl
  |some v=>exact wP v n 0
 .cases hi with
  |none=>rfl
  |some v=>exact wP v n n
def vc(i j:Nat):Builtin.Slice.slicePlaces (i:Int) (j:Int) 1=j-i:=by
 unfold Builtin.Slice.slicePlaces;split<;>omega
def nt(p:IsPart v o)(h:Q o s):wpAny (!7) A (Builtin.Slice.slicePartIndex v) Q E s:=by
 cases p with
 |none=>exact slicePart_none h
 |int i t=>exact slicePart_int h
def sliceApplied_gen{lo hi}{Q:Int×Int×Nat->Shared->Prop}(hs:s.heap.IsSliceOf sl vl vu .none)(pl:IsPart vl lo)(pu:IsPart vu hi)(h:Q (((sIx n 0 lo:Nat):Int),1,sIx n n hi-sIx n 0 lo) s):wpAny (!7) A (Builtin.Slice.sliceApplied (.ref sl) (pure (n:Int))) Q E s:=by
 let⟨os,hos,hcs,hds⟩:=id hs;refine Vb (Vb (wpAny_field hos hds rfl (Vb (wpAny_field hos hds rfl (Vb (wpAny_field hos hds rfl (Vd ?_)))))));refine Vb (slicePart_none ?_);refine Vb (nt pl (Vb (nt pu (Vb (Vd ?_)))));show wpAny _ _ (match Builtin.Slice.sliceAdjust lo hi 1 (n:Int)with|(lo,hi)=>pure (lo,(1:Int),Builtin.Slice.slicePlaces lo hi 1)) _ _ s;rw[vb];show wpAny _ _ (pure (((sIx n 0 lo:Nat):Int),(1:Int),Builtin.Slice.slicePlaces ((sIx n 0 lo:Nat):Int) ((sIx n n hi:Nat):Int) 1)) _ _ s;rw[vc];exact Vd h
def Ag(xs:U6)(i k:Nat):((List.range k).filterMap λ(m:Nat)=>xs[((i:Int)+(m:Int)*1).toNat]?).toArray=((xs.toList.drop i).take k).toArray:=by
 have e:(λ(m:Nat)=>xs[((i:Int)+(m:Int)*1).toNat]?)=λm=>xs[i+m]?:=by
  funext m;have:((i:Int)+(m:Int)*1).toNat=i+m:=by omega
  rw[this]
 rw[e];have:=pick_run xs i k;rw[List.filterMap_map]at this;have e2:((λx=>xs[x]?)∘λx=>i+x)=λm=>xs[i+m]?:=rfl;grind
def getItem_tuple_cut{lo hi}(ht:IsTup s.heap t items)(hs:s.heap.IsSliceOf sl vl vu .none)(pl:IsPart vl lo)(pu:IsPart vu hi)(hw:¬ (sIx items.size 0 lo=0/\sIx items.size items.size hi=items.size))(h:Q (.ref s.heap.objs.size) {s with heap:=s.heap.push {cls:=.type "tuple",data:=.seq ((items.toList.drop (sIx items.size 0 lo)).take (sIx items.size items.size hi-sIx items.size 0 lo)).toArray}})(hsz:items.size<=sizeLine):wpAny (!7) A (getItem (.ref t) (.ref sl)) Q E s:=by
 have htake:sizeOk (.seq ((items.toList.drop (sIx items.size 0 lo)).take (sIx items.size items.size hi-sIx items.size 0 lo)).toArray):=by
  show((items.toList.drop (sIx items.size 0 lo)).take (sIx items.size items.size hi-sIx items.size 0 lo)).toArray.size<=sizeLine;rw[size_toArray,List.length_take,List.length_drop,Array.length_toList];omega
 let⟨os,hos,hcs,hds⟩:=id hs;have hTs:s.TypeIs (.ref sl) "slice":=⟨os,hos,hcs⟩;unfold getItem;try with_reducible refine wpAny_holding ?_
 first|refine Vb (Vd ?_)|skip
 refine Vb (wpAny_sequenceKey ht.typeIs (!3) ?_);refine Vb (wpAny_callSpecial?_slot ht.typeIs PyProof.Rows.slot_tuple_getitem
  (wpAny_call_entry PyProof.Rows.slot_tuple_getitem ht.typeIs entry_tuple_getitem ?_ (args_tuple_getitem _ _)))
 show wpAny _ _ (Builtin.Tuple.tupleItemsOf (.ref t)>>=_) _ _ s;refine Vb (tupleItemsOf_ ht ?_);refine Vb (wpAny_typeOf hTs ?_);refine Vb (sliceApplied_gen hs pl pu ?_);have hno:¬ ((((sIx items.size 0 lo:Nat):Int)==0&&(1:Int)==1&&(sIx items.size items.size hi-sIx items.size 0 lo)==items.size)=true):=by
  intro q;rw[and_eq_true,and_eq_true]at q;have q1:=eq_of_beq q.1.1;have q2:=eq_of_beq q.2;exact hw ⟨by omega,by omega⟩
 show wpAny _ _ (if(((sIx items.size 0 lo:Nat):Int)==0&&(1:Int)==1&&(sIx items.size items.size hi-sIx items.size 0 lo)==items.size)=true then _ else _) _ _ s;rw[if_neg hno,Ag];first
  |exact Vb (wpAny_newObj_type (Vd ⟨_,rfl,Vd h⟩) htake)
  |exact Vb (wpAny_newObj_type (Vb (Vd _)) htake)
  |exact Vb (Vb (wpAny_newObj_type (Vd _) htake))
  |exact Vb (Vb (wpAny_newObj_type _ htake))
end HT
namespace L2
open PySem PySem.Spec PyProof.Rows
abbrev TO:=St->Hp->(Va->Hp->Prop)->Prop
def  PO(X:Cx)(e:Option Expr)(t:TO):Prop:=
 ∀(pins:UW)(s:Shared)(σ:St)(H:Hp)(Q:Va->Hp->Prop),Inv X pins σ H s->t σ H Q->
  wpAny (!4) X.A (evalPart e X.env) (λu s'=>∃o H',Inv X pins σ H' s'/\IsPart u o/\Q o H') X.xe s
def  DZ:TO:=λ_ H Q=>Q none H
def  Ma(t:TE):TO:=λσ H Q=>t σ H λx H1=>∃i,x=.int i/\Q (!i) H1
def gE:∀{g:U0},Vals (j.map V.int) g->IntsAre g j:=by
 induction j with
 |nil=>intro g r;rw[List.map_nil]at r;cases r;exact .nil
 |cons n j p=>
  intro g r;cases r with
  |cons o l=>
   let⟨t,e⟩:=o;subst e;exact .cons n t (p l)
section
variable{X:Cx}{e:Expr}{te:TE}{lo hi:Option Expr}{tl th:TO}{pos p2:Pos}
def po_none:PO X none DZ:=by
 intro pins s σ H Q I h;exact Vd ⟨none,H,I,.none,h⟩
def D0(h:PE X e te):PO X (!e) (Ma te):=by
 intro pins s σ H Q I l;refine bq (h pins s σ H _ I l) λu p ⟨x,H1,o,g,j⟩=>?_;let⟨i,rfl,q⟩:=j;let⟨t,rfl⟩:=g;exact⟨!i,H1,o,.int i t,q⟩
def  SlR(X:Cx)(r:V->Va->Va->Hp->VK->Prop):Prop:=
 ∀(pins:UW)(s:Shared)(σ:St)(H:Hp)(x:V)(v vl vu:Value)(lo hi:Va)(sl:Addr)(Q:VK),Inv X pins σ H s->RelV x v->s.heap.IsSliceOf sl vl vu .none->IsPart vl lo->IsPart vu hi->r x lo hi H Q->
  ∃T id,typeLookup (.type T) "__getitem__"=pure (!(.builtin id))/\s.TypeIs v T/\wpAny (!4) X.A (getItem v (.ref sl)) (EP X pins σ Q) X.xe s
def SlR.or(h:SlR X r)(h':SlR X p):SlR X (λx lo hi H Q=>r x lo hi H Q\/p x lo hi H Q):=by
 intro pins s σ H x v j g lo hi l Q I rx o pl pu q;rcases q with q|q
 .exact h pins s σ H x v j g lo hi l Q I rx o pl pu q
 .exact h' pins s σ H x v j g lo hi l Q I rx o pl pu q
def  Ua(r:V->Va->Va->Hp->VK->Prop)(te:TE)(tl th:TO):TE:=λσ H Q=>te σ H λx H1=>tl σ H1 λl H2=>th σ H2 λu H3=>r x l u H3 Q
def sX(hr:SlR X r)(he:PE X e te)(hl:PO X lo tl)(hu:PO X hi th):PE X (.Subscript e (.Slice lo hi none p2) pos) (Ua r te tl th):=by
 intro pins s σ H Q I h;refine Subscript_ (bq (he pins s σ H _ I h) λv s1 ⟨x,H1,I1,r1,q1⟩=>?_);refine wpAny_Slice (bq (hl pins s1 σ H1 _ I1 q1) λvl s2 ⟨l,H2,I2,pl,q2⟩=>bq (hu pins s2 σ H2 _ I2 q2) λvu s3 ⟨u,H3,I3,pu,q3⟩=>?_);refine Vd ?_;have I4:Inv X pins σ H3 {s3 with heap:=s3.heap.push {cls:=.type "slice",data:=.fields #[vl,vu,.none]}}:=I3.kept λb ob q=>Vc _ q;let⟨T,id,hT,ht,hg⟩:=hr pins {s3 with heap:=s3.heap.push {cls:=.type "slice",data:=.fields #[vl,vu,.none]}} σ H3 x v vl vu l u s3.heap.objs.size Q I4 r1 (Heap.IsSliceOf.new ..) pl pu q3;exact tail_any ht hT hg (by with_unfolding_all rfl)
def  yC(xs:List V)(lo hi:Va):List V:=(xs.drop (HT.sIx xs.length 0 lo)).take (HT.sIx xs.length xs.length hi-HT.sIx xs.length 0 lo)
def lV(xs:List V)(lo hi:Va):(yC xs lo hi).length<=xs.length:=by grind [yC]
def  Qq(K:Frag):V->Va->Va->Hp->VK->Prop:=λx lo hi H Q=>∃a xs,x=.ref a/\SqT K H a xs/\
 ¬ (HT.sIx xs.length 0 lo=0/\HT.sIx xs.length xs.length hi=xs.length)/\∀p,H p=none->Q (.ref p) (upd H p (.tup (yC xs lo hi)))
def sl_tup:SlR X (Qq X.K):=by
 intro pins s σ H x v T J lo hi U Q I rx C pl pu h;let⟨a,xs,rfl,p,t,q⟩:=h;cases rx;let⟨j,r,o,l⟩:=I.tuple p;have g:j.toArray.size=xs.length:=by rw[size_toArray];exact r.length.symm
 refine⟨"tuple",_,PyProof.Rows.slot_tuple_getitem.lookup,o.typeIs,?_⟩;refine HT.getItem_tuple_cut o C pl pu (by rw[g];exact t) ?_ (by rw[g];exact l);rw[g];refine⟨.ref s.heap.objs.size,_,I.laid (λb ob q=>Vc _ q) (Vy _) ?_,rfl,q _ (I.hok.fresh (Vy _))⟩;exact⟨Vn (lV xs lo hi) l,_,(r.drop _).take _,IsTup.new _ _⟩
def  Mb(K:Frag):R2:=λx y H Q=>∃a b ns ms,x=.ref a/\y=.ref b/\SqT K H a (ns.map V.int)/\SqT K H b (ms.map V.int)/\Q (.bl (HT.lexLt ns ms)) H
def Ah(J:X.A.units<cLine):OpR X (compareOp .Lt) (Mb X.K):=by
 intro pins s σ H x y v u Q I rx j h;let⟨a,b,ns,ms,rfl,rfl,U,T,q⟩:=h;cases rx;cases j;let⟨r,o,p,_⟩:=I.tuple U;let⟨g,l,p2,_⟩:=I.tuple T;have C:=gE o;have t:=gE l;exact HT.lt_tupInts p p2 C t J ⟨.bl _,H,I,rfl,q⟩
def  Hc(K:Frag):R2:=λx y H Q=>∃a b xs ys,x=.ref a/\y=.ref b/\SqT K H a xs/\SqT K H b ys/\xs≠[]/\xs.length+ys.length<=sizeLine/\
 (ys=[]->Q (.ref a) H)/\(ys≠[]->∀p,H p=none->Q (.ref p) (upd H p (.tup (xs++ys))))
def Vals.nil_iff(r:Vals xs g):g=[]↔xs=[]:=by
 cases r with
 |nil=>simp
 |cons _ _=>simp
def D1:OpR X (binaryOp .Add) (Hc X.K):=by
 intro pins s σ H x y v u Q I rx p h;let⟨a,b,xs,ys,rfl,rfl,ha,U,T,o,t,r⟩:=h;cases rx;cases p;let⟨J,j,C,_⟩:=I.tuple ha;let⟨l,g,p2,_⟩:=I.tuple U;refine HT.cat_tup C p2 (λz=>T (j.nil_iff.mp z)) (λz=>⟨.ref a,H,I,rfl,t (g.nil_iff.mp z)⟩) (λz=>?_) (by rw[<-j.length,<-g.length];exact o);refine⟨.ref s.heap.objs.size,_,I.laid (λb ob q=>Vc _ q) (Vy _) ?_,rfl,r (λw=>z (g.nil_iff.mpr w)) _ (I.hok.fresh (Vy _))⟩;exact⟨by rw[length_append];exact o,_,j.append g,IsTup.new _ _⟩
end
noncomputable def  DC(n:Nat)(i:Int):Option Nat:=if 0<=i then(if i<n then !i.toNat else none)else if -(n:Int)<=i then some (i+n).toNat else none
def  pj{α:Type}(xs:List α)(i:Int):Option α:=(DC xs.length i).bind λj=>xs[j]?
def wQ(h:DC n i=!j):seqIndex? i n=!j/\j<n/\ -(n:Int)<=i/\i<n:=by
 unfold DC at h;by_cases h0:0<=i
 .rw[if_pos h0]at h;by_cases h1:i<n
  .rw[if_pos h1]at h;have e:=Option.some.inj h;exact⟨by rw[seqIndex_of h0 h1,e],by omega,by omega,h1⟩
  .rw[if_neg h1]at h;cases h
 .rw[if_neg h0]at h;by_cases h1:-(n:Int)<=i
  .rw[if_pos h1]at h;have e:=Option.some.inj h;exact⟨by rw[seqIndex_neg (!1) h1,e],by omega,h1,by omega⟩
  .rw[if_neg h1]at h;cases h
def qQ{v:α}(h:pj xs i=!v):∃j,seqIndex? i xs.length=!j/\xs[j]?=!v/\j<xs.length/\ -(xs.length:Int)<=i/\i<xs.length:=by
 unfold pj at h;cases e:DC xs.length i with
 |none=>rw[e]at h;cases h
 |some j=>
  rw[e]at h;let⟨h1,h2,l,g⟩:=wQ e;exact⟨j,h1,h,h2,l,g⟩
def  qR(b:Expr):Prop:=∀o i,subscripted b false o i=operate [o,i] (getItem o i)
def  IxR(X:Cx)(r:R2):Prop:=
 ∀(value slice:Expr)(pins:UW)(s:Shared)(σ:St)(H:Hp)(x y:V)(v u:Value)(Q:VK),Inv X pins σ H s->RelV x v->RelV y u->r x y H Q->
  subscripted slice false v u=operate [v,u] (getItem v u)->wpAny (!4) X.A (subscriptTail value slice v u) (EP X pins σ Q) X.xe s
def  Sy(X:Cx)(id:String)(r:V->List V->Hp->VK->Prop):Prop:=
 ∀(pins:UW)(s:Shared)(σ:St)(H:Hp)(x:V)(xs:List V)(v:Value)(us:U0)(Q:VK),Inv X pins σ H s->RelV x v->Vals xs us->r x xs H Q->
  wpAny (!4) X.A (call (.builtin id) (v::us)) (EP X pins σ Q) X.xe s
section
variable{X:Cx}{a b:Expr}{ta tb:TE}{pos:Pos}
def IxR.or(h:IxR X r)(h':IxR X l):IxR X (λx y H Q=>r x y H Q\/l x y H Q):=by
 intro value slice pins s σ H x y v u Q I rx g q j;rcases q with q|q
 .exact h value slice pins s σ H x y v u Q I rx g q j
 .exact h' value slice pins s σ H x y v u Q I rx g q j
def Mc(o:IxR X r)(t:PE X a ta)(p:PE X b tb)(l:qR b):PE X (.Subscript a b pos) (LW r ta tb):=by
 intro pins s σ H Q I h;exact Subscript_ (Ie t p I h λv u g x y H2 C rx j q=>o a b pins g σ H2 x y v u Q C rx j q (l _ _))
def  Md(K:Frag):R2:=λx y H Q=>∃p xs i v,x=.ref p/\y=.int i/\SqL K H p xs/\pj xs i=!v/\Q v H
def  Me(K:Frag):R2:=λx y H Q=>∃p xs i v,x=.ref p/\y=.int i/\SqT K H p xs/\pj xs i=!v/\Q v H
def  Mg:R2:=λx y H Q=>∃z i c,x=.str z/\y=.int i/\z.length<=sizeLine/\pj z.cps.toList i=!c/\Q (.str ⟨#[c]⟩) H
def ix_list:IxR X (Md X.K):=by
 intro value slice pins s σ H x y v u Q I rx T h C;let⟨p,xs,i,z,rfl,rfl,U,he,q⟩:=h;cases rx;let⟨t,rfl⟩:=T;let⟨l,r,pl,hz⟩:=I.list U;let⟨j,h1,h2,h3,h4,h5⟩:=qQ he;let⟨w,J,g⟩:=r.get h2;have hl:=r.length;have hn:=jS;have fin:EP X pins σ Q w s:=⟨z,H,I,g,q⟩;by_cases h0:0<=i
 .have o:i.toNat=j:=by
   rw[seqIndex_of h0 h5]at h1;exact Option.some.inj h1
  exact item_listR pl.isList h0 (!1) (by rw[o];simpa using J) fin C
 .have o:(i+(l.toArray.size:Int)).toNat=j:=by
   rw[seqIndex_neg (!1) h4]at h1;rw[size_toArray,<-hl];exact Option.some.inj h1
  exact subscriptTail_builtinR pl.isList.typeIs slot_list_getitem.lookup
   (wpAny_getItem_list_neg pl.isList (!1) (by rw[size_toArray]<;>omega) (!1) (by rw[o];simpa using J) ⟨rfl,fin⟩) C
def ix_tup:IxR X (Me X.K):=by
 intro value slice pins s σ H x y v u Q I rx l h C;let⟨p,xs,i,z,rfl,rfl,J,U,q⟩:=h;cases rx;let⟨t,rfl⟩:=l;let⟨o,r,pl,hz⟩:=I.tuple J;let⟨j,h1,h2,h3,h4,h5⟩:=qQ U;let⟨w,ew,g⟩:=r.get h2;have T:=r.length;have hn:=jS;have fin:EP X pins σ Q w s:=⟨z,H,I,g,q⟩;exact subscriptTail_builtinR pl.typeIs slot_tuple_getitem.lookup
  (getItem_tuple pl (!1) (!1) (by rw[size_toArray,<-T];exact h1) (by simpa using ew) ⟨rfl,fin⟩) C
def Ip:IxR X Mg:=by
 intro value slice pins s σ H x y v u Q I rx g h l;let⟨z,i,c,rfl,rfl,U,p,q⟩:=h;let⟨t,rfl⟩:=rx;let⟨T,rfl⟩:=g;let⟨j,h1,h2,h3,C,r⟩:=qQ p;have o:z.cps.toList.length=z.length:=by simp[Str.length]
 rw[o]at h1 C r;have hn:=jS;exact tail_any (typeIs_str s z t) slot_str_getitem.lookup (getItem_str (by
  have J:decide (i< -(2^63:Int))=false:=decide_eq_false (!1);have e2:decide (i≥2^63)=false:=decide_eq_false (!1);rw[J,e2,Bool.or_false]) (by rw[h1];simpa using h2) ⟨.str ⟨#[c]⟩,H,I.tok _,⟨_,rfl⟩,q⟩) l
def  Sz(K:Frag):R2:=λx y H Q=>Md K x y H Q\/Me K x y H Q\/Mg x y H Q
def ix_seq:IxR X (Sz X.K):=ix_list.or (ix_tup.or Ip)
def vd(g:U0)(n j:Nat)(u:Value):Obj.mapSeq (·.setIfInBounds j u) {cls:=.type "list",data:=.seq g.toArray n}={cls:=.type "list",data:=.seq (g.set j u).toArray n}:=by
 simp[Obj.mapSeq]
def Inv.lst{σ:St}(I:Inv X pins σ H s)(h:H p=!(.lst xs)):
  ∃(g:U0)(n:Nat),Vals xs g/\s.heap.get? p=some {cls:=.type "list",data:=.seq g.toArray n}/\xs.length<=sizeLine:=by
 let⟨z,g,n,r,e⟩:=I.hok p _ h
 grind
def Inv.lstUpd{σ:St}{its its':U0}(I:Inv X pins σ H s)(h:H p=!(.lst xs))(ho:s.heap.get? p=some {cls:=.type "list",data:=.seq its.toArray n})(hf:f {cls:=.type "list",data:=.seq its.toArray n}={cls:=.type "list",data:=.seq its'.toArray n'})(r:Vals ys its')(hz:ys.length<=sizeLine)(t:Nat):
  Inv X pins σ (upd H p (.lst ys)) {s with heap:=s.heap.update p f,toks:=t}:=by
 have e:(s.heap.update p f).get? p=some {cls:=.type "list",data:=.seq its'.toArray n'}:=by
  rw[Heap.get?_update_self f ho (by rw[hf]<;>rfl),hf]
 refine I.write (by rw[h];trivial) (.inl rfl) (λb u hb q=>(Heap.get?_update_other _ _ (Ne.symm hb)).trans q) ⟨_,e⟩ ?_
 exact⟨hz,its',n',r,e⟩
def  Mh:V->V->V->Hp->(Hp->Prop)->Prop:=λo i v H Q=>∃p xs k j,o=.ref p/\i=.int k/\H p=!(.lst xs)/\DC xs.length k=!j/\Q (upd H p (.lst (xs.set j v)))
def Ai:Ia X Mh:=by
 intro pins s σ H o i v ov iv u Q I ro ri rv h;let⟨p,xs,k,j,rfl,rfl,hp,hj,q⟩:=h;cases ro;let⟨t,rfl⟩:=ri;let⟨its,n,r,ho,hz⟩:=I.lst hp;let⟨h1,h2,h3,h4⟩:=wQ hj;have hl:=r.length;have hn:=jS;have I':Inv X pins σ (upd H p (.lst (xs.set j v))) {s with heap:=s.heap.update p (Obj.mapSeq (·.setIfInBounds j u))}:=
  I.lstUpd hp ho (vd its n j u) (r.set rv j) (by rw[List.length_set];exact hz) s.toks
 by_cases h0:0<=k
 .have hk:k.toNat=j:=by
   rw[seqIndex_of h0 h4]at h1;exact Option.some.inj h1
  exact PySem.W.ki_setAt ho h0 (!1) (by rw[size_toArray,<-hl];exact h4) (by rw[hk];exact⟨_,I',q⟩)
 .have hk:(k+(its.toArray.size:Int)).toNat=j:=by
   rw[seqIndex_neg (!1) h3]at h1;rw[size_toArray,<-hl];exact Option.some.inj h1
  exact PySem.W.ki_setBack ho (!1) (by rw[size_toArray,<-hl];exact h3) (!1) (by rw[hk];exact⟨_,I',q⟩)
def qS(lo hi:Va)(n:Nat):(sliceBounds lo hi none n).1=((HT.sIx n 0 lo:Nat):Int)/\(sliceBounds lo hi none n).2.1=((HT.sIx n n hi:Nat):Int)/\(sliceBounds lo hi none n).2.2=1:=by
 refine⟨?_,?_,rfl⟩
 .cases lo with
  |none=>simp[sliceBounds,HT.sIx]
  |some i=>
   simp only[sliceBounds,HT.sIx,Option.getD_none,show(1:Int)>0 by decide,if_true];by_cases h:i<0
   .simp only[h,if_true]<;>omega
   .simp only[h,if_false]<;>omega
 .cases hi with
  |none=>simp[sliceBounds,HT.sIx]
  |some i=>
   simp only[sliceBounds,HT.sIx,Option.getD_none,show(1:Int)>0 by decide,if_true];by_cases h:i<0
   .simp only[h,if_true]<;>omega
   .simp only[h,if_false]<;>omega
def pA(g:U0)(lo hi:Va):slicePick g.toArray lo hi none=((g.drop (HT.sIx g.length 0 lo)).take (HT.sIx g.length g.length hi-HT.sIx g.length 0 lo)).toArray:=by
 let⟨h1,h2,j⟩:=qS lo hi g.toArray.size;unfold slicePick;rw[h1,h2,j];simp only[sliceRange_one,pick_run,size_toArray]<;>rfl
def  Qr(K:Frag):V->Va->Va->Hp->VK->Prop:=λx lo hi H Q=>∃a xs,x=.ref a/\SqL K H a xs/\∀p,H p=none->Q (.ref p) (upd H p (.lst (yC xs lo hi)))
def D2:SlR X (Qr X.K):=by
 intro pins s σ H x v J C lo hi T Q I rx t pl pu h;let⟨a,xs,rfl,p,q⟩:=h;cases rx;let⟨l,r,j,o⟩:=I.list p;have g:=r.length;refine⟨"list",_,slot_list_getitem.lookup,j.isList.typeIs,?_⟩;refine wpAny_getItem_list_slice j.isList t pl pu .none (by simp) ?_ (by rw[size_toArray]<;>omega);rw[pA,<-g];refine⟨.ref s.heap.objs.size,_,I.laid (λb U q=>Vc _ q) (Vy _) ?_,rfl,q _ (I.hok.fresh (Vy _))⟩;exact⟨Vn (lV xs lo hi) o,_,0,(r.drop _).take _,Vf _ rfl⟩
def  iD:V->Bool
 |.non=>true
 |.bl _=>true
 |.int _=>true
 |.str _=>true
 |_=>false
noncomputable def  D3:V->V->Bool
 |.non,.non=>true
 |.bl a,.bl b=>a==b
 |.bl a,.int b=>(if a then 1 else 0)==b
 |.int a,.bl b=>a==(if b then 1 else 0)
 |.int a,.int b=>a==b
 |.str a,.str b=>a==b
 |_,_=>false
def Aj(j:RelV y u)(rx:RelV x v)(o:iD y=true)(l:iD x=true):SeqAt.EqAt A s u v (D3 y x):=by
 cases y with
 |non=>
  cases j;cases x with
  |non=>cases rx;exact SeqAt.EqAt.same _
  |bl b=>cases rx;exact SeqAt.EqAt.none_bool b
  |int b=>let⟨t,rfl⟩:=rx;exact SeqAt.EqAt.none_int b t
  |str b=>let⟨t,rfl⟩:=rx;exact SeqAt.EqAt.none_str b t
  |_=>exact absurd (l) Vg
 |bl a=>
  cases j;cases x with
  |non=>cases rx;exact SeqAt.EqAt.bool_none a
  |bl b=>cases rx;exact SeqAt.EqAt.bool_bool a b
  |int b=>let⟨t,rfl⟩:=rx;exact SeqAt.EqAt.bool_int a b t
  |str b=>let⟨t,rfl⟩:=rx;exact SeqAt.EqAt.bool_str a b t
  |_=>exact absurd (l) Vg
 |int a=>
  let⟨g,rfl⟩:=j;cases x with
  |non=>cases rx;exact SeqAt.EqAt.int_none a g
  |bl b=>cases rx;exact SeqAt.EqAt.int_bool a g b
  |int b=>let⟨t,rfl⟩:=rx;exact SeqAt.EqAt.int_int a g b t
  |str b=>let⟨t,rfl⟩:=rx;exact SeqAt.EqAt.int_str a g b t
  |_=>exact absurd (l) Vg
 |str a=>
  let⟨g,rfl⟩:=j;cases x with
  |non=>cases rx;exact SeqAt.EqAt.str_none a g
  |bl b=>cases rx;exact SeqAt.EqAt.str_bool a g b
  |int b=>let⟨t,rfl⟩:=rx;exact SeqAt.EqAt.str_int a g b t
  |str b=>let⟨t,rfl⟩:=rx;exact SeqAt.EqAt.str_str a g b t
  |_=>exact absurd (l) Vg
 |_=>exact absurd (o) Vg
def  ve(x:V)(u:Value):Bool:=match u with
 |.none=>D3 .non x
 |.bool b=>D3 (.bl b) x
 |.int i _=>D3 (.int i) x
 |.str z _=>D3 (.str z) x
 |_=>false
def Ak(r:RelV y u)(f:iD y=true):ve x u=D3 y x:=by
 cases y with
 |non=>cases r;rfl
 |bl b=>cases r;rfl
 |int i=>let⟨t,rfl⟩:=r;rfl
 |str z=>let⟨t,rfl⟩:=r;rfl
 |_=>exact absurd (f) Vg
def kg:∀{xs:List V}{us:U0},Vals xs us->xs.all iD=true->us.any (ve x)=xs.any λy=>D3 y x
 |_,_,.nil,_=>rfl
 |y::xs,u::us,.cons r t,f=>by
  rw[List.all_cons,and_eq_true]at f;rw[List.any_cons,List.any_cons,Ak r f.1,kg t f.2]
def iE(rx:RelV x v)(fx:iD x=true):∀{xs:List V}{us:U0},Vals xs us->xs.all iD=true->∀u∈us,SeqAt.EqAt A s u v (ve x u)
 |_,_,.nil,_=>λu hu=>by cases hu
 |y::xs,u::us,.cons r t,f=>λu' hu=>by
  rw[List.all_cons,and_eq_true]at f;rcases mem_cons.mp hu with rfl|hu
  .rw[Ak r f.1];exact Aj r rx f.1 fx
  .exact iE rx fx t f.2 u' hu
def  Qs(x:V)(xs:List V):Bool:=xs.any λy=>D3 y x
def  Pi(K:Frag)(neg:Bool):R2:=λx y H Q=>∃p xs,y=.ref p/\(SqL K H p xs\/SqT K H p xs)/\iD x=true/\xs.all iD=true/\Q (.bl (if neg then not (Qs x xs) else Qs x xs)) H
def op_in_seq:OpR X (compareOp .In) (Pi X.K false):=by
 intro pins s σ H x y v u Q I rx t h;let⟨p,xs,rfl,j,o,fs,q⟩:=h;cases t;rcases j with j|j
 .let⟨g,r,pl,C⟩:=I.list j;refine SeqAt.in_listAt (ve x) pl.isList (λw l=>iE rx o r fs w (by simpa using l)) ⟨.bl _,H,I,rfl,?_⟩;rw[show g.toArray.any (ve x)=g.any (ve x)by simp,kg r fs];exact q
 .let⟨g,r,pl,C⟩:=I.tuple j;refine SeqAt.in_tupleAt (ve x) pl (λw l=>iE rx o r fs w (by simpa using l)) ⟨.bl _,H,I,rfl,?_⟩;rw[show g.toArray.any (ve x)=g.any (ve x)by simp,kg r fs];exact q
def op_notIn_seq:OpR X (compareOp .NotIn) (Pi X.K true):=by
 intro pins s σ H x y v u Q I rx t h;let⟨p,xs,rfl,j,o,fs,q⟩:=h;cases t;rcases j with j|j
 .let⟨g,r,pl,C⟩:=I.list j;refine SeqAt.notIn_listAt (ve x) pl.isList (λw l=>iE rx o r fs w (by simpa using l)) ⟨.bl _,H,I,rfl,?_⟩;rw[show g.toArray.any (ve x)=g.any (ve x)by simp,kg r fs];exact q
 .let⟨g,r,pl,C⟩:=I.tuple j;refine SeqAt.notIn_tupleAt (ve x) pl (λw l=>iE rx o r fs w (by simpa using l)) ⟨.bl _,H,I,rfl,?_⟩;rw[show g.toArray.any (ve x)=g.any (ve x)by simp,kg r fs];exact q
def call_len_seq:eQ X (.builtin "len") (λxs H Q=>∃p ys,xs=[.ref p]/\(SqL X.K H p ys\/SqT X.K H p ys)/\Q (.int ys.length) H):=by
 intro pins s σ H xs C Q I r h;let⟨p,ys,rfl,j,q⟩:=h;let⟨u,rfl,rx⟩:=fC r;cases rx;have J:=jS;rcases j with j|j
 .let⟨o,l,pl,t⟩:=I.list j;have g:=l.length;exact Calls.call_len_list pl.isList (by simp only[size_toArray]<;>omega) ⟨.int ys.length,H,I.tok _,⟨s.toks+1,by rw[size_toArray,g]⟩,q⟩
 .let⟨o,l,pl,t⟩:=I.tuple j;have g:=l.length;exact len_tuple pl (by simp only[size_toArray]<;>omega) ⟨.int ys.length,H,I.tok _,⟨s.toks+1,by rw[size_toArray,g]⟩,q⟩
def qT:eQ X (.type "list") (λxs H Q=>∃p ys,xs=[.ref p]/\(SqL X.K H p ys\/SqT X.K H p ys)/\∀l,H l=none->Q (.ref l) (upd H l (.lst ys))):=by
 intro pins s σ H xs us Q I r h;let⟨p,ys,rfl,T,q⟩:=h;let⟨u,rfl,rx⟩:=fC r;cases rx;have fin:∀(g:U0),Vals ys g->ys.length<=sizeLine->∀(h':Heap)(t:Nat),(∀b o',s.heap.get? b=!o'->h'.get? b=!o')->
   h'.get? s.heap.objs.size=some {cls:=.type "list",dict:=none,data:=.seq g.toArray t,slots:=#[]}->EP X pins σ Q _ {s with heap:=h'}:=λg j J h' t C e=>
  ⟨.ref s.heap.objs.size,_,I.laid C (Vy _) (show ObjOk X.prog X.w _ h' _ (.lst ys)from⟨J,g,t,j,e⟩),rfl,q _ (I.hok.fresh (Vy _))⟩
 rcases T with T|T
 .let⟨g,j,pl,J⟩:=I.list T;have U:=j.length;let⟨o,ho,hc,n,hd⟩:=pl.isList;exact call_list_seq p (.inl rfl) ho hc hd (λh' t C e=>fin g j J h' t C e) (by simp only[size_toArray]<;>omega)
 .let⟨g,j,pl,J⟩:=I.tuple T;have U:=j.length;let⟨o,ho,hc,n,hd⟩:=pl;exact call_list_seq p (.inr rfl) ho hc hd (λh' t C e=>fin g j J h' t C e) (by simp only[size_toArray]<;>omega)
def call_tuple_of:eQ X (.type "tuple") (λxs H Q=>∃p ys,xs=[.ref p]/\((SqL X.K H p ys/\∀l,H l=none->Q (.ref l) (upd H l (.tup ys)))\/(SqT X.K H p ys/\Q (.ref p) H))):=by
 intro pins s σ H xs us Q I r h;let⟨p,ys,rfl,h⟩:=h;let⟨u,rfl,rx⟩:=fC r;cases rx;rcases h with⟨hq,q⟩|⟨hq,q⟩
 .let⟨its,r',pl,hz⟩:=I.list hq;have hlen:=r'.length;refine call_tuple_list pl.isList (λh' kp=>?_) (by simp only[size_toArray]<;>omega);have I1:Inv X pins σ H {s with heap:=h'}:=I.kept kp;have I2:Inv X pins σ (upd H h'.objs.size (.tup ys)) {s with heap:=h'.push {cls:=.type "tuple",data:=.seq its.toArray}}:=
   I1.laid (λb o e=>Vc _ e) (Vy _) (⟨hz,its,r',IsTup.new _ _⟩)
  exact⟨.ref h'.objs.size,_,I2,rfl,q _ (I1.hok.fresh (Vy _))⟩
 .let⟨its,r',pl,hz⟩:=I.tuple hq;exact call_tuple_same pl ⟨.ref p,H,I,rfl,q⟩
def  Qt(K:Frag)(T:String)(x:V)(H:Hp):Prop:=match x with
 |.str _=>T="str"
 |.int _=>T="int"
 |.ref p=>(T="list"/\∃xs,SqL K H p xs)\/(T="tuple"/\∃o,K.lookup p=!o/\o.cls=.type "tuple"/\o.dict=none)\/
  (T="dict"/\((∃kvs,H p=!(.dK kvs))\/∃kvs,H p=!(.dT kvs)))\/(T="set"/\∃S n,H p=!(.set S n))
 |_=>False
def Al{σ:St}(I:Inv X pins σ H s)(r:RelV x v)(ty:Qt X.K T x H):
  s.TypeIs v T/\∀a,v=.ref a->∃j,s.heap.get? a=!j/\j.dict=none:=by
 cases x with
 |str z=>
  let⟨t,rfl⟩:=r;cases(ty);exact⟨typeIs_str s z t,λ_ e=>nomatch e⟩
 |int i=>
  let⟨t,rfl⟩:=r;cases(ty);exact⟨typeIs_int s i t,λ_ e=>nomatch e⟩
 |ref p=>
  cases r;rcases ty with⟨rfl,xs,C⟩|⟨rfl,o,g,J,hd⟩|⟨rfl,g⟩|⟨rfl,S,n,g⟩
  .let⟨l,_,pl,_⟩:=I.list C;refine⟨pl.isList.typeIs,λa e=>?_⟩;cases e;let⟨o,n,e,c,hd,_⟩:=pl;exact⟨o,e,hd⟩
  .refine⟨⟨o,I.kIn p o g,J⟩,λa e=>?_⟩;cases e;exact⟨o,I.kIn _ o g,hd⟩
  .have z:∃o,s.heap.get? p=!o/\o.ExactDict:=by
    rcases g with⟨kvs,g⟩|⟨kvs,g⟩
    .let⟨_,_,_,_,o,_,_,e,ex,_⟩:=I.hok p _ g;exact⟨o,e,ex⟩
    .let⟨_,_,_,_,o,_,_,e,ex,_⟩:=I.hok p _ g;exact⟨o,e,ex⟩
   let⟨o,e,ex⟩:=z;refine⟨⟨o,e,ex.1⟩,λa e2=>?_⟩;cases e2;exact⟨o,e,ex.2.1⟩
  .let⟨o,_,_,_,e,ex,_⟩:=I.hok p _ g;refine⟨⟨o,e,ex.1⟩,λa e2=>?_⟩;cases e2;exact⟨o,e,ex.2.1⟩
 |_=>exact False.elim ty
def  Qu(K:Frag)(T:String)(r:V->List V->Hp->VK->Prop)(to:TE):TE:=λσ H Q=>to σ H λx H1=>Qt K T x H1/\r x [] H1 Q
def  Ub(K:Frag)(T:String)(r:V->List V->Hp->VK->Prop)(to:TE)(t:TA):TE:=λσ H Q=>to σ H λx H1=>Qt K T x H1/\t σ H1 λxs H2=>r x xs H2 Q
variable{o e:Expr}{es:U8}{to:TE}{t:TA}{name:Str}{apos cpos:Pos}{T id:String}{r:V->List V->Hp->VK->Prop}
def Am(pa:PlainAttrs T)(slot:Slot T name id)(l:typeOf (.builtin id)=pure (.type "method_descriptor"))(hm:Sy X id r)(U:PE X o to)
  (j:attributeBase o name X.env (eval o X.env)=eval o X.env:=by rfl) (g:(apos.endLine==cpos.line)=true:=by rfl):PE X (.Call (.Attribute o name apos) [] [] cpos) (Qu X.K T r to):=by
 intro pins s σ H Q I h
 refine wpAny_Call_method0_late j g (bq (U pins s σ H _ I h) λv C ⟨x,H1,t,p,ty,J⟩=>?_)
 let⟨h1,h2⟩:=Al t p ty
 exact⟨T,id,pa,slot,l,h1,h2,Calls.callWith_builtin rfl (PySem.evalArgs_none (hm pins C σ H1 x [] v [] Q t p .nil J))⟩
def pY(pa:PlainAttrs T)(slot:Slot T name id)(C:typeOf (.builtin id)=pure (.type "method_descriptor"))(hm:Sy X id r)(ho:PE X o to)(ha:PA X (e::es) t)
  (l:attributeBase o name X.env (eval o X.env)=eval o X.env:=by rfl)
  (p:((backTo cpos (starEach (e::es) X.env)).all (λx=>not x.1)&&(backToKw cpos (keywordEach [] X.env)).all (λx=>x.1.isSome)
   &&decide ((e::es).length+([]:List Keyword).length+(if([]:List Keyword).isEmpty then 0 else 1)<30))=true:=by rfl)
  (j:(apos.endLine==cpos.line)=true:=by rfl) (hs:starEach (e::es) X.env=(false,eval e X.env)::starEach es X.env:=by rfl) (g:(backTo cpos (starEach es X.env)).any (·.1)=false:=by rfl):
  PE X (.Call (.Attribute o name apos) (e::es) [] cpos) (Ub X.K T r to t):=by
 intro pins s σ H Q I h
 refine wpAny_Call_method_late l p j rfl (bq (ho pins s σ H _ I h) λv s1 ⟨x,H1,I1,J,ty,q1⟩=>?_)
 let⟨h1,h2⟩:=Al I1 J ty
 refine⟨T,id,pa,slot,C,h1,h2,?_⟩
 have U:=ha cpos pins s1 σ H1 _ I1 q1
 rw[hs]at U⊢
 refine Calls.callWith_builtin (by show(false||(backTo cpos (starEach es X.env)).any (·.1))=false;rw[g]<;>rfl) (Calls.evalArgs_plain ?_)
 exact bq U λus s2 ⟨vs,H2,I2,r2,q2⟩=>hm pins s2 σ H2 x vs v us Q I2 J r2 q2
end
def  Mi(X:Cx)(id:String)(r:V->List V->Hp->VK->Prop):Prop:=
 ∀(pins:UW)(s:Shared)(σ:St)(H:Hp)(x:V)(xs:List V)(v:Value)(us:U0)(Q:VK),Inv X pins σ H s->RelV x v->Vals xs us->r x xs H Q->
  wpAny (!4) X.A (call (.builtin id) (v::us)) (EP X pins σ Q) X.xe s
def Vals.one:∀{x:V}{g:U0},Vals [x] g->∃u,g=[u]/\RelV x u
 |_,_,.cons r .nil=>⟨_,rfl,r⟩
def Vals.zero:∀{g:U0},Vals [] g->g=[]
 |_,.nil=>rfl
def Vals.reverse(h:Vals xs g):Vals xs.reverse g.reverse:=by
 induction h with
 |nil=>exact .nil
 |cons r t j=>rw[List.reverse_cons,List.reverse_cons];exact Vals.append j (.cons r .nil)
def Inv.lset{its its':U0}(I:Inv X pins σ H s)(hH:H l=!(.lst xs))(e:s.heap.get? l=some {cls:=.type "list",data:=.seq its.toArray n})(hf:f its.toArray=its'.toArray)(hv:Vals ys its')(hz:ys.length<=sizeLine):
  Inv X pins σ (upd H l (.lst ys)) {s with heap:=s.heap.update l (Obj.mapSeq f),toks:=t'}:=by
 have q:=PySem.IsL.update e f
 rw[hf]at q
 refine I.write (by rw[hH];exact trivial) (.inl rfl) (λb' u hb hu=>(Heap.get?_update_other s.heap _ (Ne.symm hb)).trans hu) ⟨_,q⟩ ?_
 exact⟨hz,its',_,hv,q⟩
def Inv.lnew(I:Inv X pins σ H s)(hv:Vals ys its)(hz:ys.length<=sizeLine):
  Inv X pins σ (upd H s.heap.objs.size (.lst ys)) {s with heap:=s.heap.push {cls:=.type "list",data:=.seq its.toArray},toks:=t'}:=
 I.laid (λ_ _ q=>Vc _ q) (Vy _) ⟨hz,its,0,hv,Vf _ rfl⟩
def Inv.fresh(I:Inv X pins σ H s):H s.heap.objs.size=none:=I.hok.fresh (Vy _)
def Inv.lstM{X:Cx}{pins:UW}{σ:St}{H:Hp}{s:Shared}{l:Addr}{xs:List V}(I:Inv X pins σ H s)(j:H l=!(.lst xs)):xs.length<=sizeLine/\∃(g:U0)(n:Nat),Vals xs g/\xs.length=g.length/\s.heap.get? l=some {cls:=.type "list",data:=.seq g.toArray n}:=by
 let⟨z,g,n,r,e⟩:=I.hok l _ j;exact⟨z,g,n,r,r.length,e⟩
def An(h:n<=sizeLine):Builtin.List.listTooLong n=false:=by
 exact decide_eq_false (!1)
section
variable{X:Cx}
def  D4:V->List V->Hp->VK->Prop:=λx vs H Q=>∃l xs y,x=.ref l/\vs=[y]/\H l=!(.lst xs)/\xs.length<sizeLine/\Q .non (upd H l (.lst (xs++[y])))
def pZ:Mi X "list.append" D4:=by
 intro pins s σ H x p v t Q I rx rv h;let⟨l,xs,y,rfl,rfl,j,C,q⟩:=h;cases rx;let⟨u,rfl,o⟩:=rv.one;let⟨z,g,n,r,J,e⟩:=I.lstM j;refine call_meets F.slot_list_append ⟨_,e,rfl⟩ F.entry_list_append (F.args_list_append_2 _ _) (PySem.list_append l g.toArray n u (by rw[size_toArray];omega)) ⟨e,?_⟩;refine⟨.non,_,I.lset j e (by simp) (r.append (.cons o .nil)) ?_,rfl,q⟩;grind
def  Ao:V->List V->Hp->VK->Prop:=λx vs H Q=>∃l xs,x=.ref l/\vs=[]/\H l=!(.lst xs)/\Q .non (upd H l (.lst xs.reverse))
def vf:Mi X "list.reverse" Ao:=by
 intro pins s σ H x p v t Q I rx rv h;let⟨l,xs,rfl,rfl,o,q⟩:=h;cases rx;have j:=rv.zero;subst j;let⟨z,g,n,r,C,e⟩:=I.lstM o;refine call_meets F.slot_list_reverse ⟨_,e,rfl⟩ F.entry_list_reverse (F.args_list_reverse_1 _) (AutoSeq1.list_reverse_list_0 l g.toArray n (by rw[size_toArray];omega)) ⟨e,?_⟩;refine⟨.non,_,I.lset (its':=g.reverse) o e (by simp) r.reverse ?_,rfl,q⟩;rw[List.length_reverse];omega
def  Iq:V->List V->Hp->VK->Prop:=λx vs H Q=>∃l xs,x=.ref l/\vs=[]/\H l=!(.lst xs)/\Q .non (upd H l (.lst []))
def Ap:Mi X "list.clear" Iq:=by
 intro pins s σ H x vs v us Q I rx rv h;let⟨l,xs,rfl,rfl,hH,q⟩:=h;cases rx;have hus:=rv.zero;subst hus;let⟨z,its,n,r,hl,e⟩:=I.lstM hH;refine call_meets F.slot_list_clear ⟨_,e,rfl⟩ F.entry_list_clear (F.args_list_clear_1 _) (AutoSeq1.list_clear_list_0 l its.toArray n (by rw[size_toArray];omega)) ⟨e,?_⟩;exact⟨.non,_,I.lset (its':=[]) (ys:=[]) hH e rfl .nil (Nat.zero_le _),rfl,q⟩
end
section
variable{prog:Program}{w:World}{A:Around}{E:UZ}{s:Shared}
set_option maxRecDepth 100000 in
end
end L2
namespace Att
open PySem PySem.W PySem.Calls PyProof.Rows
def mz:∀(g:U4)(j:U0),WellAll P h j (g.map WData.int)->IntsAre j g:=by
 intro g;induction g with
 |nil=>
  intro j w;cases w;exact .nil
 |cons n g l=>
  intro j w;cases w with
  |cons a b=>
   cases a;exact .cons _ _ (l _ b)
def yD{l:OpenLaw}(hn:l.most=!n)(hpre:l.row.toRowW.claim.pre args=true)(hwl:WellAll P h vals args):
  ∃a vs ns,vals=[Value.ref a]/\args=[WData.list (ns.map WData.int)]/\h.get? a=some {cls:=.type "list",data:=.seq vs.toArray}/\IntsAre vs ns/\ns.length<=n:=by
 have hsh:WShape.hasAll [] args [.list .int]=true:=(pre_splitW hpre).1
 have hc:l.pre.holds [] {args:=args}=true:=(pre_splitW hpre).2
 let⟨d,r,rfl,h1,h2⟩:=hasAllW_cons hsh
 obtain rfl:=hasAllW_nil h2
 let⟨xs,rfl,h3⟩:=hasW_list h1
 let⟨ns,rfl⟩:=items_int h3
 have hlen:ns.length<=n:=by
  have h4:(WTm.not (.lt (.lit (.int (n:Int))) (.len (.arg 0)))).holds [] {args:=[.list (ns.map .int)]}=true:=by
   have h4:=(holds_andW hc).1;rw[hn]at h4;exact h4
  have h5:=condW_of h4 (w_not (w_lt w_lit (w_len_list (w_arg rfl))));refine Nat.le_of_not_lt λq=>?_;first
   |(rw[decide_eq_true q']at h5;exact absurd h5 (!3))
   |(simp at h5;omega)
 cases hwl with
 |cons w1 w2=>
  cases w2;cases w1 with
  |list ho hall=>exact⟨_,_,ns,rfl,rfl,ho,mz ns _ hall,hlen⟩
def yE(l:OpenLaw)(args:List WData):l.row.toRowW.claim.post args (.bool true) args=true:=
 postW_of
  (by first|rfl|decide|simp[WShape.has,WShape.arms,WShape.armsAll])
  (w_eq_bool (w_res rfl) w_lit) rfl
def attach_call{l:OpenLaw}(hn:l.most=!n)(hdf:d.params.defaults=[])(call:∀(w:World)(s₀ s₁:Shared)(mg mb:Str->U1)(fa:Addr)(o:Obj)(pm cd doc:Value)(a:Addr)(vs:U0)(ns:U4),
   Ground q loose [] XP w s₀ mg mb s₁.heap->YP w s₁.heap->
   s₁.heap.get? fa=!o->o.data=.func (docDef d.name d.params d.body d.scope pm cd doc)->s₁.heap.CodeRec cd d.name->mg d.name=!(.ref fa)->
   s₁.heap.get? a=some {cls:=.type "list",data:=.seq vs.toArray}->IntsAre vs ns->ns.length<=n->s₁.gens=#[]->
   codeAny (model l.prog w) callerA (.call (.ref fa) ⟨[.ref a],[]⟩) (λr s'=>r=.ok (.ret (.bool true))/\OldK s₁.heap s'.heap/\s'.os=s₁.os/\AllBare s'.gens) s₁):
  WalkO q loose XP YP l.row.toRowW d [] (λf vs=>PySem.call f vs):=by
 intro w s₀ s₁ mg mb G ρ fa o pm cd doc dV kV ho hd hcd hD hmg hg args vals as hpre hlay hrd hwl hlo
 obtain rfl:dV=.none:=Dflts.none hD hdf
 obtain rfl:kV=.none:=Dflts.noKw hD
 let⟨a,vs,ns,rfl,rfl,hobj,hints,hlen⟩:=yD hn hpre hwl
 refine enter_call (codeAny_mono (call w s₀ s₁ mg mb fa o pm cd doc a vs ns G ρ ho (fd_plain hd) hcd hmg hobj hints hlen hg) λr s' hq=>?_)
 let⟨rfl,h2,h3,h4⟩:=hq
 exact⟨.inl ⟨.bool true,.bool true,[],rfl,λ_=>rfl,.bool true,yE l _,λ_=>⟨List.Pairwise.nil,λ_ hm=>(nomatch hm)⟩⟩,h2,h3,h4⟩
end Att
namespace L2
open PySem PySem.Spec PyProof.Rows
def p0:∀{vs:U0}{ns:U4},IntsAre vs ns->Vals (ns.map V.int) vs
 |_,_,.nil=>.nil
 |_,_,.cons n t h=>.cons ⟨t,rfl⟩ (p0 h)
def  Qv(H:Hp):Prop:=∀b,H b=none\/∃o xs,H b=!(.frz o (.lst xs))
def  dD(H:Hp):Hp:=λb=>match lamTabs.lookup b with
 |some z=>!(.cod #[] z.1 z.2)
 |none=>H b
def iF(h:lamTabs.lookup b=none):dD H b=H b:=by unfold dD;rw[h]
def withT_yes(h:lamTabs.lookup b=!z):dD H b=!(.cod #[] z.1 z.2):=by unfold dD;rw[h]
def  qU(K:Frag)(h:Heap):Prop:=∀b z,lamTabs.lookup b=!z->h.get? b=some {cls:=.none,data:=.fields #[]}/\K.lookup b=none/\isCodeTable h b
def Aq{K}(hT:qU K g.heap)(KX:K.In g.heap)(hns:g.heap.Ns mainGlobals mg)(p:g.heap.Ns builtinsNs mb)(hbb:∀x:Str,x≠"__name__" ->mb x=bootBuiltins x)(hlim:g.heap.NoLimit)(hg:g.gens=#[])(ha:g.heap.get? a=some {cls:=.type "list",data:=.seq C.toArray})(hi:IntsAre C ns)(hl:ns.length<=sizeLine)(hr:Room k callerA)(F:∀base:Heap,K.In base->base.Ns mainGlobals mg->FnOk P w K mg base CX k fa fd [x] sp)(U:∀(s:Shared)(u:Value),BindsTo s fd ⟨[u],[]⟩ [(x,u)])(hsp:∀H:Hp,SqL K H a (ns.map V.int)->sp [.ref a] H (λv _=>v=.bl true) λ_ _ _=>False)(hCX:∀H e s',CX [] H g (λ_ _ _=>False) e s'->False):
  codeAny (model P w) callerA (.call (.ref fa) ⟨[.ref a],[]⟩) (λr s'=>r=.ok (.ret (.bool true))/\OldK g.heap s'.heap/\s'.os=g.os/\AllBare s'.gens) g:=by
 have rv:=p0 hi
 have lenV:=hi.length
 -- from an abstract heap in which nothing but the J may be tracked
 have core:∀H:Hp,Qv H->SqL K H a (ns.map V.int)->HOk P w H g.heap->(∀b,H b≠none->b=a)->(H a≠none->K.lookup a=none)->
   codeAny (model P w) callerA (.call (.ref fa) ⟨[.ref a],[]⟩) (λr s'=>r=.ok (.ret (.bool true))/\OldK g.heap s'.heap/\s'.os=g.os/\AllBare s'.gens) g:=by
  intro l hO hS0 hok0 hA0 hK
  have hTa:lamTabs.lookup a=none:=by
   cases q:lamTabs.lookup a with
   |none=>rfl
   |some z=>
    have e:=(hT a z q).1
    rw[ha]at e
    cases e
  have up:∀b o,l b=!o->dD l b=!o:=λb o e=>by
   rw[iF (by rw[hA0 b (by rw[e];simp)];exact hTa)];exact e
  have hA:∀b,dD l b≠none->b=a\/∃z,lamTabs.lookup b=!z:=λb h=>by
   cases q:lamTabs.lookup b with
   |some z=>exact .inr ⟨z,rfl⟩
   |none=>rw[iF q]at h;exact .inl (hA0 b h)
  have hS:=SqL.up up hS0
  have hok:HOk P w (dD l) g.heap:=λb o e=>by
   cases q:lamTabs.lookup b with
   |some z=>
    rw[withT_yes q]at e
    cases e
    exact .inl (hT b z q).1
   |none=>
    rw[iF q]at e
    exact(hok0 b o e).stay (λ_ _ _ z=>z) (λc z=>up _ _ z) (λc xs z=>up _ _ z) λc o' u' z=>up _ _ z
  have j:∀{b:Addr}{o:Obj},g.heap.get? b=!o->dD l b=none->(qK g.heap _).get? b=!o:=λe n=>zJ e n
  have noA:∀{b:Addr}{o:Obj}{es:Array DictEntry}{ep:Nat},g.heap.get? b=!o->o.data=.dict es ep->dD l b=none:=λ{b o es ep} e d=>by
   cases q:dD l b with
   |none=>rfl
   |some u=>
    rcases hA b (by rw[q];simp)with e'|⟨z,e'⟩
    .subst e'
     rw[ha]at e;cases e
     have d':=d
     cases d'
    .rw[(hT b z e').1]at e;cases e
     have d':=d
     cases d'
  have t:∀{b:Addr}{m:Str->U1},g.heap.Ns b m->(qK g.heap (dD l)).Ns b m:=λ{b m} ⟨o,es,ep,e,d,r⟩=>⟨o,es,ep,j e (noA e d),d,r⟩
  have hKb:K.In (qK g.heap (dD l)):=λb o e=>j (KX b o e) (by
   cases q:dD l b with
   |none=>rfl
   |some u=>
    rcases hA b (by rw[q];simp)with e'|⟨z,e'⟩
    .subst e'
     rw[hK (by rw[iF hTa]at q;rw[q];simp)]at e;cases e
    .rw[(hT b z e').2.1]at e;cases e)
  have hM:Mod K mg (qK g.heap (dD l)):=⟨hKb,t hns,⟨mb,t p,hbb⟩,let⟨mc,h1,h2⟩:=hlim;⟨mc,t h1,h2⟩⟩
  have e0:Env0 P w K mg (qK g.heap (dD l)) callerA [] g (dD l):=⟨rfl,hM,λb o e=>DO e,Nat.le_of_eq (yt _ _),trivial,⟨λb p=>absurd (show b∈([]:List Addr)from p) (by simp),λb z q=>withT_yes q⟩,hok,.of_eq hg⟩
  refine codeAny_mono ((F _ hKb (t hns)).run callerA [] g _ ⟨[.ref a],[]⟩ [.ref a] [.ref a] _ _ hr e0 (U g _) (.cons rfl .nil) (hsp _ hS)) λr s' h=>?_
  cases r with
  |error e=>exact(hCX _ e s' h).elim
  |ok fl=>
   cases fl with
   |next=>exact False.elim h
   |brk=>exact False.elim h
   |cont=>exact False.elim h
   |ret u=>
    let⟨v,H',os,bare,un,T,r',q⟩:=h
    have q':=q
    subst q'
    obtain rfl:u=Value.bool true:=r'
    have I:∀b o,g.heap.get? b=!o->s'.heap.get? b=!o\/(isCodeTable g.heap b/\o.cls=.none/\∃C more,o.data=.fields C/\s'.heap.get? b=some {o with data:=.fields (C++more)}):=λb o e=>by
     cases q:dD l b with
     |none=>exact .inl (un.keep b o e q (by intro z;exact absurd (show b∈([]:List Addr)from z) (by simp)) (by simp))
     |some u=>
      cases qt:lamTabs.lookup b with
      |some z=>
       have z2:=un.frzs b (.cod #[] z.1 z.2) True.intro (withT_yes qt)
       let⟨g1,g2,g3⟩:=hT b z qt
       rw[e]at g1
       cases g1
       rcases T b _ z2 with y|⟨_,_,_,_,y,_⟩
       .exact .inl y
       .exact .inr ⟨g3,rfl,_,_,rfl,y⟩
      |none=>
       rw[iF qt]at q
       rcases hO b with z|⟨ob,xs,z⟩
       .rw[q]at z;cases z
       .have z2:=un.frzs b (.frz ob _) True.intro (up _ _ z)
        let⟨e1,_⟩:=hok b _ (up _ _ z)
        let⟨e2,_⟩:=T b _ z2
        rw[e]at e1;cases e1
        exact .inl e2
    refine⟨rfl,⟨λb o e=>?_,λb o e=>?_⟩,os,bare⟩
    .rcases I b o e with y|⟨y1,y2,vs',more,y3,y4⟩
     .exact .inl y
     .exact .inr (.inl ⟨y1,y2,vs',more,y3,y4⟩)
    .rcases I b o e with y|⟨_,_,_,_,_,y4⟩
     .exact⟨_,y⟩
     .exact⟨_,y4⟩
 cases hk:K.lookup a with
 |some o=>
  -- the J is one of the module's own objects
  have e:=KX a o hk
  rw[ha]at e
  cases e
  refine core (λ_=>none) (λ_=>.inl rfl) (.inr ⟨_,C.toArray,_,hk,rfl,rfl,rfl,by rw[size_toArray,lenV];exact hl,by simpa using rv⟩) (λb u z=>by have z':(none:Option HO)=!u:=z;cases z') (λb z=>absurd rfl z) λz=>absurd rfl z
 |none=>
  refine core (λb=>if b=a then !(.frz {cls:=.type "list",data:=.seq C.toArray} (.lst _))else none) (λb=>?_) (.inl (.inr ⟨{cls:=.type "list",data:=.seq C.toArray},if_pos rfl⟩)) (λb u z=>?_) (λb z=>?_) λ_=>hk
  .by_cases p:b=a
   .exact .inr ⟨_,_,if_pos p⟩
   .exact .inl (if_neg p)
  .by_cases p:b=a
   .have z':=(if_pos p).symm.trans z
    cases z'
    subst p
    exact⟨ha,by rw[length_map];exact hl,C,_,rv,ha⟩
   .have z':=(if_neg p).symm.trans z
    cases z'
  .by_cases p:b=a
   .exact p
   .exact absurd (if_neg p) z
def walk_of{l:PySem.W.OpenLaw}{K:Params->Frag}{CX:World->Io}{sp:World->Sp}(hn:l.most=!n)(U:n<=sizeLine)(hdf:d.params.defaults=[])(hr:Room k callerA)(hY:∀(w:World)(h:Heap),YP w h->(K w.params).In h)(hT:∀(w:World)(h:Heap),YP w h->qU (K w.params) h)(F:∀(w:World)(mg:Str->U1)(fa:Addr)(h:Heap),(K w.params).In h->h.Ns mainGlobals mg->mg d.name=!(.ref fa)->
   ∃fd:FuncData,(∀(s:Shared)(u:Value),BindsTo s fd ⟨[u],[]⟩ [(x,u)])/\
    ∀base:Heap,(K w.params).In base->base.Ns mainGlobals mg->FnOk l.prog w (K w.params) mg base (CX w) k fa fd [x] (sp w)) (I:∀(w:World)(H:Hp)(a:Addr)(C:U4),C.length<=n->SqL (K w.params) H a (C.map V.int)->sp w [.ref a] H (λv _=>v=.bl true) λ_ _ _=>False) (hCX:∀(w:World)(H:Hp)(s:Shared)(e:Value)(s':Shared),CX w [] H s (λ_ _ _=>False) e s'->False):
  PySem.W.WalkO q J XP YP l.row.toRowW d [] (λf vs=>PySem.call f vs):=by
 refine Att.attach_call hn hdf λw s₀ r mg mb fa o pm cd doc a vs C G ρ ho hd hcd hmg t p j hg=>?_
 have KX:=hY w _ ρ
 let⟨fd,hb,hF⟩:=F w mg fa _ KX G.T.g hmg
 exact Aq (hT w _ ρ) KX G.T.g G.T.b G.T.builtins G.T.nolimit hg t p (Vn j U) hr hF hb (λH hS=>I w H a C j hS) λH e s'=>hCX w H r e s'
abbrev qV:Io:=λ_ _ _ _ _ _=>False
abbrev E0:XK:=λ_ _ _=>False
def sY:lq qV X E0:=λ_ _ _ _ _ _ _ h=>h.elim
structure Fun(K:Frag)(x qual:Str)(st:Stmt)(f:Addr)(fd:FuncData):Prop where
 ex:∃(oc:Value)(od:Option Addr)(kV doc pm:Value)(an:Option Addr)(cdv ct:Value)(osl:Array (U1)),
  fd=PySem.W.fnOf x qual (bG st) (aL st) (ah st) .none kV doc pm an cdv ct/\K.lookup f=!⟨oc,od,.func fd,osl⟩/\PySem.W.codeIn K cdv qual=true
 kp:PySem.W.keepIn K (.ref f)=true
section
variable{P:Program}{w:World}{K:Frag}{mg:Str->U1}{base:Heap}
def Fun.ok{st}(F:Fun K x l st f fd)(S:FnScope N ps (ah st))(len:∀o H Q E,sp o H Q E->o.length=ps.length)(p:∀(j:Value)(A:Around)(g:List Env)(s:Shared)(H:Hp)(o:List V)(Q:VK)(E:XK),Room k (A.deeper (envOfC l (ah st) s.heap.objs.size f j))->sp o H Q E->
  ∃t,PSs (nq qV P w K mg base N l (ah st) f j A g s H E).nox (aL st) t/\t {nx:=λ_ H'=>Q .non H',rt:=Q} (jE N o) H):FnOk P w K mg base qV (k+1) f fd ps sp:=by
 let⟨oc,od,kV,U,pm,an,j,ct,I,rfl,J,C⟩:=F.ex
 refine Hb J C S len λA g s H o Q E T r=>?_
 let⟨t,h,q⟩:=p j A g s H o Q E T r
 exact⟨t,h.nox,q⟩
def Fun.binds{st}(F:Fun K x l st f fd)(h:∀(kV g pm:Value)(p:Option Addr)(j ct:Value)(o:U0),o.length=ps.length->bindArgs (PySem.W.fnOf x l (bG st) (aL st) (ah st) .none kV g pm p j ct) ⟨o,[]⟩=pure (ps.zip o)):Binds K fd ps []:=by
 let⟨I,C,kV,g,pm,p,j,ct,r,rfl,J,t⟩:=F.ex;exact .all (h kV g pm p j ct)
def nu{st}{kV o pm j ct}(l:K.lookup f=!⟨C,t,.func (PySem.W.fnOf x g (bG st) (aL st) (ah st) .none kV o pm r j ct),p⟩)(c:PySem.W.codeIn K j g=true)(k:PySem.W.keepIn K (.ref f)=true):Fun K x g st f (PySem.W.fnOf x g (bG st) (aL st) (ah st) .none kV o pm r j ct):=⟨⟨C,t,kV,o,pm,r,j,ct,p,rfl,l,c⟩,k⟩
end
def Ir{A B:Prop}(h:B):if false=true then A else B:=by
 exact h
def Iu{A B:Prop}(h:A):if true=true then A else B:=by
 exact h
def  Same(H H':Hp):Prop:=∀b o,H b=!o->H' b=!o
def Same.refl(H:Hp):Same H H:=λ_ _ h=>h
def Same.trans(a:Same H H1)(b:Same H1 H2):Same H H2:=λc o h=>b c o (a c o h)
def Same.free(e:Same H H')(h:H' l=Option.none):H l=Option.none:=by
 cases q:H l with
 |none=>rfl
 |some o=>
  rw[e l o q]at h;cases h
def Same.seq{K}(e:Same H H')(h:SqL K H a xs):SqL K H' a xs:=by
 rcases h with(h|⟨o,h⟩)|h
 .exact .inl (.inl (e _ _ h))
 .exact .inl (.inr ⟨o,e _ _ h⟩)
 .exact .inr h
def PE.imp(h:PE X e t)(k:∀σ H Q,g σ H Q->t σ H Q):PE X e g:=λpins s σ H Q I q=>h pins s σ H Q I (k _ _ _ q)
def PT.imp(h:PT X e t)(k:∀σ H Q,g σ H Q->t σ H Q):PT X e g:=λpins s σ H Q I q=>h pins s σ H Q I (k _ _ _ q)
def PA.imp(h:PA X e t)(k:∀σ H Q,g σ H Q->t σ H Q):PA X e g:=λpos pins s σ H Q I q=>h pos pins s σ H Q I (k _ _ _ q)
def PS.imp{st}(h:PS X st t)(k:∀D σ H,g D σ H->t D σ H):PS X st g:=λpins s σ H D I q=>h pins s σ H D I (k _ _ _ q)
def PSs.imp{st}(h:PSs X st t)(k:∀D σ H,g D σ H->t D σ H):PSs X st g:=λpins s σ H D I q=>h pins s σ H D I (k _ _ _ q)
def PI.imp(h:PI X tg iter t)(k:∀σ H R,g σ H R->t σ H R):PI X tg iter g:=λpins s σ H R I q=>h pins s σ H R I (k _ _ _ q)
def PG.imp(h:PG X tg t)(k:∀v σ H Q,g v σ H Q->t v σ H Q):PG X tg g:=λpins s σ H v u Q I r q=>h pins s σ H v u Q I r (k _ _ _ _ q)
def lW{α β:Type}{f:α->β->Sem (ForInStep β)}{g}:∀(l:List α)(c:β),(∀x∈l,∀c,f x c=pure (.yield (g c x)))->forIn l c f=pure (l.foldl g c)
 |[],_,_=>rfl
 |x::l,c,h=>by
  rw[List.forIn_cons,h x mem_cons_self,pure_bind];exact lW l _ λy hy=>h y (Vj _ hy)
noncomputable def  fP(env:Env)(cs:List (Str×Addr))(x:Str×NameKind):List (Str×Addr):=if x.2==.free then(x.1,(env.cells.lookup x.1).getD 0)::cs else cs
abbrev qW(env:Env)(scope:Scope):List (Str×Addr):=scope.names.foldl (fP env) []
def lX(h:(k==NameKind.free)=true):k=.free:=by grind
def nw(h:∀y∈scope.names,y.2=.free->∃c,env.cells.lookup y.1=!c):closureFor scope env=pure (qW env scope):=by
 simp only[closureFor];rw[lW (g:=fP env) scope.names [] (λx j c=>by
  let⟨n,k⟩:=x;unfold fP;cases l:(k==NameKind.free)with
  |false=>simp
  |true=>
   let⟨a,e⟩:=h (n,k) j (lX l);have o:=e;simp[cellOf,o])]
 rfl
def eS:∀(l:List (Str×NameKind))(cs:List (Str×Addr)),(∀x c,cs.lookup x=!c->env.cells.lookup x=!c)->(∀y∈l,y.2=.free->∃c,env.cells.lookup y.1=!c)->
  ∀x c,(l.foldl (fP env) cs).lookup x=!c->env.cells.lookup x=!c
 |[],_,h,_,x,c,e=>h x c e
 |(n,k)::l,cs,h,hl,x,c,e=>by
  refine eS l (fP env cs (n,k)) (λy d q=>?_) (λy hy=>hl y (Vj _ hy)) x c e;unfold fP at q;cases hk:(k==NameKind.free)with
  |false=>rw[hk]at q;exact h y d (by simpa using q)
  |true=>
   rw[hk]at q;let⟨a,ea⟩:=hl (n,k) Vi (lX hk);have ea':env.cells.lookup n=!a:=ea;simp only[if_true,List.lookup_cons,ea',Option.getD_some]at q;cases hy:(y==n)with
   |true=>
    rw[hy]at q;have hyn:y=n:=by simpa using hy
    rw[hyn,ea'];exact q
   |false=>rw[hy]at q;exact h y d q
def jT:∀(l:List (Str×NameKind))(cs:List (Str×Addr))(x:Str),((x,NameKind.free)∈l\/(cs.lookup x).isSome=true)->((l.foldl (fP env) cs).lookup x).isSome=true
 |[],_,_,h=>by
  rcases h with h|h
  .cases h
  .exact h
 |(n,k)::l,cs,x,h=>by
  refine jT l (fP env cs (n,k)) x ?_;rcases h with h|h
  .rcases mem_cons.mp h with e|h
   .cases e;refine .inr ?_;unfold fP;simp
   .exact .inl h
  .refine .inr ?_;unfold fP;split
   .rw[List.lookup_cons];split
    .rfl
    .exact h
   .exact h
def ny(h:(relabel scope env).names.lookup x=!k):∃g,(x,g)∈scope.names/\(g=k\/(g=.free/\k=.cell)):=by
 have h':(scope.names.map λ(n,k)=>if(k==NameKind.free&&env.scope.kind==.function&&env.kindOf n==some .cell)then(n,NameKind.cell)else(n,k)).lookup x=!k:=h;have j:=PySem.mem_of_lookup h';grind
def  nz(X:Cx)(scope:Scope)(C:Addr)(s:Shared)(H:Hp)(fp:List Addr):Cx where
 prog:=X.prog
 w:=X.w
 K:=X.K
 mg:=X.mg
 base:=X.base
 A:=X.A
 N:=X.N
 s₀:=s
 H₀:=H
 env:=compEnvC scope (qW X.env scope) C X.env
 outer:=X.stack
 stack:=X.stack
 ex:=fp
 fn:=λ_=>false
 calm:=X.calm
 pn:=[]
 xe:=λ_ _=>False
structure CSc(X:Cx)(scope:Scope)(ks:U2):Prop where
 kind:scope.kind=.function
 nocell:∀y∈scope.names,y.2≠.cell
 names:∀y∈scope.names,y.2=.local->scope.names.lookup y.1=some .local
 free:∀y∈scope.names,y.2=.free->X.env.scope.names.lookup y.1=some .cell\/X.env.scope.names.lookup y.1=some .free
 own:∀(i:Nat)(x:Str),X.N[i]?=!x->scope.names.lookup x=some .local->i∈ks
noncomputable def  gj{α:Type}(ks:U2)(σ:List (Option α)):List (Option α):=ks.foldl (λσ k=>σ.set k none) σ
def kh:∀(ks:U2)(σ:List (Option α)),(gj ks σ).length=σ.length
 |[],_=>rfl
 |k::ks,σ=>by
  show(gj ks (σ.set k none)).length=_;rw[kh ks];simp
def nB:∀(ks:U2)(σ:List (Option α))(i:Nat)(v:α),(gj ks σ)[i]?=!(!v)->σ[i]?=!(!v)/\i ∉ ks
 |[],_,_,_,h=>⟨h,by simp⟩
 |k::ks,σ,i,v,h=>by
  let⟨h1,h2⟩:=nB ks (σ.set k none) i v h;by_cases hk:k=i
  .subst hk;rw[List.getElem?_set]at h1;simp only[if_true]at h1;split at h1<;>simp at h1
  .rw[List.getElem?_set_ne hk]at h1;exact⟨h1,by simp[h2,Ne.symm hk]⟩
def sZ:∀(ks:U2)(σ:List (Option α))(i:Nat)(v:α),σ[i]?=!(!v)->i ∉ ks->(gj ks σ)[i]?=!(!v)
 |[],_,_,_,h,_=>h
 |k::ks,σ,i,v,h,hn=>by
  refine sZ ks (σ.set k none) i v ?_ λz=>hn (Vj _ z);rw[List.getElem?_set_ne (λz=>hn (by simp[z]))];exact h
section
variable{X:Cx}{pins:UW}{σ:St}{H:Hp}{s:Shared}{fp:List Addr}{scope:Scope}{ks:U2}{C D:Addr}
def Inv.cells_of(I:Inv X pins σ H s)(S:CSc X scope ks):∀y∈scope.names,y.2=.free->∃c,X.env.cells.lookup y.1=!c:=λy g j=>I.ok.has y.1 (S.free y g j)
def vg(I:Inv X pins σ H s)(S:CSc X scope ks)(l:∀b∈fp,jQ X pins H b)(p:∀b∈fp,b<s.heap.objs.size)(t:s.heap.objs.size<=C):(!12).Ok where
 mod:=I.ok.mod
 kind:=S.kind
 glob:=I.ok.glob
 blt:=I.ok.blt
 above:=t
 inj:=λx y c h1 h2=>I.ok.inj x y c (eS _ [] (λ_ _ z=>nomatch z) (I.cells_of S) x c h1) (eS _ [] (λ_ _ z=>nomatch z) (I.cells_of S) y c h2)
 has:=λx T=>by
  have q:∃k,(relabel scope X.env).names.lookup x=!k/\(k=.cell\/k=.free):=by
   rcases T with h|h
   .exact⟨_,h,.inl rfl⟩
   .exact⟨_,h,.inr rfl⟩
  let⟨k,hk,hc⟩:=q;let⟨J,r,h0⟩:=ny hk;have g:J=.free:=by
   rcases h0 with rfl|⟨h,_⟩
   .rcases hc with z|z
    .exact absurd z (S.nocell _ r)
    .exact z
   .exact h
  subst g;exact Option.isSome_iff_exists.mp (jT scope.names [] x (.inl r))
 cab:=λ_ _ z=>absurd z Vg
 hd:=I.ok.hd
 frames:=I.ok.frames
 stk:=.inl rfl
 exf:=λb j=>⟨Vo (Vl (p b j) t),λx c e=>(l b j).2.2.2.2.1 x c (eS _ [] (λ_ _ z=>nomatch z) (I.cells_of S) x c e)⟩
 bs:=I.bs
 bsz:=Vn I.ok.bsz I.sz
 noex:=λb o e j=>by
  rcases(l b j).2.2.2.1 with z|z
  .exact I.ok.noex b o e z
  .exact absurd (Vl (Vl (Ve e) I.ok.bsz) z) (Vt _)
 exfs:=λb j U=>by
  rcases mem_cons.mp (I.stkSub b U)with z|z
  .exact(l b j).2.1 z
  .exact(l b j).2.2.1 z
 funs:=I.stack
 frf:=⟨I.stkFree,I.tab⟩
def yF{g:U0}(I:Inv X pins σ H s)(S:CSc X scope ks)(hf:∀b∈fp,jQ X pins H b)(hlt:∀b∈fp,b<s.heap.objs.size)(hD:s.heap.objs.size<=D)(hC:s.heap.objs.size<=C)(hDC:D≠C)(old:∀b o,s.heap.get? b=!o->j.get? b=!o)(hns:j.Ns C m)(hacc:j.get? D=some {cls:=.type "list",data:=.seq g.toArray n}):
  Inv (!12) [(D,{cls:=.type "list",data:=.seq g.toArray n})] (gj ks σ) H {s with heap:=j,toks:=tk}:=by
 have cs:=eS scope.names [] (λ_ _ z=>nomatch z) (I.cells_of S)
 refine⟨vg I S hf hlt hC,rfl,I.bare,Un.kept old,⟨m,hns,λi x v hN hσ hv=>?_⟩,λx c e=>?_,I.hok.fresh hC,λx c e=>I.freeC x c (cs x c e),λp hp=>?_,I.hok.kept old,?_⟩
 .let⟨h1,h2⟩:=nB ks σ i v hσ;have hv':∃k,(relabel scope X.env).names.lookup x=!k/\(k=.local\/k=.cell\/k=.free):=by
   rcases hv with h|h|h
   .exact⟨_,h,.inl rfl⟩
   .exact⟨_,h,.inr (.inl rfl)⟩
   .exact⟨_,h,.inr (.inr rfl)⟩
  let⟨k,hk,hkk⟩:=hv';let⟨k0,hm,h0⟩:=ny hk;have J:k0=.free:=by
   rcases h0 with e|⟨h,_⟩
   .subst e;rcases hkk with z|z|z
    .exact absurd (S.own i x hN (S.names _ hm z)) h2
    .exact absurd z (S.nocell _ hm)
    .exact z
   .exact h
  subst J;have hX:=S.free _ hm rfl;let⟨m0,hn0,hl0⟩:=I.loc;let⟨u,r,l⟩:=hl0 i x v hN h1 (by rcases hX with z|z;exact .inr (.inl z);exact .inr (.inr z));refine⟨u,r,.inr ⟨?_,?_⟩⟩
  .have hk2:k=.cell\/k=.free:=by
    rcases h0 with e|⟨_,e⟩
    .exact .inr e.symm
    .exact .inl e
   rcases hk2 with e|e
   .subst e;exact .inl hk
   .subst e;exact .inr hk
  .rcases l with⟨U,_⟩|⟨_,c,ec,T⟩
   .have t:X.env.scope.names.lookup x=some .local:=U;rcases hX with z|z
    .rw[t]at z;cases z
    .rw[t]at z;cases z
   .let⟨c',ec'⟩:=Option.isSome_iff_exists.mp (jT scope.names [] x (.inl hm));have e2:=cs x c' ec';rw[ec]at e2;cases e2;let⟨o,ho,hd⟩:=T;exact⟨c,ec',o,old c o ho,hd⟩
 .let⟨v,o,ho,hd⟩:=I.cell x c (cs x c e);exact⟨v,o,old c o ho,hd⟩
 .have e:p=(D,{cls:=.type "list",data:=.seq g.toArray n}):=by
   have hp':p∈[]++[(D,({cls:=.type "list",data:=.seq g.toArray n}:Obj))]:=hp;simpa using hp'
  subst e;refine⟨hacc,I.hok.fresh hD,hDC,λhb=>?_,λv z=>?_⟩
  .rcases mem_cons.mp (I.stkSub D hb)with z|z
   .exact absurd (Vl I.lt hD) (by rw[z];exact Vt _)
   .exact I.nofs hD z
  .have z':Data.seq g.toArray n=Data.cell v:=z;cases z'
 .show(gj ks σ).length=X.N.length;rw[kh];exact I.len
def HOk.adopt(x:HOk P w H h)(g:H a=none)(new:ObjOk P w (upd H a o) h a o):HOk P w (upd H a o) h:=λb u q=>by
 by_cases j:b=a
 .subst j;rw[ai]at q;cases q;exact new
 .rw[ae j]at q;refine(x b u q).stay (λ_ _ _ z=>z) (λc z=>?_) (λc xs z=>?_) λc o' l z=>?_
  .rw[ae (ak z g)];exact z
  .rw[ae (ak z g)];exact z
  .rw[ae (ak z g)];exact z
def D5{p:St}(I:Inv X pins σ H s)(J:Inv (!12) pl p H' s')(U:∀b∈fp,jQ X pins H b)(hD:s.heap.objs.size<=D)(g:H' D=none)(l:s'.heap.get? D=some {cls:=.type "list",data:=.seq j.toArray n})(r:Vals ys j)(t:ys.length<=sizeLine):Inv X pins σ (upd H' D (.lst ys)) s':=by
 have B:=J.base;have ne:∀b o,s.heap.get? b=!o->b≠D:=λb o e=>Vo (Vl (Ve e) hD);refine I.call' J.os ⟨B.keep,B.slot,λb o e q T=>?_,B.there,λb xs q=>?_,λb o u q=>?_,λb ps q=>?_⟩ (J.hok.adopt g ⟨t,j,n,r,l⟩) J.bare λb hb=>?_
 .rw[ae (ne b o e)];exact B.free b o e q T
 .have z:=B.tups b xs q;rw[ae (ak z g)];exact z
 .have z:=B.frzs b o u q;rw[ae (ak z g)];exact z
 .let⟨more,z⟩:=B.tbls b ps q;exact⟨more,by rw[ae (ak z g)];exact z⟩
 .let⟨_,f1,_,f3,f4,f5⟩:=U b hb;exact⟨f3,f1,f4,f5⟩
end
def  PTs(X:Cx)(ifs:U8)(t:TT):Prop:=
 ∀(pins:UW)(s:Shared)(σ:St)(H:Hp)(Q:Bool->Hp->Prop),Inv X pins σ H s->t σ H Q->
  wpAny (!4) X.A (forIn ifs true λc r=>if r=true then do let ok<-isTrue c X.env (eval c X.env);pure (ForInStep.yield ok)else pure (ForInStep.yield r)) (TP X pins σ Q) X.xe s
def  Qw:TT:=λ_ H Q=>Q true H
def pts_nil:PTs X [] Qw:=λ_ _ _ H _ I h=>wpAny_tests_nil ⟨H,I,h⟩
def D6(h:PT X c t):PTs X [c] t:=λpins s σ H Q I q=>wpAny_tests_one (h pins s σ H Q I q)
def vh{prog:Program}{w:World}{A:Around}{R:Result->Shared->Prop}(I:Nat->Shared->Prop)(g:∀n s,I n s->wpAny (!7) A (pyNext p) (λr o=>match r with
   |none=>R (.ok .next) o
   |some v=>wpAny (!7) A (letOwnedTupleGo tg p v) (λ_ J=>wpAny (!7) A (assign tg env v) (λ_ C=>
    wpAny (!7) A (forIn ifs true λc r=>if r=true then do let ok<-isTrue c env (eval c env);pure (ForInStep.yield ok)else pure (ForInStep.yield r)) (λok l=>
     if ok=true then wpAny (!7) A (eval elt env) (λx s5=>wpAny (!7) A (call (.builtin "list.append") [j,x]) (λ_ t=>∃m,m<n/\I m t) (λ_ _=>False) s5) (λ_ _=>False) l
     else∃m,m<n/\I m l) (λ_ _=>False) C) (λ_ _=>False) J) (λ_ _=>False) o) (λ_ _=>False) s) (n:Nat) (h:I n s):codeAny (!7) A (.compLoop (!9) 0 p j env) R s:=by
 refine codeAny_loop rfl I (λk s' U=>?_) n h
 show wpAny _ A ((compTurn (!9) 0 p j env).onRaise (λx=>do noteFrame x env;theTreesLotGoes x)) _ _ s'
 refine wpAny_noted ?_
 rw[compTurn_list]
 refine Vb (wpAny_standAt (Vb (Vz (g k s' U) (λr o h1=>?_) λ_ _ z=>z.elim)))
 cases r with
 |none=>exact Vd h1
 |some v=>
  refine Vb (Vz h1 (λ_ J h2=>?_) λ_ _ z=>z.elim);refine Vb (Vz h2 (λ_ C h3=>?_) λ_ _ z=>z.elim);refine Vb (Vz h3 (λok l T=>?_) λ_ _ z=>z.elim);cases ok with
  |false=>exact Vd ⟨rfl,T⟩
  |true=>
   refine Vb (Vb (Vz T (λx s5 h5=>?_) λ_ _ z=>z.elim));exact Vb (Vz h5 (λ_ t h6=>Vd (Vd ⟨rfl,h6⟩)) λ_ _ z=>z.elim)
def  Qx(σ σ':St):Prop:=σ'.length=σ.length/\∀(i:Nat)(v:V),σ[i]?=!(!v)->σ'[i]?=!(!v)
def  Hd(J:It)(ks:U2)(g:TG)(tt:TT)(te:TE)(σ:St)(uU:List V->Hp->Prop)(W:Nat->Nat->List V->Hp->Prop):Prop:=∀i m ys H2,W i m ys H2->
 (J.stop i H2/\ys.length<=sizeLine/\uU ys H2)\/
 (J.go i H2/\ys.length<sizeLine/\∀x H3,J.yld i H2 x H3->g x (gj ks σ) H3 λσ4 H4=>Qx (gj ks σ) σ4/\tt σ4 H4 λc H5=>
  if c=true then te σ4 H5 λy H6=>∃m',m'<m/\W (i+1) m' (ys++[y]) H6 else∃m',m'<m/\W (i+1) m' ys H5)
def  s0(wi:TI)(ks:U2)(g:TG)(tt:TT)(te:TE):TE:=λσ H Q=>wi σ H λJ H1=>∃W:Nat->Nat->List V->Hp->Prop,(∃m,W 0 m [] H1)/\
 Hd J ks g tt te σ (λys H2=>∀p,H2 p=none->Q (.ref p) (upd H2 p (.lst ys))) W
section
variable{X:Cx}{scope:Scope}{ks:U2}{tg elt iter:Expr}{ifs:U8}{g:TG}{tt:TT}{te:TE}{pos:Pos}
def nC{σ:St}{RR:Value->Addr->Result->Shared->Prop}{uU}(hc:X.calm=true)(S:CSc X scope ks)(I2:Inv X pins σ H2 s2)(T:Turn X.prog X.w X.K tg J fp it tn)(st:tn 0 s2.heap)(f2:∀b∈fp,jQ X pins H2 b)(hg:∀C s H,PG (!12) tg g)(htt:∀C s H,PTs (!12) ifs tt)(he:∀C s H,PE (!12) elt te)(w0:∃m,W 0 m [] H2)(turn:Hd J ks g tt te σ uU W)(hR:∀D C H3 s3 m ys,Inv X pins σ (upd H3 D (.lst ys)) s3->H3 D=none->upd H3 D (.lst ys) C=none->C≠X.env.locals->s2.heap.objs.size<=C->s3.heap.Ns C m->uU ys H3->RR (.ref D) C (.ok .next) s3):
  wpAny (!4) X.A (newList []) (λacc s₃=>wpAny (!4) X.A (newFunctionEnv scope X.env.globals (qW X.env scope) [] X.env.qual none .none (!X.env)) (λcenv s₄=>
   codeAny (!4) X.A (.compStart (!9) 0 (.ref it) acc {cenv with scope:=relabel scope X.env}) (RR acc cenv.locals) s₄) E s₃) E s2:=by
 have hlt:∀b∈fp,b<s2.heap.objs.size:=λb t=>by
  let⟨o,e,_⟩:=T.obj _ _ st b t
  exact Ve e
 refine wpAny_newObj_type (wpAny_newFunctionEnv S.nocell (by intro y hy;simp at hy) (λh₁ hns₁ U=>?_) S.kind)
 generalize hH2:s2.heap.push {cls:=.type "list",dict:=none,data:=.seq ([]:U0).toArray}=G at hns₁ U⊢
 have hCe:G.objs.size=s2.heap.objs.size+1:=by rw[<-hH2,Heap.size_push]
 have hDC:s2.heap.objs.size≠G.objs.size:=by rw[hCe];exact Vo (Nat.lt_succ_self _)
 have hC:s2.heap.objs.size<=G.objs.size:=by rw[hCe];exact Nat.le_succ _
 have old:∀b o,s2.heap.get? b=!o->h₁.get? b=!o:=λb o e=>
  U.extBut b o (Vo (Vl (Ve e) hC)) (Vc _ (hH2▸Vc _ e))
 have hacc:h₁.get? s2.heap.objs.size=some {cls:=.type "list",data:=.seq ([]:U0).toArray 0}:=U.extBut _ _ hDC (Vc _ (hH2▸Vf _ rfl))
 generalize l:s2.heap.objs.size=D at*
 generalize hCn:G.objs.size=C at*
 have st₁:=T.keep _ _ _ st λb t o e=>old b o e
 let ρ:=nz X scope C s2 H2 fp
 have fpY:∀{pl:UW}{H':Hp},(∀b∈fp,H' b=none)->(∀p∈pl,D<=p.1)->∀b∈fp,jQ ρ pl H' b:=λ{pl H'} hn hp b t=>by
  refine⟨hn b t,Vo (Vl (hlt b t) hC),λz=>?_,.inl t,((vg I2 S f2 (l▸hlt) (l▸hC)).exf b t).2,λp hq=>?_⟩
  .exact(vg I2 S f2 (l▸hlt) (l▸hC)).exfs b t z
  .have hq':p∈[]++pl:=hq
   have:=hp p (by simpa using hq')
   exact Nat.ne_of_gt (Vl (hlt b t) this)
 have loop:∀tk,codeAny (!4) X.A (.compLoop (!9) 0 (.ref it) (.ref D) (compEnvC scope (qW X.env scope) C X.env)) (RR (.ref D) C) {s2 with heap:=h₁,toks:=tk}:=λtk=>by
  let⟨m0,w0⟩:=w0
  refine vh (λn s'=>∃i ys I j H',Inv ρ [(D,{cls:=.type "list",data:=.seq (List.toArray I) j})] _ H' s'/\Vals ys I/\tn i s'.heap/\(∀b∈fp,H' b=none)/\W i n ys H') ?_ m0
   ⟨0,[],[],0,H2,yF I2 S f2 (l▸hlt) (l▸Vy _) (l▸hC) hDC old hns₁ hacc,.nil,st₁,λb t=>(f2 b t).1,w0⟩
  rintro n s3 ⟨i,ys,I,j,H3,I3,rv,GW,fr3,w3⟩
  have pinD:∀p∈[(D,({cls:=.type "list",data:=.seq _ j}:Obj))],D<=p.1:=λp hp=>by
   have e:p=(D,{cls:=.type "list",data:=.seq (List.toArray I) j}):=by simpa using hp
   rw[e];exact Vy _
  rcases turn i n ys H3 w3 with⟨stop,hz,fin⟩|⟨go,hz,step⟩
  .refine bq (T.done ρ rfl rfl rfl hc i _ s3 _ H3 (λ_ _=>False) I3 (fpY fr3 pinD) GW stop) λr s4 ⟨hr,I4⟩=>?_
   subst hr
   have hD4:=I4.pin (D,{cls:=.type "list",data:=.seq _ j}) (Vs _ Vi)
   let⟨m4,hn4,_⟩:=I4.loc
   have JX:=D5 I2 I4 f2 (Nat.le_of_eq l) hD4.2.1 hD4.1 rv hz
   exact hR D C H3 s4 m4 ys JX hD4.2.1 (by rw[ae (Ne.symm hDC)];exact I4.free) (Nat.ne_of_gt (Vl I2.lt (l▸hC))) hC hn4 fin
  .refine bq (T.item ρ rfl rfl rfl hc i _ s3 _ H3 (λ_ _=>False) I3 (fpY fr3 pinD) GW go) λr s4 ⟨u,hr,h4⟩=>?_
   subst hr
   refine bq h4 λ_ s5 ⟨x,H5,I5,r5,y5,st5,fr5⟩=>?_
   have I5':=I5.pinned (fpY fr5 pinD) (T.obj _ _ st5)
   refine bq (hg C s2 H2 _ s5 _ H5 x u _ I5' r5 (step x H5 y5)) λ_ s6 ⟨σ6,H6,I6,kp,q6⟩=>?_
   refine bq (htt C s2 H2 _ s6 σ6 H6 _ I6 q6) λok s7 ⟨H7,I7,q7⟩=>?_
   -- the iterator's own objects stand
   have stay:∀{H':Hp}{s':Shared},Inv ρ ([(D,({cls:=.type "list",data:=.seq (List.toArray I) j}:Obj))]++nn fp s5.heap) σ6 H' s'->tn (i+1) s'.heap/\∀b∈fp,H' b=none:=λ{H' s'} I'=>by
    refine⟨T.keep _ _ _ st5 λb t o e=>(I'.pin (b,o) (Vs _ (Vs _ (gC t e)))).1,λb t=>?_⟩
    let⟨o,e,_⟩:=T.obj _ _ st5 b t
    exact(I'.pin (b,o) (Vs _ (Vs _ (gC t e)))).2.1
   cases ok with
   |false=>
    let⟨m',hm,w7⟩:=q7
    let⟨t7,n7⟩:=stay I7
    exact⟨m',hm,i+1,ys,I,j,H7,I7.unpinned.weak kp.1.symm kp.2,rv,t7,n7,w7⟩
   |true=>
    refine bq (he C s2 H2 _ s7 σ6 H7 _ I7 q7) λy s8 ⟨yv,H8,I8,r8,m',hm,w8⟩=>?_
    let⟨t8,n8⟩:=stay I8
    have hD8:=I8.pin (D,{cls:=.type "list",data:=.seq _ j}) (Vs _ (Vr _ Vi))
    have hlen:=rv.length
    refine append_at hD8.1 (λh9 sb hD9=>?_) (by rw[size_toArray];omega)
    have I9:Inv ρ [] σ6 H8 {s8 with heap:=h9,toks:=s8.toks}:=Inv.turned (I8.pins_of λp hp=>nomatch hp) (λb o t e=>sb.extBut b o t e) hD8.2.1 hD8.2.2.1 (.inr (Nat.le_of_eq l))
     (λx c e z=>by
      let⟨v,q⟩:=I8.cell x c e
      let⟨o,ho,hd⟩:=q
      rw[z,hD8.1]at ho
      cases ho
      exact hD8.2.2.2.2 v hd) (λp hp=>nomatch(hp))
    have e9:h9.get? D=some {cls:=.type "list",data:=.seq (List.toArray (I++[y])) (j+1)}:=by
     rw[hD9];simp
    have I10:Inv ρ [(D,{cls:=.type "list",data:=.seq _ _})] σ6 H8 {s8 with heap:=h9,toks:=s8.toks}:=I9.pins_of λp hp=>by
     have e:p=(D,{cls:=.type "list",data:=.seq (List.toArray (I++[y])) (j+1)}):=by simpa using hp
     subst e
     exact⟨e9,hD8.2.1,hD8.2.2.1,hD8.2.2.2.1,λv z=>by
      have z':=z
      cases z'⟩
    refine⟨m',hm,i+1,ys++[yv],I++[y],j+1,H8,I10.weak kp.1.symm kp.2,rv.append (.cons r8 .nil),T.keep _ _ _ t8 λb t o e=>sb.extBut b o (Vo (hlt b t)) e,n8,w8⟩
 exact codeAny_compStart_list (loop _) (T.self _ 0 _ _ _ st₁ (loop _))
def D7(hc:X.calm=true)(S:CSc X scope ks)(hi:PI X tg iter wi)(hg:∀C s H fp,PG (!12) tg g)(U:∀C s H fp,PTs (!12) ifs tt)(he:∀C s H fp,PE (!12) elt te)(hs:∀x,foldedSetIterable iter X.env x=pure x:=by intro _;rfl):PE X (!9) (s0 wi ks g tt te):=by
 intro pins s σ H Q I h;refine wpAny_comprehension_free rfl hs (nw (I.cells_of S)) S.kind S.names (bq (hi pins s σ H _ I h) λv s1 h1=>bq h1 λitv s2 h2=>?_);let⟨it,fp,tn,J,H2,e,r,T,t,f2,W,w0,l⟩:=h2;subst e;refine nC hc S r T t f2 (λC s H=>hg C s H fp) (λC s H=>U C s H fp) (λC s H=>he C s H fp) w0 l ?_;intro D C H3 s3 m ys I3 hD hC hCL j hns fin;refine⟨m,hns,λh' sb=>?_⟩;refine⟨.ref D,upd H3 D _,?_,rfl,fin D hD⟩;exact I3.turned (λb o hb e=>sb.extBut b o hb e) hC hCL (.inr (Vn r.sz j)) (λx c e z=>by
  let⟨v,o,ho,hd⟩:=r.cell x c e;exact absurd (Vl (Ve ho) j) (by rw[z];exact Vt _)) λp hp z=>absurd (Vl (Ve (r.pin p hp).1) j) (by rw[z];exact Vt _)
def D8(hN:X.N.Nodup)(hx:X.N[i]?=!x)(hl:X.env.scope.names.lookup x=some .local)(hc:X.calm=true)(S:CSc X scope ks)(hi:PI X tg iter wi)(hg:∀C s H fp,PG (!12) tg g)(htt:∀C s H fp,PTs (!12) ifs tt)(he:∀C s H fp,PE (!12) elt te)(hsw:swapsWith (!9) (!(.Name x px)) r.line X.env=pure true)(hs:∀x,foldedSetIterable iter X.env x=pure x:=by intro _;rfl):PS X (.Assign [.Name x px] (!9) r) (zP (s0 wi ks g tt te) (sL i)):=by
 intro pins s σ H Q I h;rw[exec_Assign_Name_used _ _ _ _ hsw];refine Vb (wpAny_standAt (Vb ?_));refine Vb (Vz (wpAny_comprehension_free rfl hs (nw (I.cells_of S)) S.kind S.names
  (bq (hi pins s σ H _ I h) λv s1 h1=>bq h1 λitv s2 h2=>?_)) (λ_ s' hq=>Vd (Vd hq)) λ_ _ e=>e)
 let⟨it,fp,tn,J,H2,e,U,T,Ln,f2,W,w0,l⟩:=h2;subst e;refine nC hc S U T Ln f2 (λC s H=>hg C s H fp) (λC s H=>htt C s H fp) (λC s H=>he C s H fp) w0 l ?_;intro D C H3 s3 m ys I3 hD hC t j hns fin;refine wpAny_assign_Name (pR (v:=.ref D) I3 hN hx (.inl hl) rfl (λs4 I4 ⟨a,sb,ha⟩=>?_) (.inr hl));have hCa:C≠a:=by
  rcases ha with z|z
  .rw[z];exact t
  .intro q;let⟨v,o,ho,hd⟩:=U.cell x a z;exact absurd (Vl (Ve ho) j) (by rw[q];exact Vt _)
 refine⟨m,hns.sameBut sb hCa,λh' sb'=>?_⟩;refine⟨σ.set i _,upd H3 D _,?_,fin D hD⟩;exact I4.turned (λb o hb e=>sb'.extBut b o hb e) hC t (.inr (Vn U.sz j)) (λx c e z=>by
   let⟨v,o,ho,hd⟩:=U.cell x c e;exact absurd (Vl (Ve ho) j) (by rw[z];exact Vt _)) λp hp z=>absurd (Vl (Ve (U.pin p hp).1) j) (by rw[z];exact Vt _)
end
section
variable{κ:Type}[DecidableEq κ]
def  qX(kvs:List (κ×V))(k:κ):Option V:=(kvs.find? λkv=>decide (kv.1=k)).map (·.2)
noncomputable def  ki(kvs:List (κ×V))(k:κ)(v:V):List (κ×V):=
 if(kvs.any λkv=>decide (kv.1=k))=true then kvs.map (λkv=>if kv.1=k then(kv.1,v)else kv)else kvs++[(k,v)]
def td{k:κ}(e:p.1=k):qX (p::r) k=!p.2:=by simp[qX,List.find?_cons,e]
def tj{k:κ}(e:¬p.1=k):qX (p::r) k=qX r k:=by simp[qX,List.find?_cons,e]
def tm(kvs:List (κ×V))(k:κ)(v:V):(ki kvs k v).length<=kvs.length+1:=by grind [ki]
def KV.val(r:KV kvs l)(k:κ):RelO (qX kvs k) (valueAt l k):=by
 induction r with
 |nil=>exact True.intro
 |@cons p q ps g h t o=>
  let⟨h1,h2⟩:=h;by_cases e:p.1=k
  .have j:q.1=k:=h1.symm.trans e;have b:valueAt (q::g) k=!q.2:=by simp[valueAt,List.find?_cons,j]
   rw[td e,b];exact h2
  .have j:¬q.1=k:=λz=>e (h1.trans z);have b:valueAt (q::g) k=valueAt g k:=by simp[valueAt,List.find?_cons,j]
   rw[tj e,b];exact o
def KV.any(r:KV kvs j)(k:κ):(kvs.any λg=>decide (g.1=k))=j.any λg=>decide (g.1=k):=by
 induction r with
 |nil=>rfl
 |cons h t l=>rw[List.any_cons,List.any_cons,l,h.1]
def KV.repl(r:KV kvs j)(k:κ)(l:RelV y u):
  KV (kvs.map λg=>if g.1=k then(g.1,y)else g) (j.map λg=>if g.1=k then(g.1,u)else g):=by
 induction r with
 |nil=>exact .nil
 |@cons p q ps C h t o=>
  rw[List.map_cons,List.map_cons];refine .cons ?_ o;let⟨h1,h2⟩:=h;by_cases e:p.1=k
  .rw[if_pos e,if_pos (h1.symm.trans e)];exact⟨h1,l⟩
  .rw[if_neg e,if_neg (λz=>e (h1.trans z))];exact⟨h1,h2⟩
def KV.put(r:KV kvs g)(k:κ)(j:RelV y u):KV (ki kvs k y) (stored g k u):=by
 unfold ki stored;rw[r.any];by_cases e:(g.any λl=>decide (l.1=k))=true
 .rw[if_pos e,if_pos e];exact r.repl k j
 .rw[if_neg e,if_neg e];exact Paired.snoc r ⟨rfl,j⟩
def KV.length{g:List (κ×Value)}(r:KV kvs g):kvs.length=g.length:=Paired.length r
end
def He(r:RelV (kV k) u):(eg P w).is k u=true:=by
 cases k with
 |inl i=>let⟨t,e⟩:=(r);subst e;exact sG P w i t
 |inr x=>let⟨t,e⟩:=(r);subst e;exact sH P w x t
section
variable{P:Program}{w:World}{H:Hp}{h:Heap}{a:Addr}
def Mj(ok:HOk P w H h)(e:Rd H a u):ObjOk P w H h a u:=e.ok ok
def Ml(ok:HOk P w H h)(e:Rd H a (.dK kvs)):kvs.length<=sizeLine/\(a==sysModules)=false/\∃g,KV kvs g/\h.DictOf (eg P w) a g:=
 show ObjOk P w H h a (.dK kvs)from Mj ok e
def Hf(ok:HOk P w H h)(e:H a=!(.dK kvs)):kvs.length<=sizeLine/\(a==sysModules)=false/\∃g,KV kvs g/\h.DictOf (eg P w) a g:=Ml ok (.inl e)
end
def Inv.big(I:Inv X pins σ H s):sysModules<s.heap.objs.size:=by
 have h:=(I.mod.glob.keeps I.bk).lt;exact Nat.lt_trans (!3) h
def D9(I:Inv X pins σ H s)(mu:Lq (H a))(hs:Heap.SameBut a s.heap h')(he:∃q,h'.get? a=!q)(new:ObjOk X.prog X.w (upd H a ob) h' a ob):
  Inv X pins σ (upd H a ob) {s with heap:=h',toks:=t'}:=
 I.write mu (.inl rfl) (λb q hb z=>(hs.2 b hb).trans z) he new
def Iv{a:Addr}(z:kvs.length<=sizeLine)(hd:(a==sysModules)=false)(rel:KV kvs g)(j:h'.DictOf (eg P w) a g):
 ObjOk P w H' h' a (.dK kvs):=⟨z,hd,g,rel,j⟩
def Ar(h:Heap)(g:sysModules<h.objs.size):ObjOk P w H (h.push {cls:=.type "dict",data:=.dict #[]}) h.objs.size (.dK []):=
 ⟨Nat.zero_le _,beq_eq_false_iff_ne.mpr (Ne.symm (Vo g)),[],.nil,Heap.DictOf.new h⟩
def  Iw:TE:=λ_ H Q=>∀p,H p=none->Q (.ref p) (upd H p (.dK []))
def pe_dnewK:PE X (.Dict [] [] pos) Iw:=λpins s σ H Q I h=>
 wpAny_Dict_empty ⟨.ref s.heap.objs.size,_,I.laid (λ_ _ q=>Vc _ q) (Vy _) (Ar s.heap I.big),rfl,h _ (I.hok.fresh (Vy _))⟩
end L2
namespace HT
open PySem PySem.Spec PyProof.Rows
def As(A:Around)(s:Shared)(a:Int)(t:Tok)(c:Int)(u:Tok)(prog:Program)(w:World)(E:UZ)(Q:UZ)(h:Q (.bool (decide (c<a))) s):
  wpAny (!7) A (richCompare .Gt (.int a t) (.int c u)) Q E s:=
 (PyProof.Rows.gt_int h:wpAny _ A (compareOp .Gt _ _) Q E s)
section
open PySem.SeqAt
open PySem.AutoSeq1 (wpAny_loadPart')
open PySem.MeetsSeq PySem.MeetsSeq2 PySem.MeetsSeq3
def pB(l b:Addr)(items items2:U6)(n n2:Nat)(dd dd2:Option Addr)(sl sl2:Array (U1))(ns ms:U4)(hi:IntsAre items.toList ns)(hj:IntsAre items2.toList ms):
  Meets (Builtin.«tuple.__gt__» ⟨[.ref l,.ref b],[]⟩)
   (λ_ R s=>s.heap.get? l=some {cls:=.type "tuple",dict:=dd,data:=.seq items n,slots:=sl}/\s.heap.get? b=some {cls:=.type "tuple",dict:=dd2,data:=.seq items2 n2,slots:=sl2}/\
    R (.ok (.ret (.bool (lexLt ms ns)))) s):=
 .of_wp λprog w A R s h=>by
  let⟨hp,g,d,tk,os⟩:=s;let⟨hl,hb,h⟩:=h;have f2:=AutoSeq1.sub_tuple_tuple;have z1:items.size=ns.length:=by rw[<-hi.length];simp
  have z2:items2.size=ms.length:=by rw[<-hj.length];simp
  wp_walk using wpAny_loadPart' hl,wpAny_loadPart' hb,wpAny_forIn_list _ (λrest b s'=>b.1=none/\s'=⟨hp,g,d,tk,os⟩/\∃(vs ws:U0)(ns' ms':U4),rest=vs.zip ws/\
   IntsAre vs ns'/\IntsAre ws ms'/\ns'.length+items2.size=ms'.length+items.size/\R (.ok (.ret (.bool (lexLt ms' ns')))) ⟨hp,g,d,tk,os⟩) _
  case turn=>
   rintro⟨y,x⟩ rest b s' ⟨hb',rfl,vs,ws,ns',ms',hz,hvi,hwi,hlen,hR⟩;cases hvi with
   |nil=>rw[List.zip_nil_left]at hz;cases hz
   |cons a t hvi'=>
    cases hwi with
    |nil=>rw[List.zip_nil_right]at hz;cases hz
    |cons c u hwi'=>
     rw[List.zip_cons_cons]at hz;injection hz with hyx hrest;injection hyx with hy hx;subst hy hx;rw[lexLt_cons]at hR;simp only[length_cons]at hlen;let⟨e,he,hiff⟩:=sS A.in1 ⟨hp,g,d,tk,os⟩ a t c u;refine Vb (he prog w _ _ ?_);cases e with
     |true=>
      rw[if_pos (hiff.mp rfl).symm]at hR;wp_walk;exact⟨rfl,rfl,_,_,_,_,hrest,hvi',hwi',by omega,hR⟩
     |false=>
      rw[if_neg (λq=>absurd (hiff.mpr q.symm) Bool.false_ne_true)]at hR;have hri:=As A.in1 ⟨hp,g,d,tk,os⟩ a t c u prog w;wp_walk using hri;exact⟨_,rfl,by simpa using hR⟩
  case fin=>
   rintro⟨b1,b2⟩ s' ⟨hb',rfl,vs,ws,ns',ms',hz,hvi,hwi,hlen,hR⟩;simp only at hb';subst hb';have hv:lexLt ms' ns'=decide (items2.size<items.size):=by
    cases hvi with
    |nil=>
     cases hwi with
     |nil=>
      simp only[List.length_nil]at hlen;rw[lexLt_nil_nil];exact(decide_eq_false (!1)).symm
     |cons c u hw=>
      simp only[List.length_nil,length_cons]at hlen;rw[iC];exact(decide_eq_false (!1)).symm
    |cons a t hv=>
     cases hwi with
     |nil=>
      simp only[List.length_nil,length_cons]at hlen;rw[iB];exact(decide_eq_true (!1)).symm
     |cons c u hw=>
      rw[List.zip_cons_cons]at hz;cases hz
   rw[hv]at hR;wp_walk;exact⟨_,rfl,by simpa [Builtin.Tuple.tupleCompareSizes] using hR⟩
  case h=>
   exact⟨rfl,rfl,items.toList,items2.toList,ns,ms,rfl,hi,hj,by omega,h⟩
end
def gt_tupInts(hl:IsTup s.heap l items)(hb:IsTup s.heap b items2)(hi:IntsAre items.toList ns)(hj:IntsAre items2.toList ms)(hu:A.units<cLine)(h:Q (.bool (lexLt ms ns)) s):wpAny (!7) A (compareOp .Gt (.ref l) (.ref b)) Q E s:=by
 let⟨⟨cls,dd,data,sl⟩,ho,hc,n,hd⟩:=id hl;let⟨⟨cls2,dd2,data2,sl2⟩,ho2,hc2,n2,hd2⟩:=id hb;subst hc hd hc2 hd2;exact richCompare_meets_room (op:=.Gt) ⟨_,ho,rfl⟩ ⟨_,ho2,rfl⟩ PySem.F.slot_tuple_gt PySem.F.entry_tuple_gt (PySem.F.args_tuple_gt_2 _ _) (pB l b items items2 n n2 dd dd2 sl sl2 ns ms hi hj)
  ⟨ho,ho2,show Value.bool (lexLt ms ns)≠Value.notImplemented/\Q (.bool (lexLt ms ns)) s from⟨(λx=>nomatch x),h⟩⟩ hu
end HT
namespace L2
open PySem PySem.Spec PyProof.Rows
def  Mm(K:Frag):R2:=λx y H Q=>∃a b ns ms,x=.ref a/\y=.ref b/\SqT K H a (ns.map V.int)/\SqT K H b (ms.map V.int)/\Q (.bl (HT.lexLt ms ns)) H
def At{X:Cx}(J:X.A.units<cLine):OpR X (compareOp .Gt) (Mm X.K):=by
 intro pins s σ H x y v u Q I rx j h;let⟨a,b,ns,ms,rfl,rfl,U,T,q⟩:=h;cases rx;cases j;let⟨r,o,p,_⟩:=I.tuple U;let⟨g,l,p2,_⟩:=I.tuple T;have C:=gE o;have t:=gE l;exact HT.gt_tupInts p p2 C t J ⟨.bl _,H,I,rfl,q⟩
inductive D where
 |non
 |bl (b:Bool)
 |int (i:Int)
 |str (x:Str)
 |ty (n:String)
 |adr (a:Addr)
 |tup (ds:List D)
 |lst (ds:List D)
 |obj (C:Str) (ns:U3) (ds:List D)
 |dct (ks:List jk) (ds:List D)
abbrev _root_.U9:=Option D
abbrev _root_.U7:=List D
abbrev _root_.UY:=Option (List D)
mutual
noncomputable def  Is(K:Frag)(H:Hp):D->V->Prop
 |.non,v=>v=.non
 |.bl b,v=>v=.bl b
 |.int i,v=>v=.int i
 |.str x,v=>v=.str x
 |.ty n,v=>v=.ty n
 |.adr a,v=>v=.ref a
 |.tup ds,v=>∃a xs,v=.ref a/\SqT K H a xs/\IsL K H ds xs
 |.lst ds,v=>∃a xs,v=.ref a/\SqL K H a xs/\IsL K H ds xs
 |.obj C ns ds,v=>∃a Ca dx fs,v=.ref a/\nsIn K mainGlobals C=!(!(.ref Ca))/\H a=!(.ins Ca dx fs)/\fs.map (·.1)=ns/\IsL K H ds (fs.map (·.2))
 |.dct ks ds,v=>∃a kvs,v=.ref a/\H a=!(.dK kvs)/\kvs.map (·.1)=ks/\IsL K H ds (kvs.map (·.2))
noncomputable def  IsL(K:Frag)(H:Hp):U7->List V->Prop
 |[],xs=>xs=[]
 |d::ds,xs=>∃x r,xs=x::r/\Is K H d x/\IsL K H ds r
end
def Same.seqT{K}(e:Same H H')(h:SqT K H a xs):SqT K H' a xs:=by
 rcases h with(h|⟨o,h⟩)|h
 .exact .inl (.inl (e _ _ h))
 .exact .inl (.inr ⟨o,e _ _ h⟩)
 .exact .inr h
mutual
theorem Is.mono{K:Frag}{H H':Hp}(s:Same H H'):∀(d:D)(v:V),Is K H d v->Is K H' d v
 |.non,_,h=>h
 |.bl _,_,h=>h
 |.int _,_,h=>h
 |.str _,_,h=>h
 |.ty _,_,h=>h
 |.adr _,_,h=>h
 |.tup ds,_,⟨a,xs,e,q,l⟩=>⟨a,xs,e,s.seqT q,IsL.mono s ds xs l⟩
 |.lst ds,_,⟨a,xs,e,q,l⟩=>⟨a,xs,e,s.seq q,IsL.mono s ds xs l⟩
 |.obj _ _ ds,_,⟨a,Ca,dx,fs,e,c,q,z,l⟩=>⟨a,Ca,dx,fs,e,c,s _ _ q,z,IsL.mono s ds _ l⟩
 |.dct _ ds,_,⟨a,kvs,e,q,z,l⟩=>⟨a,kvs,e,s _ _ q,z,IsL.mono s ds _ l⟩
theorem IsL.mono{K:Frag}{H H':Hp}(s:Same H H'):∀(ds:U7)(xs:List V),IsL K H ds xs->IsL K H' ds xs
 |[],_,h=>h
 |d::ds,_,⟨x,r,e,h,l⟩=>⟨x,r,e,Is.mono s d x h,IsL.mono s ds r l⟩
end
def IsL.paired{K}:∀{ds:U7}{xs:List V},IsL K H ds xs->Paired (Is K H) ds xs
 |[],_,h=>by cases(show _=[]from h);exact .nil
 |_::_,_,⟨_,_,e,h,l⟩=>by cases e;exact .cons h (IsL.paired l)
def IsL.of{K}:∀{ds:U7}{xs:List V},Paired (Is K H) ds xs->IsL K H ds xs
 |_,_,.nil=>rfl
 |_,_,.cons h l=>⟨_,_,rfl,h,IsL.of l⟩
def IsL.len{K}(h:IsL K H ds xs):ds.length=xs.length:=Paired.length h.paired
def nD:∀{a c:List α}{b d:List β},Paired F a b->Paired F c d->Paired F (a++c) (b++d)
 |_,_,_,_,.nil,h=>h
 |_,_,_,_,.cons h l,q=>.cons h (nD l q)
def gG:∀{a:List α}{b:List β}{i:Nat}{x:α},Paired F a b->a[i]?=!x->∃y,b[i]?=!y/\F x y
 |_,_,_,_,.nil,e=>by simp at e
 |_,_,0,_,.cons h _,e=>by simp at e;subst e;exact⟨_,rfl,h⟩
 |_,_,i+1,_,.cons _ l,e=>by
  let⟨y,h1,h2⟩:=gG (i:=i) l (by simpa using e);exact⟨y,by simpa using h1,h2⟩
def paired_get':∀{a:List α}{b:List β}{i:Nat}{y:β},Paired F a b->b[i]?=!y->∃x,a[i]?=!x/\F x y
 |_,_,_,_,.nil,e=>by simp at e
 |_,_,0,_,.cons h _,e=>by simp at e;subst e;exact⟨_,rfl,h⟩
 |_,_,i+1,_,.cons _ l,e=>by
  let⟨y,h1,h2⟩:=paired_get' (i:=i) l (by simpa using e);exact⟨y,by simpa using h1,h2⟩
def nE{x:α}{y:β}(h:F x y):∀{a:List α}{b:List β}(i:Nat),Paired F a b->Paired F (a.set i x) (b.set i y)
 |_,_,_,.nil=>.nil
 |_,_,0,.cons _ l=>.cons h l
 |_,_,i+1,.cons q l=>.cons q (nE h i l)
def lY:∀{a:List α}{b:List β}(n:Nat),Paired F a b->Paired F (a.take n) (b.take n)
 |_,_,0,_=>.nil
 |_,_,_+1,.nil=>.nil
 |_,_,n+1,.cons h l=>.cons h (lY n l)
def lZ:∀{a:List α}{b:List β}(n:Nat),Paired F a b->Paired F (a.drop n) (b.drop n)
 |_,_,0,h=>h
 |_,_,_+1,.nil=>.nil
 |_,_,n+1,.cons _ l=>lZ n l
def IsL.app{K}(h:IsL K H ds xs)(q:IsL K H es ys):IsL K H (ds++es) (xs++ys):=.of (nD h.paired q.paired)
def IsL.get{K}{i:Nat}(h:IsL K H ds xs)(e:ds[i]?=!d):∃x,xs[i]?=!x/\Is K H d x:=gG h.paired e
def IsL.get'{K}{i:Nat}(h:IsL K H ds xs)(e:xs[i]?=!x):∃d,ds[i]?=!d/\Is K H d x:=paired_get' h.paired e
def  msk(O:U5)(H:Hp):Hp:=λb=>if O b=true then none else H b
def aW(h:msk O H b=!o):O b=false/\H b=!o:=by simp_all [Hp,msk]
def aN(h:O b=false):msk O H b=H b:=by unfold msk;rw[if_neg (by simp[h])]
def msk_le:Same (msk O H) H:=λ_ _ h=>(aW h).2
def Same.msk(s:Same H H'):Same (msk O H) (msk O H'):=λb o h=>by
 let⟨h1,h2⟩:=aW h;rw[aN h1];exact s b o h2
def gH(h:O a=true):msk O (upd H a o)=msk O H:=by
 funext b;unfold L2.msk;by_cases g:b=a
 .subst g;rw[if_pos h,if_pos h]
 .rw[ae g]
def mR(h:O a=false):msk O (upd H a o)=upd (msk O H) a o:=by
 funext b;by_cases g:b=a
 .subst g;rw[aN h,ai,ai]
 .rw[ae g];unfold L2.msk;rw[ae g]
def Same.new(h:H a=none):Same H (upd H a o):=λb u q=>by rw[ae (ak q h)];exact q
def Is.full{K}(h:Is K (msk O H) d v):Is K H d v:=Is.mono msk_le d v h
def IsL.full{K}(h:IsL K (msk O H) d v):IsL K H d v:=IsL.mono msk_le d v h
abbrev Vv:=List (Option D)
abbrev _root_.UT:=Vv->Option Bool
abbrev _root_.UR:=Vv->Option D
abbrev _root_.UQ:=Vv->Option (List D)
def  Hid(o:Option HO):Prop:=(∃xs,o=!(.lst xs))\/(∃C dx fs,o=!(.ins C dx fs))\/∃kvs,o=!(.dK kvs)
def Hid.ne(h:Hid o):o≠none:=by grind [Hid]
def Hid.same(s:Same H H')(h:Hid (H b)):Hid (H' b):=by
 rcases h with⟨xs,e⟩|⟨C,dx,fs,e⟩|⟨kvs,e⟩
 .exact .inl ⟨xs,s _ _ e⟩
 .exact .inr (.inl ⟨C,dx,fs,s _ _ e⟩)
 .exact .inr (.inr ⟨kvs,s _ _ e⟩)
structure VE(K:Frag)(O:U5)(σ:St)(H:Hp)(Y:Vv):Prop where
 lis:∀b,O b=true->Hid (H b)
 len:σ.length=Y.length
 sh:∀(i:Nat)(d:D),Y[i]?=!(!d)->∃v,σ[i]?=!(!v)/\Is K (msk O H) d v
section
variable{K:Frag}{O:U5}{σ:St}{H H':Hp}{Y:Vv}
def VE.dom(E:VE K O σ H Y):∀b,O b=true->H b≠none:=λb h=>(E.lis b h).ne
def VE.grow(E:VE K O σ H Y)(s:Same H H'):VE K O σ H' Y where
 lis:=λb h=>(E.lis b h).same s
 len:=E.len
 sh:=λi d h=>let⟨v,e,q⟩:=E.sh i d h;⟨v,e,Is.mono s.msk d v q⟩
def gk(hd:∀b,O b=true->H b≠none)(h:H p=none):O p=false:=by grind
def VE.fresh(E:VE K O σ H Y)(h:H p=none):O p=false:=gk E.dom h
def get_set_some{α:Type}{l:List (Option α)}{x}{y}(h:(l.set i x)[j]?=!(!y)):(j=i/\x=!y)\/(j≠i/\l[j]?=!(!y)):=by grind
def qa{α:Type}{l:List (Option α)}{x}{y}(h:(l.set i x)[i]?=!y):i<l.length:=by grind
def VE.set(E:VE K O σ H Y){i:Nat}{d:D}{v:V}(h:Is K (msk O H) d v):VE K O (σ.set i (!v)) H (Y.set i (!d)) where
 lis:=E.lis
 len:=by simpa using E.len
 sh:=λj r q=>by
  rcases get_set_some q with⟨e,g⟩|⟨e,g⟩
  .cases g;subst e;have hi:j<σ.length:=by rw[E.len];exact qa q
   exact⟨v,by simp[hi],h⟩
  .let⟨l,p,o⟩:=E.sh j r g;exact⟨l,by rw[List.getElem?_set_ne (Ne.symm e)];exact p,o⟩
def wipe_iff{σ}{v:α}:(gj ks σ)[i]?=some (!v)↔σ[i]?=!(!v)/\i ∉ ks:=⟨nB ks σ i v,λh=>sZ ks σ i v h.1 h.2⟩
def VE.wiped(E:VE K O σ H Y)(ks:U2):VE K O (gj ks σ) H (gj ks Y) where
 lis:=E.lis
 len:=by rw[kh,kh];exact E.len
 sh:=λi d q=>by
  let⟨j,g⟩:=wipe_iff.mp q;let⟨v,e,r⟩:=E.sh i d j;exact⟨v,wipe_iff.mpr ⟨e,g⟩,r⟩
end
def  tP(K:Frag)(O:U5)(Y:Vv)(o:U9):TE:=λσ H Q=>VE K O σ H Y/\∃d,o=!d/\∀v H',Same H H'->Is K (msk O H') d v->Q v H'
def  Mn(K:Frag)(O:U5)(Y:Vv)(o:UY):TE:=λσ H Q=>VE K O σ H Y/\∃ds,o=!ds/\∀p xs H',Same H H'->H' p=none->IsL K (msk O H') ds xs->Q (.ref p) (upd H' p (.lst xs))
def  Pj(K:Frag)(O:U5)(Y:Vv)(o:Option Bool):TT:=λσ H Q=>VE K O σ H Y/\∃b,o=!b/\∀H',Same H H'->Q b H'
def  Uc(K:Frag)(O:U5)(Y:Vv)(o:UY):TA:=λσ H Q=>VE K O σ H Y/\∃ds,o=!ds/\∀vs H',Same H H'->IsL K (msk O H') ds vs->Q vs H'
def  PP(X:Cx)(e:Expr)(f:UR):Prop:=∀O Y,PE X e (tP X.K O Y (f Y))
def  PF(X:Cx)(e:Expr)(f:UQ):Prop:=∀O Y,PE X e (Mn X.K O Y (f Y))
def  PQ(X:Cx)(e:Expr)(f:UT):Prop:=∀O Y,PT X e (Pj X.K O Y (f Y))
def  PX(X:Cx)(es:U8)(f:UQ):Prop:=∀O Y,PA X es (Uc X.K O Y (f Y))
noncomputable def  bF(Y:Vv)(i:Nat):U9:=match Y[i]? with
 |some (!d)=>!d
 |_=>none
def qc(h:bF Y i=!d):Y[i]?=!(!d):=by
 unfold bF at h;grind
section
variable{X:Cx}{pos:Pos}
def nF(i:Nat)(l:X.N[i]?=!x:=by rfl)(j:pQ X.env.scope x:=by first|exact Or.inl rfl|exact Or.inr (Or.inl rfl)|exact Or.inr (Or.inr rfl))(hd:(!6)=false:=by decide)(g:(!14)=false:=by decide):PP X (.Name x pos) (λY=>bF Y i):=λO Y=>(bK l j hd g).imp λσ H Q ⟨E,d,e,k⟩=>by
 let⟨v,o,e2⟩:=E.sh i d (qc e);exact⟨v,o,k v H (Same.refl _) e2⟩
def pp_int:PP X (.Constant (.int i) j pos) (λ_=>!(.int i)):=λO Y=>pe_int.imp λσ H Q ⟨E,d,e,k⟩=>by
 cases e;exact k _ H (Same.refl _) rfl
def pp_bl:PP X (.Constant (.bool b) j pos) (λ_=>!(.bl b)):=λO Y=>pe_bl.imp λσ H Q ⟨E,d,e,k⟩=>by
 cases e;exact k _ H (Same.refl _) rfl
def pp_non:PP X (.Constant .none j pos) (λ_=>some .non):=λO Y=>pe_non.imp λσ H Q ⟨E,d,e,k⟩=>by
 cases e;exact k _ H (Same.refl _) rfl
def pp_str:PP X (.Constant (.str x) j pos) (λ_=>!(.str x)):=λO Y=>pe_str.imp λσ H Q ⟨E,d,e,k⟩=>by
 cases e;exact k _ H (Same.refl _) rfl
def Mp(o:Gl X x)(l:X.mg x=none)(g:bootBuiltins x=!(.type n))(j:x≠"__name__":=by decide)(hd:(!6)=false:=by decide):PP X (.Name x pos) (λ_=>!(.ty n)):=
 λO Y=>(DR (v:=.ty n) o l g rfl j hd).imp λσ H Q ⟨E,d,e,k⟩=>by
 cases e;exact k _ H (Same.refl _) rfl
def Ea(j:Gl X x)(g:X.mg x=!u)(r:RelV v u)(h:∀H,Is X.K H d v)(hd:(!6)=false:=by decide):PP X (.Name x pos) (λ_=>!d):=
 λO Y=>(DQ j g r hd).imp λσ H Q ⟨E,l,e,k⟩=>by
 cases e;exact k _ H (Same.refl _) (h _)
def  jF(K:Frag)(r:R2)(g:D->D->U9):Prop:=∀(O:U5)(H:Hp)(x y:V)(dx dy d:D)(Q:VK),(∀b,O b=true->H b≠none)->Is K (msk O H) dx x->Is K (msk O H) dy y->g dx dy=!d->
 (∀v H',Same H H'->Is K (msk O H') d v->Q v H')->r x y H Q
def  aa(g:D->D->U9)(fa fb:UR):UR:=λY=>(fa Y).bind λx=>(fb Y).bind λy=>g x y
def bind_some{α g:Type}{o}{f:α->Option g}{b}(h:o.bind f=!b):∃a,o=!a/\f a=!b:=by
 cases o with
 |none=>cases h
 |some a=>exact⟨a,rfl,h⟩
abbrev _root_.VA:=@bind_some
def mS(J:jF X.K r g)(h:tP X.K O Y (aa g fa T Y) σ H Q):
  LW r (tP X.K O Y (fa Y)) (tP X.K O Y (T Y)) σ H Q:=by
 let⟨E,d,e,k⟩:=h
 let⟨dx,e1,e⟩:=VA e
 let⟨o,e2,U⟩:=VA e
 refine⟨E,dx,e1,λx H1 l I=>⟨E.grow l,o,e2,λy H2 j C=>?_⟩⟩
 exact J O H2 x y dx o d Q (E.grow (l.trans j)).dom (Is.mono j.msk dx x I) C U λv H' p t=>k v H' (l.trans (j.trans p)) t
def nH(l:OpR X (binaryOp op) r)(j:jF X.K r g)(p:PP X a fa)(o:PP X b t):PP X (.BinOp a op b pos) (aa g fa t):=
 λO Y=>(GY l (p O Y) (o O Y)).imp λσ H Q h=>mS j h
def pp_cmp(l:OpR X (compareOp op) r)(j:jF X.K r g)(t:PP X a fa)(p:PP X b C)(o:behindInMarks op b=false):PP X (.Compare a [op] [b] pos) (aa g fa C):=
 λO Y=>(DT l (t O Y) (p O Y) o).imp λσ H Q h=>mS j h
noncomputable def  D.asB:D->Option Bool
 |.bl b=>!b
 |_=>none
def asB_some{d:D}(h:d.asB=!b):d=.bl b:=by
 cases d<;>first|(cases h;rfl)|cases h
def  al(f:UR):UT:=λY=>(f Y).bind D.asB
def pq_cmp(l:OpR X (compareOp op) r)(j:jF X.K r g)(t:PP X a fa)(p:PP X b C)(o:behindInMarks op b=false):PQ X (.Compare a [op] [b] pos) (al (aa g fa C)):=
 λO Y=>(DU l (t O Y) (p O Y) o).imp λσ H Q h=>by
 let⟨E,b,e,k⟩:=h
 let⟨d,I,e2⟩:=VA e
 cases asB_some e2
 refine mS j ⟨E,.bl b,I,λv H' s i=>?_⟩
 cases(i)
 exact⟨b,rfl,k H' s⟩
def  dL(g g':D->D->U9)(fa fb fc:UR):UR:=λY=>(fa Y).bind λx=>(fb Y).bind λy=>(g x y).bind λz=>z.asB.bind λk=>if k=true then(fc Y).bind λw=>g' y w else !(.bl false)
def qd(hr:jF X.K r g)(C:jF X.K r' g')(h:tP X.K O Y (dL g g' fa fb fc Y) σ H Q):
  uY r r' (tP X.K O Y (fa Y)) (tP X.K O Y (fb Y)) (tP X.K O Y (fc Y)) σ H Q:=by
 let⟨E,d,ea,k⟩:=h
 let⟨dx,e1,U⟩:=VA ea
 let⟨p,e2,T⟩:=VA U
 let⟨dz,e3,J⟩:=VA T
 let⟨b,e4,e⟩:=VA J
 clear ea U T J
 cases asB_some e4
 refine⟨E,dx,e1,λx H1 l i1=>⟨E.grow l,p,e2,λy H2 j I=>?_⟩⟩
 refine hr O H2 x y dx p _ _ (E.grow (l.trans j)).dom (Is.mono j.msk dx x i1) I e3 λv H3 o i3=>⟨b,i3,?_⟩
 cases b with
 |true=>
  let⟨dw,e5,e6⟩:=VA e;refine⟨E.grow (l.trans (j.trans o)),dw,e5,λw' H4 t i4=>?_⟩;exact C O H4 y w' p dw d Q (E.grow (l.trans (j.trans (o.trans t)))).dom (Is.mono (o.trans t).msk p y I) i4 e6 λv' H5 s5 i5=>k v' H5 (l.trans (j.trans (o.trans (t.trans s5)))) i5
 |false=>
  cases e;exact k _ H3 (l.trans (j.trans o)) rfl
def Au(ho:OpR X (compareOp op) r)(ho':OpR X (compareOp op') r')(hr:jF X.K r g)(hr':jF X.K r' g')(ha:PP X a fa)(hb:PP X b fb)(hc:PP X c fc)(hm:lastMarks [op,op'] [b,c]=false:=by with_unfolding_all rfl):PP X (.Compare a [op,op'] [b,c] pos) (dL g g' fa fb fc):=λO Y=>(zU ho ho' (ha O Y) (hb O Y) (hc O Y) hm).imp λσ H Q h=>qd hr hr' h
def Av(ho:OpR X (compareOp op) r)(ho':OpR X (compareOp op') r')(hr:jF X.K r g)(hr':jF X.K r' g')(ha:PP X a fa)(hb:PP X b fb)(hc:PP X c fc)(hm:lastMarks [op,op'] [b,c]=false:=by with_unfolding_all rfl):PQ X (.Compare a [op,op'] [b,c] pos) (al (dL g g' fa fb fc)):=λO Y=>(zV ho ho' (ha O Y) (hb O Y) (hc O Y) hm).imp λσ H Q h=>by
 let⟨E,b,e,k⟩:=h;let⟨d,e1,e2⟩:=VA e;cases asB_some e2;refine qd hr hr' ⟨E,.bl b,e1,λv H' s i=>?_⟩;cases(i);grind
def  Mq:D->D->U9
 |.int i,.int j=>!(.int (i+j))
 |_,_=>none
def  fQ:D->D->U9
 |.int i,.int j=>!(.int (i-j))
 |_,_=>none
instance (i j:Int):Decidable (CMul i j):=Classical.propDecidable _
def  Eb(_ j:Int):Prop:=0<j/\j.natAbs.log2<9000
instance (i j:Int):Decidable (Eb i j):=Classical.propDecidable _
def Ec:OpR X (binaryOp .FloorDiv) (rI Eb λi j=>.int (i/j)):=Ph λi j _ _ _ _ _ g q=>by
 have h1:=g.1;exact floordiv_int (!1) (by rw[Int.fdiv_eq_ediv_of_nonneg i (!1)];exact q) (.inl (PyProof.noPylong_of_log2 g.2))
instance (i j:Int):Decidable (zS i j):=Classical.propDecidable _
noncomputable def  aJ:D->D->U9
 |.int i,.int j=>if CMul i j then !(.int (i*j))else none
 |_,_=>none
noncomputable def  c6:D->D->U9
 |.int i,.int j=>if Eb i j then !(.int (i/j))else none
 |_,_=>none
noncomputable def  aV:D->D->U9
 |.int i,.int j=>if 0<j then !(.int (i%j))else none
 |_,_=>none
noncomputable def  vi:D->D->U9
 |.int i,.int j=>if zS i j then !(.int (i^j.toNat))else none
 |_,_=>none
noncomputable def  a9:U7->Option (U4)
 |[]=>![]
 |.int i::ds=>(a9 ds).bind λxs=>!(i::xs)
 |_::_=>none
def  Qy:D->D->U9
 |.int i,.int j=>!(.bl (decide (i<j)))
 |_,_=>none
def  Qz:D->D->U9
 |.tup ds,.tup es=>(a9 ds).bind λxs=>(a9 es).bind λys=>!(.bl (HT.lexLt xs ys))
 |_,_=>none
def  nI(x y:D):U9:=match Qy x y with
 |some d=>!d
 |none=>Qz x y
def  nJ:D->D->U9
 |.int i,.int j=>!(.bl (decide (i<=j)))
 |_,_=>none
def  QA:D->D->U9
 |.int i,.int j=>!(.bl (decide (j<i)))
 |_,_=>none
def  QB:D->D->U9
 |.tup ds,.tup es=>(a9 ds).bind λxs=>(a9 es).bind λys=>!(.bl (HT.lexLt ys xs))
 |_,_=>none
def  Aw(x y:D):U9:=match QA x y with
 |some d=>!d
 |none=>QB x y
def  Lr:D->D->U9
 |.int i,.int j=>!(.bl (decide (j<=i)))
 |_,_=>none
def wR{K}{g:Int->Int->Int}(p:∀x y d,f x y=!d->∃i j,x=.int i/\y=.int j/\d=.int (g i j)):jF K (sA λi j=>.int (g i j)) f:=λO H x y dx r d Q _ o l e k=>by
 let⟨i,j,rfl,rfl,rfl⟩:=p dx r d e;exact⟨i,j,o,l,k _ H (Same.refl _) rfl⟩
def kj{K}{g:Int->Int->Bool}(p:∀x y d,f x y=!d->∃i j,x=.int i/\y=.int j/\d=.bl (g i j)):jF K (sA λi j=>.bl (g i j)) f:=λO H x y dx r d Q _ o l e k=>by
 let⟨i,j,rfl,rfl,rfl⟩:=p dx r d e;exact⟨i,j,o,l,k _ H (Same.refl _) rfl⟩
def mT{K}{g:Int->Int->Int}(p:∀x y d,f x y=!d->∃i j,x=.int i/\y=.int j/\C i j/\d=.int (g i j)):jF K (rI C λi j=>.int (g i j)) f:=λO H x y dx t d Q _ o l e k=>by
 let⟨i,j,rfl,rfl,r,rfl⟩:=p dx t d e;exact⟨i,j,o,l,r,k _ H (Same.refl _) rfl⟩
def fR{f:Int->Int->U9}{x y d:D}(h:(match x,y with|.int i,.int j=>f i j|_,_=>none)=!d):∃i j,x=.int i/\y=.int j/\f i j=!d:=by grind
def Mr{K}:jF K (sA λi j=>.int (i+j)) Mq:=wR λx y d e=>by
 let⟨i,j,h1,h2,e⟩:=fR e;cases e;exact⟨_,_,h1,h2,rfl⟩
def Ms{K}:jF K (sA λi j=>.int (i-j)) fQ:=wR λx y d e=>by
 let⟨i,j,h1,h2,e⟩:=fR e;cases e;exact⟨_,_,h1,h2,rfl⟩
def aw{α:Type}[Decidable c]{a b:α}(h:(if c then !a else none)=!b):c/\a=b:=by grind
def Mt{K}:jF K (rI CMul λi j=>.int (i*j)) aJ:=mT λx y d e=>by
 let⟨i,j,h1,h2,e⟩:=fR e;let⟨c,e⟩:=aw e;cases e;exact⟨_,_,h1,h2,c,rfl⟩
def Mu{K}:jF K (rI Eb λi j=>.int (i/j)) c6:=mT λx y d e=>by
 let⟨i,j,h1,h2,e⟩:=fR e;let⟨c,e⟩:=aw e;cases e;exact⟨_,_,h1,h2,c,rfl⟩
def Mv{K}:jF K (rI (λ_ j=>0<j) λi j=>.int (i%j)) aV:=mT λx y d e=>by
 let⟨i,j,h1,h2,e⟩:=fR e;let⟨c,e⟩:=aw e;cases e;exact⟨_,_,h1,h2,c,rfl⟩
def Mw{K:Frag}:jF K (rI zS λi j=>.int (i^j.toNat)) vi:=mT λx y d e=>by
 let⟨i,j,h1,h2,e⟩:=fR (f:=λi j=>if zS i j then !(.int (i^j.toNat))else none) e;let⟨c,e⟩:=aw e;cases e;exact⟨_,_,h1,h2,c,rfl⟩
def r_ltI{K}:jF K (sA λi j=>.bl (decide (i<j))) Qy:=kj λx y d e=>by
 let⟨i,j,h1,h2,e⟩:=fR e;cases e;exact⟨_,_,h1,h2,rfl⟩
def yG{K}:jF K (sA λi j=>.bl (decide (i<=j))) nJ:=kj λx y d e=>by
 let⟨i,j,h1,h2,e⟩:=fR e;cases e;exact⟨_,_,h1,h2,rfl⟩
def r_gtI{K}:jF K (sA λi j=>.bl (decide (j<i))) QA:=kj λx y d e=>by
 let⟨i,j,h1,h2,e⟩:=fR e;cases e;exact⟨_,_,h1,h2,rfl⟩
def Mx{K:Frag}:jF K (sA λi j=>.bl (decide (j<=i))) Lr:=kj λx y d e=>by
 let⟨i,j,h1,h2,e⟩:=fR e;cases e;exact⟨_,_,h1,h2,rfl⟩
def bT{K}:∀{ds:U7}{ns:U4}{xs:List V},a9 ds=!ns->IsL K H ds xs->xs=ns.map V.int
 |[],ns,xs,e,h=>by cases e;exact h
 |.int i::ds,ns,xs,e,⟨x,r,e1,h1,l⟩=>by
  let⟨ms,e2,e3⟩:=VA (show(a9 ds).bind (λxs=>!(i::xs))=some ns from e);cases e3;cases(show x=.int i from h1);rw[e1,bT e2 l];rfl
def My{K}:jF K (λx y H Q=>sA (λi j=>.bl (decide (i<j))) x y H Q\/Mb K x y H Q) nI:=λO H x y dx g d Q hd r p e k=>by
 unfold nI at e;cases h:Qy dx g with
 |some z=>rw[h]at e;cases e;exact .inl (r_ltI O H x y dx g _ Q hd r p h k)
 |none=>
  rw[h]at e;have e:Qz dx g=!d:=e;unfold Qz at e;split at e
  .let⟨t,T,e⟩:=VA e;let⟨C,e2,e⟩:=VA e;cases e;let⟨a,xs,rfl,o,J⟩:=r;let⟨b,ys,rfl,l,I⟩:=p;rw[bT T J]at o;rw[bT e2 I]at l;exact .inr ⟨a,b,t,C,rfl,rfl,msk_le.seqT o,msk_le.seqT l,k _ H (Same.refl _) rfl⟩
  .cases e
def Mz{K}:jF K (λx y H Q=>sA (λi j=>.bl (decide (j<i))) x y H Q\/Mm K x y H Q) Aw:=λO H x y dx g d Q hd r p e k=>by
 unfold Aw at e;cases h:QA dx g with
 |some z=>rw[h]at e;cases e;exact .inl (r_gtI O H x y dx g _ Q hd r p h k)
 |none=>
  rw[h]at e;have e:QB dx g=!d:=e;unfold QB at e;split at e
  .let⟨t,T,e⟩:=VA e;let⟨C,e2,e⟩:=VA e;cases e;let⟨a,xs,rfl,o,J⟩:=r;let⟨b,ys,rfl,l,I⟩:=p;rw[bT T J]at o;rw[bT e2 I]at l;exact .inr ⟨a,b,t,C,rfl,rfl,msk_le.seqT o,msk_le.seqT l,k _ H (Same.refl _) rfl⟩
  .cases e
def Ed(j:PP X a fa)(g:PP X b l):PP X (.BinOp a .Add b pos) (aa Mq fa l):=nH Ig Mr j g
def Ix(j:PP X a fa)(g:PP X b l):PP X (.BinOp a .Sub b pos) (aa fQ fa l):=nH Ih Ms j g
def Iy(j:PP X a fa)(g:PP X b l):PP X (.BinOp a .Mult b pos) (aa aJ fa l):=nH Ii Mt j g
def Iz(j:PP X a fa)(g:PP X b l):PP X (.BinOp a .FloorDiv b pos) (aa c6 fa l):=nH Ec Mu j g
def IA(j:PP X a fa)(g:PP X b l):PP X (.BinOp a .Mod b pos) (aa aV fa l):=nH Ij Mv j g
def IB{a b:Expr}{fa fb}(ha:PP X a fa)(hb:PP X b fb):PP X (.BinOp a .Pow b pos) (aa vi fa fb):=nH Ik Mw ha hb
def MA(g:X.A.units<cLine)(l:PP X a fa)(j:PP X b o):PP X (.Compare a [.Lt] [b] pos) (aa nI fa o):=pp_cmp (op_lt.or (Ah g)) My l j (dJ _)
def MB(j:PP X a fa)(g:PP X b l):PP X (.Compare a [.LtE] [b] pos) (aa nJ fa l):=pp_cmp pS yG j g (dJ _)
def MC(g:X.A.units<cLine)(l:PP X a fa)(j:PP X b o):PP X (.Compare a [.Gt] [b] pos) (aa Aw fa o):=pp_cmp (op_gt.or (At g)) Mz l j (dJ _)
def MD{a b:Expr}{fa fb}(ha:PP X a fa)(hb:PP X b fb):PP X (.Compare a [.GtE] [b] pos) (aa Lr fa fb):=pp_cmp GZ Mx ha hb (dJ _)
def ME(g:X.A.units<cLine)(l:PP X a fa)(j:PP X b o):PQ X (.Compare a [.Lt] [b] pos) (al (aa nI fa o)):=pq_cmp (op_lt.or (Ah g)) My l j (dJ _)
def MF(j:PP X a fa)(g:PP X b l):PQ X (.Compare a [.LtE] [b] pos) (al (aa nJ fa l)):=pq_cmp pS yG j g (dJ _)
def MG(g:X.A.units<cLine)(l:PP X a fa)(j:PP X b o):PQ X (.Compare a [.Gt] [b] pos) (al (aa Aw fa o)):=pq_cmp (op_gt.or (At g)) Mz l j (dJ _)
def MH{a b:Expr}{fa fb}(ha:PP X a fa)(hb:PP X b fb):PQ X (.Compare a [.GtE] [b] pos) (al (aa Lr fa fb)):=pq_cmp GZ Mx ha hb (dJ _)
def pp_lele(ha:PP X a fa)(hb:PP X b fb)(hc:PP X c fc)(hm:lastMarks [.LtE,.LtE] [b,c]=false:=by with_unfolding_all rfl):PP X (.Compare a [.LtE,.LtE] [b,c] pos) (dL nJ nJ fa fb fc):=Au pS pS yG yG ha hb hc hm
def pq_lele(ha:PP X a fa)(hb:PP X b fb)(hc:PP X c fc)(hm:lastMarks [.LtE,.LtE] [b,c]=false:=by with_unfolding_all rfl):PQ X (.Compare a [.LtE,.LtE] [b,c] pos) (al (dL nJ nJ fa fb fc)):=Av pS pS yG yG ha hb hc hm
def  pC(fa fb:UR):UR:=λY=>(fa Y).bind λx=>x.asB.bind λc=>if c=true then fb Y else !(.bl false)
def  QC(fa fb:UR):UR:=λY=>(fa Y).bind λx=>x.asB.bind λc=>if c=true then !(.bl true)else fb Y
def  Ax(fa:UR):UR:=λY=>(fa Y).bind λx=>x.asB.bind λc=>!(.bl (not c))
def  Ee(fa fb:UT):UT:=λY=>(fa Y).bind λc=>if c=true then fb Y else !false
def  nK(fa fb:UT):UT:=λY=>(fa Y).bind λc=>if c=true then !true else fb Y
def  bB(fa:UT):UT:=λY=>(fa Y).map (not ·)
def  Ef(fc:UT)(fa fb:UR):UR:=λY=>(fc Y).bind λc=>if c=true then fa Y else fb Y
variable{a b c:Expr}{rest:U8}
def IC(h:PP X a f):PP X (.BoolOp op [a] pos) f:=λO Y=>HY (h O Y)
def ID(C:PP X a fa)(t:PP X (.BoolOp .And (b::rest) pos) I):PP X (.BoolOp .And (a::b::rest) pos) (pC fa I):=λO Y=>(HZ (C O Y) (t O Y)).imp λσ H Q ⟨E,d,e,k⟩=>by
 let⟨dx,T,j⟩:=VA e;let⟨c,e2,J⟩:=VA j;clear e j;have e:=J;cases asB_some e2;refine⟨E,_,T,λv H1 g r=>⟨c,r,?_⟩⟩;cases c with
 |true=>rw[if_pos rfl]at e⊢;exact⟨E.grow g,d,e,λl H2 o p=>k l H2 (g.trans o) p⟩
 |false=>rw[if_neg Bool.false_ne_true]at e⊢;cases e;exact k _ H1 g rfl
def MI{fa fb}(ha:PP X a fa)(hb:PP X (.BoolOp .Or (b::rest) pos) fb):PP X (.BoolOp .Or (a::b::rest) pos) (QC fa fb):=λO Y=>(LN (ha O Y) (hb O Y)).imp λσ H Q ⟨E,d,e,k⟩=>by
 let⟨dx,e1,eb⟩:=VA e;let⟨c,e2,ec⟩:=VA eb;clear e eb;have e:=ec;clear ec;cases asB_some e2;refine⟨E,_,e1,λv H1 s1 i1=>⟨c,i1,?_⟩⟩;cases c with
 |true=>rw[if_pos rfl]at e⊢;cases e;exact k _ H1 s1 rfl
 |false=>rw[if_neg Bool.false_ne_true]at e⊢;exact⟨E.grow s1,d,e,λv' H2 s2 i2=>k v' H2 (s1.trans s2) i2⟩
def IE(l:PP X a fa):PP X (.UnaryOp .Not a pos) (Ax fa):=λO Y=>(H0 (l O Y)).imp λσ H Q ⟨E,d,e,k⟩=>by
 let⟨dx,r,p⟩:=VA e;let⟨c,e2,o⟩:=VA p;have e:=o;cases asB_some e2;cases e;exact⟨E,_,r,λv H1 g j=>⟨c,j,k _ H1 g rfl⟩⟩
def  PWQ(X:Cx)(e:Expr)(f:UT):Prop:=∀O Y,PW X e (Pj X.K O Y (f Y))
def PWQ.pq(h:PWQ X a f):PQ X a f:=λO Y=>(h O Y).pt
def PW.imp(h:PW X e t)(k:∀σ H Q,j σ H Q->t σ H Q):PW X e j:=λg pins s σ H Q I q=>h g pins s σ H Q I (k _ _ _ q)
def pw_and1D(h:PQ X a f):PWQ X (.BoolOp .And [a] pos) f:=λO Y=>pw_and1 (h O Y)
def pw_or1D(h:PQ X a f):PWQ X (.BoolOp .Or [a] pos) f:=λO Y=>pw_or1 (h O Y)
def pw_andD(o:PQ X a fa)(l:PWQ X (.BoolOp .And (b::rest) pos) p):PWQ X (.BoolOp .And (a::b::rest) pos) (Ee fa p):=λO Y=>(pw_and (o O Y) (l O Y)).imp λσ H Q ⟨E,d,e,k⟩=>by
 let⟨c,t,r⟩:=VA e;have e:=r;refine⟨E,c,t,λH1 g=>?_⟩;cases c with
 |true=>rw[if_pos rfl]at e⊢;exact⟨E.grow g,d,e,λH2 j=>k H2 (g.trans j)⟩
 |false=>rw[if_neg Bool.false_ne_true]at e⊢;cases e;exact k H1 g
def pw_orD(o:PQ X a fa)(l:PWQ X (.BoolOp .Or (b::rest) pos) p):PWQ X (.BoolOp .Or (a::b::rest) pos) (nK fa p):=λO Y=>(pw_or (o O Y) (l O Y)).imp λσ H Q ⟨E,d,e,k⟩=>by
 let⟨c,t,r⟩:=VA e;have e:=r;refine⟨E,c,t,λH1 g=>?_⟩;cases c with
 |true=>rw[if_pos rfl]at e⊢;cases e;exact k H1 g
 |false=>rw[if_neg Bool.false_ne_true]at e⊢;exact⟨E.grow g,d,e,λH2 j=>k H2 (g.trans j)⟩
def IF(j:PQ X a fa):PQ X (.UnaryOp .Not a pos) (bB fa):=λO Y=>(HX (j O Y)).imp λσ H Q ⟨E,d,e,k⟩=>by
 unfold bB at e;cases q:fa Y with
 |none=>rw[q]at e;cases e
 |some c=>rw[q]at e;cases e;exact⟨E,c,rfl,λH1 g=>k H1 g⟩
def MJ(p:PQ X c C)(t:PP X a fa)(r:PP X b I):PP X (.IfExp c a b pos) (Ef C fa I):=λO Y=>(sK (p O Y) (t O Y) (r O Y)).imp λσ H Q ⟨E,d,e,k⟩=>by
 let⟨c,T,J⟩:=VA e;have e:=J;refine⟨E,c,T,λH1 g=>?_⟩;cases c with
 |true=>rw[if_pos rfl]at e⊢;exact⟨E.grow g,d,e,λj H2 l o=>k j H2 (g.trans l) o⟩
 |false=>rw[if_neg Bool.false_ne_true]at e⊢;exact⟨E.grow g,d,e,λj H2 l o=>k j H2 (g.trans l) o⟩
noncomputable def  pD:D->Option Bool
 |.bl b=>!b
 |.int i=>!(i !=0)
 |.non=>!false
 |.lst ds=>!(not ds.isEmpty)
 |.tup ds=>!(not ds.isEmpty)
 |_=>none
def l5{α g:Type}{a:List α}{b:List g}(h:a.length=b.length):a.isEmpty=b.isEmpty:=by
 cases a<;>cases b<;>first|rfl|simp at h
def pq_val(h:PP X a f)(o:∀whole,isTrue a X.env whole=(do let v<-whole;standAt a.pos;holding [v] (truthy v)):=by intro _;rfl):PQ X a (λY=>(f Y).bind pD):=λO Y=>(zW (h O Y) o).imp λσ H Q ⟨E,b,e,k⟩=>by
 let⟨d,r,e⟩:=VA e;refine⟨E,d,r,λv H1 j g=>⟨b,?_,k H1 j⟩⟩;cases d with
 |bl c=>cases e;cases(g);rfl
 |int i=>cases e;cases(g);rfl
 |non=>cases e;cases(g);rfl
 |lst ds=>
  cases e;let⟨p,xs,rfl,q,l⟩:=g;exact .inl ⟨xs,msk_le.seq q,by rw[l5 l.len]⟩
 |tup ds=>
  cases e;let⟨p,xs,rfl,q,l⟩:=g;exact .inr (.inl ⟨xs,msk_le.seqT q,by rw[l5 l.len]⟩)
 |_=>cases e
end
noncomputable def  big:Nat:=16777216
def iG:sizeLine=big:=sizeLine_eq
section
variable{X:Cx}{pos:Pos}{a b c e:Expr}{es:U8}
def vj:PX X [] (λ_=>![]):=λO Y=>pa_nil.imp λσ H Q ⟨E,ds,e,k⟩=>by
 cases e;exact k [] H (Same.refl _) rfl
noncomputable def  ac(f:UR)(g:UQ):UQ:=λY=>(f Y).bind λd=>(g Y).bind λr=>!(d::r)
def px_cons(h:PP X e f)(I:PX X es g)(C:starEach (e::es) X.env=(false,eval e X.env)::starEach es X.env:=by rfl):PX X (e::es) (ac f g):=
 λO Y=>(dm (h O Y) (I O Y) C).imp λσ H Q ⟨E,ds,q,k⟩=>by
 let⟨d,J,q⟩:=VA q
 let⟨r,e2,q⟩:=VA q
 cases q
 exact⟨E,d,J,λv H1 l t=>⟨E.grow l,r,e2,λo H2 j p=>k _ H2 (l.trans j) ⟨v,o,rfl,Is.mono j.msk d v t,p⟩⟩⟩
def  bJ(o:UY):UY:=o.bind λds=>if ds.length<big then !ds else none
def da(h:bJ o=!ds):o=!ds/\ds.length<sizeLine:=by
 let⟨d,g,e2⟩:=VA h;let⟨h1,h2⟩:=aw e2;subst h2;exact⟨g,by rw[iG];exact h1⟩
def Ay{x1}(h:PX X es g):PP X (.Tuple es x1 pos) (λY=>(bJ (g Y)).bind λds=>!(.tup ds)):=λO Y=>(Aa (h O Y)).imp λσ H Q ⟨E,d,q,k⟩=>by
 let⟨ds,z,C⟩:=VA q;cases C;let⟨I,e2⟩:=da z;refine⟨E,ds,I,λr H1 t l=>⟨by rw[<-l.len];exact Vu e2,λp j=>?_⟩⟩;have o:=(E.grow t).fresh j;have le:Same (msk O H1) (msk O (upd H1 p (.tup r))):=by rw[mR o];exact Same.new (by rw[aN o];exact j)
 exact k _ _ (t.trans (Same.new j)) ⟨p,r,rfl,.of (by rw[aN o,ai]),IsL.mono le _ _ l⟩
def IG(h:PX X es g):PF X (.List es pos) (λY=>bJ (g Y)):=λO Y=>(Ab (h O Y)).imp λσ H Q ⟨E,ds,q,k⟩=>by
 let⟨t,e2⟩:=da q;exact⟨E,ds,t,λj H1 o l=>⟨by rw[<-l.len];exact Vu e2,λp r=>k p j H1 o r l⟩⟩
def  IH:D->Option jk
 |.int i=>!(.inl i)
 |.str x=>!(.inr x)
 |_=>none
def wS{K}(e:IH d=!k)(h:Is K H d v):v=kV k:=by
 cases d with
 |int i=>cases e;exact h
 |str x=>cases e;exact h
 |_=>cases e
noncomputable def  yH:List jk->U7->jk->U9
 |k::ks,d::ds,j=>if k=j then !d else yH ks ds j
 |_,_,_=>none
def valD_val{K}:∀{kvs:List (jk×V)}{ds:U7},IsL K H ds (kvs.map (·.2))->(yH (kvs.map (·.1)) ds j=none/\qX kvs j=none)\/∃d v,yH (kvs.map (·.1)) ds j=!d/\qX kvs j=!v/\Is K H d v
 |[],ds,_=>.inl ⟨by cases ds<;>rfl,rfl⟩
 |p::r,[],h=>by cases(show(p::r).map (·.2)=[]from h)
 |p::r,d::ds,⟨x,t,z,h,l⟩=>by
  have z':p.2::r.map (·.2)=x::t:=z;cases z';show((if p.1=j then !d else yH (r.map (·.1)) ds j)=none/\_)\/∃d' v,(if p.1=j then !d else yH (r.map (·.1)) ds j)=!d'/\_;by_cases e:p.1=j
  .rw[if_pos e,td e];exact .inr ⟨d,p.2,rfl,rfl,h⟩
  .rw[if_neg e,tj e];exact valD_val l
def  MK:R2:=λx y H Q=>∃p kvs k v,x=.ref p/\y=kV k/\H p=!(.dK kvs)/\qX kvs k=!v/\Q v H
def Eg:IxR X MK:=by
 intro value slice pins s σ H x y v u Q I rx o h t;let⟨p,kvs,k,z,rfl,rfl,e,l,q⟩:=h;cases rx;let⟨_,hd,J,rel,j⟩:=Hf I.hok e;let⟨C,r,g⟩:=RelO.some_of (by rw[<-l];exact rel.val k);exact tail_any j.typeIs PySem.F.slot_dict_getitem.lookup (wpAny_getItem_of (He o) j.mapOf r ⟨z,H,I.tok _,g,q⟩) t
def  am:D->D->U9
 |.lst ds,.int i=>pj ds i
 |.tup ds,.int i=>pj ds i
 |.dct ks ds,e=>(IH e).bind (yH ks ds)
 |_,_=>none
def wT{xs:List g}{d:α}(l:ds.length=xs.length)(h:pj ds i=!d):∃j:Nat,ds[j]?=!d/\pj xs i=xs[j]?:=by
 let⟨j,o,e2⟩:=VA h;grind [pj]
def QD{K}:jF K (λx y H Q=>Sz K x y H Q\/MK x y H Q) am:=λO H x y dx I d Q hd t r e k=>by
 cases dx with
 |lst ds=>
  cases I with
  |int i=>
   let⟨p,xs,rfl,q,l⟩:=t;cases(show y=.int i from r);let⟨j,o,e2⟩:=wT l.len (e);let⟨v,C,g⟩:=l.get o;exact .inl (.inl ⟨p,xs,i,v,rfl,rfl,msk_le.seq q,e2.trans C,k v H (Same.refl _) g⟩)
  |_=>cases e
 |tup ds=>
  cases I with
  |int i=>
   let⟨p,xs,rfl,q,l⟩:=t;cases(show y=.int i from r);let⟨j,o,e2⟩:=wT l.len (e);let⟨v,C,g⟩:=l.get o;exact .inl (.inr (.inl ⟨p,xs,i,v,rfl,rfl,msk_le.seqT q,e2.trans C,k v H (Same.refl _) g⟩))
  |_=>cases e
 |dct ks ds=>
  let⟨p,kvs,rfl,q,rfl,l⟩:=t;let⟨j,o,e2⟩:=VA (e);rcases valD_val l with⟨z,_⟩|⟨T,v,z,J,g⟩
  .rw[z]at e2;cases e2
  .rw[z]at e2;cases e2;exact .inr ⟨p,kvs,j,v,rfl,wS o r,msk_le _ _ q,J,k v H (Same.refl _) g⟩
 |_=>cases e
def pp_ix(l:PP X a fa)(j:PP X b o)(g:qR b:=by exactλ_ _=>rfl):PP X (.Subscript a b pos) (aa am fa o):=λO Y=>(Mc (ix_seq.or Eg) (l O Y) (j O Y) g).imp λσ H Q h=>mS QD h
def  Eh(K:Frag)(r:List V->Hp->VK->Prop)(g:U7->U9):Prop:=∀(O:U5)(H:Hp)(xs:List V)(ds:U7)(d:D)(Q:VK),(∀b,O b=true->H b≠none)->IsL K (msk O H) ds xs->g ds=!d->
 (∀v H',Same H H'->Is K (msk O H') d v->Q v H')->r xs H Q
variable{x:Str}{p:Pos}{bid T:String}{r:List V->Hp->VK->Prop}{g:U7->U9}{fa:UQ}
def pp_callB(hc:eQ X (.builtin bid) r)(U:Eh X.K r g)(hg:Gl X x)(hm:X.mg x=none)(T:bootBuiltins x=!(.builtin bid))(ha:PX X (e::es) fa)(hn:x≠"__name__":=by decide)(o:(!6)=false:=by decide)
  (he:starEach (e::es) X.env=(false,eval e X.env)::starEach es X.env:=by rfl) (j:(!17).any (·.1)=false:=by rfl):PP X (!18) (λY=>(fa Y).bind g):=
 λO Y=>(nr hc hg hm T (ha O Y) hn o he j).imp λσ H Q ⟨E,d,q,k⟩=>by
 let⟨ds,e1,q⟩:=VA q
 exact⟨E,ds,e1,λC H1 t l=>U O H1 C ds d Q (E.grow t).dom l q λv H2 I J=>k v H2 (t.trans I) J⟩
def pp_callTy(hc:eQ X (.type T) r)(hr:Eh X.K r g)(hg:Gl X x)(hm:X.mg x=none)(U:bootBuiltins x=!(.type T))(ha:PX X (e::es) fa)(hn:x≠"__name__":=by decide)(o:(!6)=false:=by decide)
  (he:starEach (e::es) X.env=(false,eval e X.env)::starEach es X.env:=by rfl) (j:(!17).any (·.1)=false:=by rfl):PP X (!18) (λY=>(fa Y).bind g):=
 λO Y=>(pX hc hg hm U (ha O Y) hn o he j).imp λσ H Q ⟨E,d,q,k⟩=>by
 let⟨ds,e1,q⟩:=VA q
 exact⟨E,ds,e1,λC H1 t l=>hr O H1 C ds d Q (E.grow t).dom l q λv H2 I J=>k v H2 (t.trans I) J⟩
noncomputable def  tq{α:Type}(g:D->Option α)(ds:U7):Option α:=match ds with
 |[d]=>g d
 |_=>none
noncomputable def  Ls{α:Type}(g:D->D->Option α)(ds:U7):Option α:=match ds with
 |[c,d]=>g c d
 |_=>none
def bd{g}{r:α}(h:tq g ds=!r):∃d,ds=[d]/\g d=!r:=by
 cases ds with
 |nil=>cases h
 |cons d t=>
  cases t with
  |nil=>exact⟨d,rfl,h⟩
  |cons _ _=>cases h
def tu{g}{r:α}(h:Ls g ds=!r):∃c d,ds=[c,d]/\g c d=!r:=by
 cases ds with
 |nil=>cases h
 |cons c t=>
  cases t with
  |nil=>cases h
  |cons d u=>
   cases u with
   |nil=>exact⟨c,d,rfl,h⟩
   |cons _ _=>cases h
def uQ{K}(l:IsL K H [d] xs):∃v,xs=[v]/\Is K H d v:=by simp_all [Hp,IsL,Is]
def QE{K}{c d}(l:IsL K H [c,d] xs):∃u v,xs=[u,v]/\Is K H c u/\Is K H d v:=by
 let⟨u,r,z,h,g⟩:=l;let⟨v,j,h2⟩:=uQ g;grind
def  seqD:D->UY
 |.lst ds=>!ds
 |.tup ds=>!ds
 |_=>none
def gI{K}(e:seqD d=!ds)(h:Is K H d v):∃p xs,v=.ref p/\(SqL K H p xs\/SqT K H p xs)/\IsL K H ds xs:=by
 cases d with
 |lst es=>cases e;let⟨p,xs,z,q,l⟩:=h;exact⟨p,xs,z,.inl q,l⟩
 |tup es=>cases e;let⟨p,xs,z,q,l⟩:=h;exact⟨p,xs,z,.inr q,l⟩
 |_=>cases e
def Same.both{K}{a}(s:Same H H')(h:SqL K H a xs\/SqT K H a xs):SqL K H' a xs\/SqT K H' a xs:=by
 rcases h with h|h
 .exact .inl (s.seq h)
 .exact .inr (s.seqT h)
def  dM:U7->U9:=tq λd=>(seqD d).bind λds=>!(.int ds.length)
def rn_len:Eh X.K (λxs H Q=>∃p ys,xs=[.ref p]/\(SqL X.K H p ys\/SqT X.K H p ys)/\Q (.int ys.length) H) dM:=λO H xs ds d Q hd l e k=>by
 let⟨c,rfl,e⟩:=bd e;let⟨es,j,e2⟩:=VA e;cases e2;let⟨v,rfl,h⟩:=uQ l;let⟨p,ys,rfl,q,g⟩:=gI j h;exact⟨p,ys,rfl,msk_le.both q,k _ H (Same.refl _) (by show V.int ys.length=.int es.length;rw[g.len])⟩
def  l6:U7->UY:=tq seqD
def Ei(I:Gl X "list")(C:X.mg "list"=none)(r:bootBuiltins "list"=!(.type "list"))(U:PX X [e] fa)(J:starEach [e] X.env=[(false,eval e X.env)]:=by rfl):PF X (.Call (.Name "list" p) [e] [] pos) (λY=>(fa Y).bind l6):=
 λO Y=>(pX qT I C r (U O Y) (!3) (!3) J rfl).imp λσ H Q ⟨E,ds,q,k⟩=>by
 let⟨as,e1,q⟩:=VA q
 refine⟨E,as,e1,λvs H1 g l=>?_⟩
 let⟨c,rfl,j⟩:=bd q
 let⟨v,rfl,h⟩:=uQ l
 let⟨p,ys,rfl,t,o⟩:=gI j h
 exact⟨p,ys,rfl,msk_le.both t,λb T=>k b ys H1 g T o⟩
def  cG:U7->U9:=tq λd=>(seqD d).bind λds=>!(.tup ds)
def rn_tuple:Eh X.K (λxs H Q=>∃p ys,xs=[.ref p]/\((SqL X.K H p ys/\∀l,H l=none->Q (.ref l) (upd H l (.tup ys)))\/(SqT X.K H p ys/\Q (.ref p) H))) cG:=λO H xs ds d Q hd l e k=>by
 let⟨c,rfl,e⟩:=bd e;let⟨es,r,e2⟩:=VA e;cases e2;let⟨v,rfl,h⟩:=uQ l;let⟨p,ys,rfl,q,o⟩:=gI r h;refine⟨p,ys,rfl,?_⟩;rcases q with q|q
 .refine .inl ⟨msk_le.seq q,λc g=>?_⟩;have j:=gk hd g;have le:Same (msk O H) (msk O (upd H c (.tup ys))):=by rw[mR j];exact Same.new (by rw[aN j];exact g)
  exact k _ _ (Same.new g) ⟨c,ys,rfl,.of (by rw[aN j,ai]),IsL.mono le _ _ o⟩
 .exact .inr ⟨msk_le.seqT q,k _ H (Same.refl _) ⟨p,ys,rfl,q,o⟩⟩
def tw:∀{bs:List Bool}{us:U0},Vals (bs.map V.bl) us->us=bs.map Value.bool
 |[],_,.nil=>rfl
 |b::bs,_,.cons r t=>by
  cases(show _=Value.bool b from r);rw[tw t];rfl
def qe:∀(bs:List Bool),((List.range bs.length).all λi=>bs.getD i true)=bs.all (λz=>z)
 |[]=>rfl
 |b::bs=>by
  rw[length_cons,List.range_succ_eq_map,List.all_cons,List.all_map,List.all_cons,<-qe bs];rfl
def call_all(hc:X.calm=true):eQ X (.builtin "all") (λxs H Q=>∃(p:Addr)(g:List Bool),xs=[.ref p]/\SqL X.K H p (g.map V.bl)/\Q (.bl (g.all (λz=>z))) H):=by
 intro pins s σ H xs us Q I r h;let⟨l,g,rfl,hl,q⟩:=h;let⟨u,rfl,U⟩:=fC r;cases U;let⟨its,rv,pl,hz⟩:=I.list hl;have eb:=tw rv;subst eb;have T:=pl.isList;have C:l<s.heap.objs.size:=by let⟨_,e,_⟩:=T;exact Ve e
 refine call_all_walk (wpAny_pyIter_list T ?_);refine⟨s.heap.objs.size,[s.heap.objs.size,l],[s.heap.objs.size],_,_,_,λi=>g.getD i true,rfl,Walks.list (A:=X.A.in1) (I.ok.hd hc) _ l (Vo C) (g.map Value.bool).toArray,
  ⟨⟨_,Vf _ rfl,rfl,rfl⟩,T.push _⟩,λi v s' Q' E' hP J=>?_,λh' tk hk=>?_⟩
 .have j:(g.map Value.bool)[i]?=!v:=by simpa using hP
  rw[getElem?_map]at j;cases e:g[i]? with
  |none=>rw[e]at j;cases j
  |some b=>
   rw[e]at j;cases j;have e':g.getD i true=b:=by rw[List.getD_eq_getElem?_getD,e];rfl
   dsimp only at J;rw[e']at J;exact wpAny_truthy_bool J
 .have e:((List.range (g.map Value.bool).toArray.size).all λi=>g.getD i true)=g.all (λz=>z):=by
   rw[size_toArray,length_map];exact qe g
  rw[e];exact⟨.bl _,H,I.kept λb o t=>hk b o (λhm=>by rw[mem_singleton.mp hm]at t;exact Vt _ (Ve t)) (Vc _ t),rfl,q⟩
def  tz:U7->Option (List Bool)
 |[]=>![]
 |d::ds=>d.asB.bind λb=>(tz ds).bind λr=>!(b::r)
def  lu:D->UY
 |.lst ds=>!ds
 |_=>none
def cH{K}(e:lu d=!ds)(h:Is K H d v):∃p xs,v=.ref p/\SqL K H p xs/\IsL K H ds xs:=by
 cases d with
 |lst es=>cases e;exact h
 |_=>cases e
def  fy:U7->U9:=tq λd=>(lu d).bind λds=>(tz ds).bind λbs=>!(.bl (bs.all (λz=>z)))
def wU{K}:∀{ds:U7}{bs:List Bool}{xs:List V},tz ds=!bs->IsL K H ds xs->xs=bs.map V.bl
 |[],_,_,e,l=>by cases e;exact l
 |d::ds,_,_,e,⟨x,r,z,h,l⟩=>by
  let⟨b,e1,e⟩:=VA e;let⟨bs,e2,e⟩:=VA e;cases e;cases asB_some e1;rw[z,wU e2 l,show x=.bl b from h];rfl
def rn_all:Eh X.K (λxs H Q=>∃(p:Addr)(g:List Bool),xs=[.ref p]/\SqL X.K H p (g.map V.bl)/\Q (.bl (g.all (λz=>z))) H) fy:=λO H xs ds d Q hd l e k=>by
 let⟨c,rfl,e⟩:=bd e;let⟨es,t,e2⟩:=VA e;let⟨g,r,o⟩:=VA e2;cases o;let⟨v,rfl,h⟩:=uQ l;let⟨p,ys,rfl,q,j⟩:=cH t h;rw[wU r j]at q;exact⟨p,g,rfl,msk_le.seq q,k _ H (Same.refl _) rfl⟩
def  bL:D->Bool
 |.non=>true
 |.bl _=>true
 |.int _=>true
 |.str _=>true
 |_=>false
noncomputable def  nL:D->V
 |.non=>.non
 |.bl b=>.bl b
 |.int i=>.int i
 |.str x=>.str x
 |_=>.non
def iY{K}(f:bL d=true)(h:Is K H d v):v=nL d/\iD v=true:=by
 cases d<;>first|(cases(h);exact⟨rfl,rfl⟩)|cases f
def iH{K}:∀{ds:U7}{xs:List V},ds.all bL=true->IsL K H ds xs->xs=ds.map nL/\xs.all iD=true
 |[],_,_,l=>by cases(show _=[]from l);exact⟨rfl,rfl⟩
 |d::ds,_,f,⟨x,r,z,h,l⟩=>by
  rw[List.all_cons,and_eq_true]at f;let⟨e1,e2⟩:=iY f.1 h;let⟨e3,e4⟩:=iH f.2 l;rw[z];exact⟨by rw[e1,e3];rfl,by rw[List.all_cons,e2,e4];rfl⟩
def  Pl(x:D)(ds:U7):Bool:=Qs (nL x) (ds.map nL)
def  Pm:D->D->U9
 |x,.lst ds=>if bL x&&ds.all bL then !(.bl (Pl x ds))else none
 |x,.tup ds=>if bL x&&ds.all bL then !(.bl (Pl x ds))else none
 |_,_=>none
def r_in{K}:jF K (Pi K false) Pm:=λO H x y dx C d Q hd t r e k=>by
 cases C with
 |lst ds=>
  let⟨h1,h2⟩:=aw (e);rw[and_eq_true]at h1;subst h2;let⟨p,xs,rfl,q,l⟩:=r;let⟨o,e2⟩:=iY h1.1 t;let⟨j,g⟩:=iH h1.2 l;exact⟨p,xs,rfl,.inl (msk_le.seq q),e2,g,k _ H (Same.refl _) (by rw[o,j];rfl)⟩
 |tup ds=>
  let⟨h1,h2⟩:=aw (e);rw[and_eq_true]at h1;subst h2;let⟨p,xs,rfl,q,l⟩:=r;let⟨o,e2⟩:=iY h1.1 t;let⟨j,g⟩:=iH h1.2 l;exact⟨p,xs,rfl,.inr (msk_le.seqT q),e2,g,k _ H (Same.refl _) (by rw[o,j];rfl)⟩
 |_=>cases e
noncomputable def  cq:D->Option String
 |.non=>some "NoneType"
 |.bl _=>some "bool"
 |.int _=>some "int"
 |.str _=>some "str"
 |.tup _=>some "tuple"
 |.lst _=>some "list"
 |_=>none
def  isI(T n:String):Bool:=T==n||(T=="bool"&&n=="int")
noncomputable def  wV(n:String):Bool:=["int","bool","str","list","tuple","dict"].contains n
def Az(K:Frag)(j:cq d=!T)(l:wV n=true):PySem.W.kitOne K (.type T) (.type n)=!(isI T n):=by
 have g:n="int"\/n="bool"\/n="str"\/n="list"\/n="tuple"\/n="dict":=by
  simpa [wV] using l
 cases d<;>first
  |(cases j;rcases g with rfl|rfl|rfl|rfl|rfl|rfl<;>rfl)
  |cases j
def Ej{σ:St}{x}{u c}{b}(I:Inv X pins σ H s)(h:Is X.K H d x)(rx:RelV x u)(hT:cq d=!T)(e:PySem.W.kitOne X.K (.type T) c=!b)(hq:∀tk,Q (.bool b) {s with toks:=tk}):wpAny (!4) A (call (.builtin "isinstance") [u,c]) Q E s:=by
 cases d with
 |non=>cases hT;cases(h);cases(rx);exact PySem.W.kia_one PySem.W.kitx_none I.kIn True.intro e (λz=>nomatch z) hq
 |bl y=>cases hT;cases(h);cases(rx);exact PySem.W.kia_one PySem.W.kitx_bool I.kIn True.intro e (λz=>nomatch z) hq
 |int i=>cases hT;cases(h);let⟨t,q⟩:=(rx);cases q;exact PySem.W.kia_one PySem.W.kitx_int I.kIn True.intro e (λz=>nomatch z) hq
 |str i=>cases hT;cases(h);let⟨t,q⟩:=(rx);cases q;exact PySem.W.kia_one PySem.W.kitx_str I.kIn True.intro e (λz=>nomatch z) hq
 |tup ds=>
  cases hT;let⟨a,xs,rfl,q,l⟩:=h;cases(show u=Value.ref a from rx);let⟨its,_,⟨o,h1,h2,_⟩,_⟩:=I.tuple q;exact PySem.W.kia_one PySem.W.kitx_tuple I.kIn ⟨o,h1,h2⟩ e (λz=>nomatch z) hq
 |lst ds=>
  cases hT;let⟨a,xs,rfl,q,l⟩:=h;cases(show u=Value.ref a from rx);let⟨its,_,⟨o,n,h1,h2,_⟩,_⟩:=I.list q;exact PySem.W.kia_one PySem.W.kitx_list I.kIn ⟨o,h1,h2⟩ e (λz=>nomatch z) hq
 |_=>cases hT
def Ek{σ:St}{x}{b}(I:Inv X pins σ H s)(h:Is X.K H d x)(rx:RelV x u)(hT:cq d=!T)(htp:s.heap.get? tp=!⟨.type "tuple",dd,.seq its.toArray n,sl⟩)(e:PySem.W.kitAny X.K (.type T) its=!b)(hq:∀tk,Q (.bool b) {s with toks:=tk}):wpAny (!4) A (call (.builtin "isinstance") [u,.ref tp]) Q E s:=by
 cases d with
 |non=>cases hT;cases(h);cases(rx);exact PySem.W.kia_tup PySem.W.kitx_none I.kIn True.intro htp e (λz=>nomatch z) hq
 |bl y=>cases hT;cases(h);cases(rx);exact PySem.W.kia_tup PySem.W.kitx_bool I.kIn True.intro htp e (λz=>nomatch z) hq
 |int i=>cases hT;cases(h);let⟨t,q⟩:=(rx);cases q;exact PySem.W.kia_tup PySem.W.kitx_int I.kIn True.intro htp e (λz=>nomatch z) hq
 |str i=>cases hT;cases(h);let⟨t,q⟩:=(rx);cases q;exact PySem.W.kia_tup PySem.W.kitx_str I.kIn True.intro htp e (λz=>nomatch z) hq
 |tup ds=>
  cases hT;let⟨a,xs,rfl,q,l⟩:=h;cases(show u=Value.ref a from rx);let⟨its,_,⟨o,h1,h2,_⟩,_⟩:=I.tuple q;exact PySem.W.kia_tup PySem.W.kitx_tuple I.kIn ⟨o,h1,h2⟩ htp e (λz=>nomatch z) hq
 |lst ds=>
  cases hT;let⟨a,xs,rfl,q,l⟩:=h;cases(show u=Value.ref a from rx);let⟨its,_,⟨o,n,h1,h2,_⟩,_⟩:=I.list q;exact PySem.W.kia_tup PySem.W.kitx_list I.kIn ⟨o,h1,h2⟩ htp e (λz=>nomatch z) hq
 |_=>cases hT
def  QF:D->Option String
 |.ty n=>if wV n then !n else none
 |_=>none
def tB(h:QF d=!n):d=.ty n/\wV n=true:=by
 cases d with
 |ty m=>let⟨h1,h2⟩:=aw h;subst h2;exact⟨rfl,h1⟩
 |_=>cases h
def  AA:U7->Option (List String)
 |[]=>![]
 |d::ds=>(QF d).bind λn=>(AA ds).bind λr=>!(n::r)
def  II:D->UY
 |.tup ds=>!ds
 |_=>none
def El{K}(e:II d=!ds)(h:Is K H d v):∃p xs,v=.ref p/\SqT K H p xs/\IsL K H ds xs:=by
 cases d with
 |tup es=>cases e;exact h
 |_=>cases e
def  nM(c:D):Option (List String):=match QF c with
 |some n=>![n]
 |none=>(II c).bind AA
def  c8:U7->U9:=Ls λd c=>(cq d).bind λT=>(nM c).bind λns=>!(.bl (ns.any (isI T)))
def qf{K}(hT:cq d=!T):∀{cs:U7}{ns:List String}{xs:List V}{us:U0},AA cs=!ns->IsL K H cs xs->Vals xs us->PySem.W.kitAny K (.type T) us=!(ns.any (isI T))
 |[],_,_,_,e,l,r=>by
  cases e;cases(show _=[]from l);cases r;rfl
 |c::cs,ns,_,_,e,⟨x,xr,z,h,l⟩,r=>by
  let⟨n,e1,e2⟩:=VA e;let⟨ms,e3,e4⟩:=VA e2;cases e4;let⟨rfl,hk⟩:=tB e1;subst z;cases r with
  |cons r1 r2=>
   cases(show x=.ty n from h);cases(show _=Value.type n from r1);show(match PySem.W.kitOne K (.type T) (.type n)with|some true=>!true|some false=>PySem.W.kitAny K (.type T) _|none=>none)=_;rw[Az K hT hk,qf hT e3 l r2,List.any_cons];cases isI T n<;>rfl
def call_isi:eQ X (.builtin "isinstance") (λxs H Q=>∃d c T j,IsL X.K H [d,c] xs/\cq d=!T/\nM c=!j/\Q (.bl (j.any (isI T))) H):=by
 intro pins s σ H xs us Q I r h;let⟨d,c,T,j,l,g,e,q⟩:=h;let⟨x,y,rfl,U,J⟩:=QE l;let⟨u,w',rfl,C,t⟩:=zX r;unfold nM at e;split at e
 .rename_i n hn;cases e;let⟨rfl,hk⟩:=tB hn;cases(J);cases(t);refine Ej I U C g (Az X.K g hk) λtk=>⟨.bl _,H,I.tok tk,rfl,?_⟩;have p:([n].any (isI T))=isI T n:=by simp
  rw[p]at q;exact q
 .let⟨cs,p,e2⟩:=VA e;let⟨tp,ys,rfl,hq,hl⟩:=El p J;cases(t);let⟨its,rv,⟨o,h1,h2,n,h3⟩,_⟩:=I.tuple hq;let⟨oc,od,oda,osl⟩:=o;cases(h2);cases(h3);exact Ek I U C g h1 (qf g e2 hl rv) λtk=>⟨.bl _,H,I.tok tk,rfl,q⟩
def rn_isi:Eh X.K (λxs H Q=>∃d c T g,IsL X.K H [d,c] xs/\cq d=!T/\nM c=!g/\Q (.bl (g.any (isI T))) H) c8:=λO H xs ds d Q hd l e k=>by
 let⟨d0,c,rfl,e⟩:=tu e;let⟨T,p,e2⟩:=VA e;let⟨g,o,j⟩:=VA e2;cases j;exact⟨d0,c,T,g,l.full,p,o,k _ H (Same.refl _) rfl⟩
end
def PE.ex{g:Type}{t:g->TE}(h:∀z,PE X e (t z)):PE X e (λσ H Q=>∃z,t z σ H Q):=λpins s σ H Q I ⟨z,q⟩=>h z pins s σ H Q I q
def PTs.ex{g:Type}{t:g->TT}(h:∀z,PTs X e (t z)):PTs X e (λσ H Q=>∃z,t z σ H Q):=λpins s σ H Q I ⟨z,q⟩=>h z pins s σ H Q I q
def PG.ex{g:Type}{t:g->TG}(h:∀z,PG X e (t z)):PG X e (λv σ H Q=>∃z,t z v σ H Q):=λpins s σ H v u Q I r ⟨z,q⟩=>h z pins s σ H v u Q I r q
def PSs.ex{g:Type}{t:g->TS}(h:∀z,PSs X e (t z)):PSs X e (λD σ H=>∃z,t z D σ H):=λpins s σ H D I ⟨z,q⟩=>h z pins s σ H D I q
def  nN(K:Frag)(Hm:Hp)(J:It)(ds:U7):Prop:=∀(i:Nat)(H:Hp)(O:U5),Same Hm (msk O H)->(∀b,O b=true->H b≠none)->
 (∀d,ds[i]?=!d->J.go i H/\∀x H3,J.yld i H x H3->Same H H3/\Is K (msk O H3) d x)/\(ds.length<=i->J.stop i H)
def  tJ(K:Frag)(O:U5)(Y:Vv)(o:UY):TI:=λσ H R=>VE K O σ H Y/\∃ds,o=!ds/\∀J H',Same H H'->nN K (msk O H') J ds->R J H'
def  PJ(X:Cx)(tg iter:Expr)(f:UQ):Prop:=∀O Y,PI X tg iter (tJ X.K O Y (f Y))
section
variable{X:Cx}{tg l e:Expr}{pos:Pos}
def  QG(K:Frag)(tl:TE):TI:=λσ H R=>tl σ H λx H1=>∃a,x=.ref a/\(((∃xs,SqL K H1 a xs)/\R (Pd K a) H1)\/((∃xs,SqT K H1 a xs)/\R (Pf K a) H1))
def AB(U:PE X l tl):PI X tg l (QG X.K tl):=by
 intro pins s σ H R I h;refine bq (U pins s σ H _ I h) λv g ⟨x,H1,j,C,J⟩=>?_;let⟨a,e,q⟩:=J;subst e;cases C;have fin:∀b∈[g.heap.objs.size],jQ X pins H1 b:=λb hb=>by
  have e:b=g.heap.objs.size:=by simpa using hb
  subst e;exact j.fpOk (Vy _) (j.hok.fresh (Vy _))
 rcases q with⟨⟨xs,t⟩,q⟩|⟨⟨xs,t⟩,q⟩
 .let⟨r,rv,p,T⟩:=j.list t;refine wpAny_pyIter_list p.isList ?_;exact⟨g.heap.objs.size,[g.heap.objs.size],_,_,H1,rfl,j.kept λb o e=>Vc _ e,yu a _,⟨_,Vf _ rfl,rfl,rfl⟩,fin,q⟩
 .let⟨r,rv,p,T⟩:=j.tuple t;refine wpAny_pyIter_tuple (p) ?_;exact⟨g.heap.objs.size,[g.heap.objs.size],_,_,H1,rfl,j.kept λb o e=>Vc _ e,uV a _,⟨_,Vf _ rfl,rfl,rfl⟩,fin,q⟩
def yI{K}(q:SqL K o a xs)(j:IsL K o ds xs):nN K o (Pd K a) ds:=λi H O s hd=>by
 have g:=(s.trans msk_le).seq q;refine⟨λd hi=>?_,λhi=>⟨xs,g,by rw[<-j.len];exact hi⟩⟩;let⟨x,l,p⟩:=j.get hi;refine⟨⟨xs,x,g,l⟩,λy t ⟨e,r⟩=>?_⟩;subst e;have:=r xs g;rw[l]at this;cases this;exact⟨Same.refl _,Is.mono s d x p⟩
def AC{K}(q:SqT K o a xs)(j:IsL K o ds xs):nN K o (Pf K a) ds:=λi H O s hd=>by
 have g:=(s.trans msk_le).seqT q;refine⟨λd hi=>?_,λhi=>⟨xs,g,by rw[<-j.len];exact hi⟩⟩;let⟨x,l,p⟩:=j.get hi;refine⟨⟨xs,x,g,l⟩,λy t ⟨e,r⟩=>?_⟩;subst e;have:=r xs g;rw[l]at this;cases this;exact⟨Same.refl _,Is.mono s d x p⟩
def IJ(h:PP X l f):PJ X tg l (λY=>(f Y).bind seqD):=λO Y=>(AB (h O Y)).imp λσ H R ⟨E,ds,q,k⟩=>by
 let⟨d,p,q⟩:=VA q;refine⟨E,d,p,λv H1 g o=>?_⟩;let⟨a,xs,rfl,t,j⟩:=gI q o;rcases t with t|t
 .exact⟨a,rfl,.inl ⟨⟨xs,msk_le.seq t⟩,k _ H1 g (yI t j)⟩⟩
 .exact⟨a,rfl,.inr ⟨⟨xs,msk_le.seqT t⟩,k _ H1 g (AC t j)⟩⟩
def  mB(lo:Int)(n:Nat):U7:=(!19).map λ(i:Nat)=>D.int (lo+(i:Int))
def vk{K}{lo}:nN K o (Pg lo n) (mB lo n):=λi H O s hd=>by
 have j:(mB lo n).length=n:=by simp[mB]
 refine⟨λd hi=>?_,λhi=>by rw[j]at hi;exact hi⟩;have g:i<n:=by
  have:=(Vh.mp hi).1;rw[j]at this;exact this
 refine⟨g,λx p ⟨e,l⟩=>?_⟩;subst e l;have:d=.int (lo+(i:Int)):=by
  simp[mB,g]at hi;exact hi.symm
 subst this;exact⟨Same.refl _,rfl⟩
noncomputable def  nO:D->Va
 |.int i=>!i
 |_=>none
def intD_some(h:nO d=!i):d=.int i:=by
 cases d<;>first|(cases h;rfl)|cases h
def  Hg(j:Int):Prop:=-(2^62)<=j/\j<2^62
instance (j:Int):Decidable (Hg j):=Classical.propDecidable _
def  jU:U7->UY:=tq λd=>(nO d).bind λj=>if Hg j then !(mB 0 j.toNat)else none
def yJ(U:Gl X "range")(T:X.mg "range"=none)(ha:PX X [e] fa)(J:starEach [e] X.env=[(false,eval e X.env)]:=by rfl):PJ X tg (.Call (.Name "range" p) [e] [] pos) (λY=>(fa Y).bind jU):=
 λO Y=>(yw U T (ha O Y) J).imp λσ H R ⟨E,ds,q,k⟩=>by
 let⟨as,e1,q⟩:=VA q
 refine⟨E,as,e1,λvs H1 l I=>?_⟩
 let⟨c,rfl,t⟩:=bd q
 let⟨j,r,o⟩:=VA t
 let⟨h1,h2⟩:=aw o
 subst h2
 let⟨v,rfl,C⟩:=uQ I
 cases intD_some r
 have g:=h1
 exact⟨j,by rw[show v=.int j from C],g.1,g.2,k _ H1 l vk⟩
def  tG(K:Frag)(O:U5)(Y:Vv)(d:D)(ks:U2)(o:Option Vv):TG:=λv σ H Q=>VE K O σ H Y/\Is K (msk O H) d v/\∃Y',o=!Y'/\
 ∀σ',VE K O σ' H Y'->σ'.length=σ.length->(∀(j:Nat)(w:V),j ∉ ks->σ[j]?=!(!w)->σ'[j]?=!(!w))->Q σ' H
def  IK(X:Cx)(ks:U2)(tg:Expr)(g:D->Vv->Option Vv):Prop:=∀O Y d,PG X tg (tG X.K O Y d ks (g d Y))
def  Ud(K:Frag)(O:U5)(Y:Vv)(ds:U7)(ks:U2)(o:Option Vv):GX:=λvs σ H Q=>VE K O σ H Y/\IsL K (msk O H) ds vs/\∃Y',o=!Y'/\
 ∀σ',VE K O σ' H Y'->σ'.length=σ.length->(∀(j:Nat)(w:V),j ∉ ks->σ[j]?=!(!w)->σ'[j]?=!(!w))->Q σ' H
def  yK(X:Cx)(ks:U2)(ts:U8)(g:U7->Vv->Option Vv):Prop:=∀O Y ds,PGs X ts (Ud X.K O Y ds ks (g ds Y))
def  gNm(i:Nat):D->Vv->Option Vv:=λd Y=>!(Y.set i (!d))
def Em(C:X.N.Nodup)(hi:X.N[i]?=!x)(l:DB X.env.scope x)(p:i∈ks)(t:X.fn x=true\/X.env.scope.names.lookup x=some .local:=by first|exact .inl rfl|exact .inr rfl|assumption):IK X ks (.Name x pos) (gNm i):=
 λO Y d=>(qM C hi l t).imp λv σ H Q ⟨E,g,Y',e,k⟩=>by
 cases e
 refine k _ (E.set g) (by simp) λj w r o=>?_
 rw[List.getElem?_set_ne (λ(z:i=j)=>r (by rw[<-z];exact p))];exact o
def PGs.imp(h:PGs X ts t)(k:∀v σ H Q,t' v σ H Q->t v σ H Q):PGs X ts t':=λpins s σ H vs us Q I r q=>h pins s σ H vs us Q I r (k _ _ _ _ q)
def  bt:U7->Vv->Option Vv:=λds Y=>match ds with|[]=>!Y|_=>none
noncomputable def  au(g:D->Vv->Option Vv)(gs:U7->Vv->Option Vv):U7->Vv->Option Vv:=λds Y=>match ds with|d::r=>(g d Y).bind λY1=>gs r Y1|_=>none
def Eo:yK X ks [] bt:=λO Y ds=>pgs_nil.imp λj σ H Q ⟨E,g,Y',e,k⟩=>by
 cases ds with
 |nil=>cases e;exact⟨g,k σ E rfl λ_ _ _ h=>h⟩
 |cons _ _=>cases e
def PGs.ex{e}{g:Type}{t:g->GX}(h:∀z,PGs X e (t z)):PGs X e (λv σ H Q=>∃z,t z v σ H Q):=λpins s σ H v u Q I r ⟨z,q⟩=>h z pins s σ H v u Q I r q
def gsd_cons(h1:IK X ks e g)(h2:yK X ks p gs)(hs:(assignEach (e::p) X.env).map (·.2)=assign e X.env::(assignEach p X.env).map (·.2):=by rfl):yK X ks (e::p) (au g gs):=λO Y ds=>by
 cases ds with
 |nil=>exactλpins s σ H T us Q I r ⟨_,_,Y',e,_⟩=>by cases e
 |cons d r=>
  refine(sM (h1 O Y d) (PGs.ex λz:Vv=>h2 O z r) hs).imp λT σ H Q ⟨E,⟨x,J,z,ix,il⟩,Y',e,k⟩=>?_;let⟨l,e1,e2⟩:=VA (e);refine⟨x,J,z,E,ix,l,e1,λC E1 l1 k1=>⟨l,E1,il,Y',e2,λo E2 U k2=>?_⟩⟩;exact k o E2 (U.trans l1) λj w t hw=>k2 j w t (k1 j w t hw)
noncomputable def  l7(n:Nat)(gs:U7->Vv->Option Vv):D->Vv->Option Vv:=λd Y=>match d with|.tup ds=>if ds.length=n then gs ds Y else none|_=>none
def IL{k n}(I:X.calm=true)(h:yK X ks g p)(C:(assignEach g X.env).length=n:=by rfl)(j:(assignEach g X.env).findIdx? (·.1)=none:=by rfl):IK X ks (.Tuple g k pos) (l7 n p):=λO Y d=>by
 refine(zN I (PGs.ex λz:U7=>h O Y z) C j).imp λv σ H Q ⟨E,r,Y',e,k⟩=>?_;cases d with
 |tup ds=>
  let⟨a,xs,rfl,t,o⟩:=r;have l:(if ds.length=n then p ds Y else none)=!Y':=e;split at l
  .exact⟨a,xs,rfl,msk_le.seqT t,by rw[<-o.len];assumption,ds,E,o,Y',l,k⟩
  .cases l
 |_=>cases e
end
noncomputable def  jG(step:D->Option (U9)):U7->UY
 |[]=>![]
 |d::ds=>(step d).bind λo=>(jG step ds).bind λr=>!(match o with|some y=>y::r|none=>r)
noncomputable def  qg(g:D->Vv->Option Vv)(ft:UT)(fe:UR)(Y:Vv)(d:D):Option (U9):=(g d Y).bind λY1=>(ft Y1).bind λc=>if c=true then(fe Y1).bind λy=>!(!y)else !none
def  af(ks:U2)(fi:UQ)(g:D->Vv->Option Vv)(ft:UT)(fe:UR):UQ:=λY=>(fi Y).bind λds=>bJ (jG (qg g ft fe (gj ks Y)) ds)
def  IM(X:Cx)(ifs:U8)(f:UT):Prop:=∀O Y,PTs X ifs (Pj X.K O Y (f Y))
def PTs.imp(h:PTs X ifs t)(k:∀σ H Q,g σ H Q->t σ H Q):PTs X ifs g:=λpins s σ H Q I q=>h pins s σ H Q I (k _ _ _ q)
def Ep:IM X [] (λ_=>!true):=λO Y=>pts_nil.imp λσ H Q ⟨E,b,e,k⟩=>by cases e;exact k H (Same.refl _)
def Er(h:PQ X c f):IM X [c] f:=λO Y=>D6 (h O Y)
abbrev xG(K:Frag)(ks:U2)(g:D->Vv->Option Vv):TG:=λv σ H Q=>∃z:(U5)×Vv×D,tG K z.1 z.2.1 z.2.2 ks (g z.2.2 z.2.1) v σ H Q
abbrev xT(K:Frag)(f:UT):TT:=λσ H Q=>∃z:(U5)×Vv,Pj K z.1 z.2 (f z.2) σ H Q
abbrev xE(K:Frag)(f:UR):TE:=λσ H Q=>∃z:(U5)×Vv,tP K z.1 z.2 (f z.2) σ H Q
def AD{K}(h:Mn K O Y (af ks fi g ft fe Y) σ H Q):
  s0 (tJ K O Y (fi Y)) ks (xG K ks g) (xT K ft) (xE K fe) σ H Q:=by
 let⟨E,U,e,k⟩:=h
 let⟨ds,e1,e⟩:=VA e
 let⟨e2,hz⟩:=da e
 refine⟨E,ds,e1,λJ H1 s1 it=>⟨λi m ys H2=>i<=ds.length/\m=ds.length-i/\Same H1 H2/\∃rs rest,IsL K (msk O H2) rs ys/\jG _ (ds.drop i)=!rest/\U=rs++rest,
  ⟨ds.length,Nat.zero_le _,by simp,Same.refl _,[],U,rfl,by simpa using e2,rfl⟩,?_⟩⟩
 rintro i m ys H2 ⟨hi,rfl,s2,rs,rest,il,t,et⟩
 have E2:=E.grow (s1.trans s2)
 have hit:=it i H2 O s2.msk E2.dom
 have C:ys.length<sizeLine:=by
  rw[<-il.len];have:rs.length<=U.length:=by rw[et,length_append];omega
  omega
 by_cases r:i<ds.length
 .refine .inr ?_;have hd:=getElem?_eq_getElem r;let⟨go,yl⟩:=hit.1 _ hd;refine⟨go,C,λx H3 hy=>?_⟩;let⟨s3,ix⟩:=yl x H3 hy;rw[List.drop_eq_getElem_cons r]at t;let⟨o,I,t⟩:=VA (t);let⟨l,er',t⟩:=VA t;let⟨T,g1,I⟩:=VA I;let⟨c,c1,I⟩:=VA I;refine⟨⟨O,gj ks Y,ds[i]⟩,(E2.grow s3).wiped ks,ix,T,g1,λσ4 E4 l4 k4=>⟨⟨l4,λj w hw=>?_⟩,⟨O,T⟩,E4,c,c1,λH5 s5=>?_⟩⟩
  .exact k4 j w (wipe_iff.mp hw).2 hw
  .have hm:ds.length-(i+1)<ds.length-i:=by omega
   cases c with
   |true=>
    refine Iu ?_;let⟨y,y1,I⟩:=VA I;cases I;refine⟨⟨O,T⟩,E4.grow s5,y,y1,λv H6 s6 iv=>⟨_,hm,r,rfl,s2.trans (s3.trans (s5.trans s6)),rs++[y],l,?_,er',?_⟩⟩
    .exact(IsL.mono (s3.trans (s5.trans s6)).msk _ _ il).app ⟨v,[],rfl,iv,rfl⟩
    .rw[et,<-Option.some.inj t,List.append_assoc];rfl
   |false=>
    refine Ir ?_;cases I;refine⟨_,hm,r,rfl,s2.trans (s3.trans s5),rs,l,IsL.mono (s3.trans s5).msk _ _ il,er',?_⟩;rw[et,<-Option.some.inj t]
 .have hie:i=ds.length:=by omega
  subst hie;refine .inl ⟨hit.2 (Vy _),Vu C,λp hp=>?_⟩;rw[List.drop_of_length_le (le_refl _)]at t;cases t;rw[List.append_nil]at et;subst et;exact k p ys H2 (s1.trans s2) hp il
mutual
noncomputable def  qh:D->D->Bool
 |.non,.non=>true
 |.bl a,.bl b=>a==b
 |.bl a,.int b=>(if a then 1 else 0)==b
 |.int a,.bl b=>a==(if b then 1 else 0)
 |.int a,.int b=>a==b
 |.str a,.str b=>a==b
 |.tup a,.tup b=>tD a b
 |.lst a,.lst b=>tD a b
 |_,_=>false
noncomputable def  tD:U7->U7->Bool
 |[],[]=>true
 |a::as,b::bs=>qh a b&&tD as bs
 |_,_=>false
end
mutual
noncomputable def  pv:D->Nat
 |.tup ds=>dN ds+1
 |.lst ds=>dN ds+1
 |_=>0
noncomputable def  dN:U7->Nat
 |[]=>0
 |d::ds=>max (pv d) (dN ds)
end
mutual
noncomputable def  lw:D->Bool
 |.non=>true
 |.bl _=>true
 |.int _=>true
 |.str _=>true
 |.ty _=>false
 |.adr _=>false
 |.tup ds=>qi ds
 |.lst ds=>qi ds
 |.obj _ _ _=>false
 |.dct _ _=>false
noncomputable def  qi:U7->Bool
 |[]=>true
 |d::ds=>lw d&&qi ds
end
mutual
theorem tE:∀d:D,lw d=true->qh d d=true
 |.non,_=>rfl
 |.bl a,_=>by show(a==a)=true;simp
 |.int a,_=>by show(a==a)=true;simp
 |.str a,_=>by show(a==a)=true;simp
 |.ty _,h=>by cases h
 |.adr _,h=>by cases h
 |.tup ds,h=>iI ds h
 |.lst ds,h=>iI ds h
 |.obj _ _ _,h=>by cases h
 |.dct _ _,h=>by cases h
theorem iI:∀ds:U7,qi ds=true->tD ds ds=true
 |[],_=>rfl
 |d::ds,h=>by
  have h':(lw d&&qi ds)=true:=h;rw[and_eq_true]at h';show(qh d d&&tD ds ds)=true;rw[tE d h'.1,iI ds h'.2];rfl
end
section
variable{X:Cx}{pins:UW}{σ:St}{H:Hp}{s:Shared}
def Inv.notBoth(I:Inv X pins σ H s)(h:SqT X.K H a xs)(h':SqL X.K H a ys):False:=by
 let⟨_,_,⟨o,e,c,_⟩,_⟩:=I.tuple h;let⟨_,_,⟨o',n,g,j,_⟩,_⟩:=I.list h';grind
mutual
theorem Is.inj(I:Inv X pins σ H s):∀(d e:D)(v:V),lw d=true->lw e=true->Is X.K H d v->Is X.K H e v->d=e
 |d,e,v,hd,he,h,h'=>by
  cases d with
  |non=>cases(show v=_ from h);cases e<;>first|exact(Vg he).elim|rfl|(exact absurd (show V.non=_ from h') (by intro z;cases z))|(let⟨_,_,z,_⟩:=h';cases z)|cases he
  |bl b=>cases(show v=_ from h);cases e<;>first|exact(Vg he).elim|(cases(show V.bl b=_ from h');rfl)|(exact absurd (show V.bl b=_ from h') (by intro z;cases z))|(let⟨_,_,z,_⟩:=h';cases z)|cases he
  |int b=>cases(show v=_ from h);cases e<;>first|exact(Vg he).elim|(cases(show V.int b=_ from h');rfl)|(exact absurd (show V.int b=_ from h') (by intro z;cases z))|(let⟨_,_,z,_⟩:=h';cases z)|cases he
  |str b=>cases(show v=_ from h);cases e<;>first|exact(Vg he).elim|(cases(show V.str b=_ from h');rfl)|(exact absurd (show V.str b=_ from h') (by intro z;cases z))|(let⟨_,_,z,_⟩:=h';cases z)|cases he
  |ty _=>cases hd
  |adr _=>cases hd
  |obj _ _ _=>cases hd
  |dct _ _=>cases hd
  |tup ds=>
   let⟨a,xs,rfl,q,l⟩:=h;cases e with
   |tup es=>
    let⟨a',ys,z,q',l'⟩:=h';cases z;cases I.tuple_inj q q';rw[IsL.inj I ds es xs hd he l l']
   |lst es=>
    let⟨a',ys,z,q',l'⟩:=h';cases z;exact(I.notBoth q q').elim
   |non=>exact absurd (show V.ref a=_ from h') (by intro z;cases z)
   |bl _=>exact absurd (show V.ref a=_ from h') (by intro z;cases z)
   |int _=>exact absurd (show V.ref a=_ from h') (by intro z;cases z)
   |str _=>exact absurd (show V.ref a=_ from h') (by intro z;cases z)
   |ty _=>cases he
   |adr _=>cases he
   |obj _ _ _=>cases he
   |dct _ _=>cases he
  |lst ds=>
   let⟨a,xs,rfl,q,l⟩:=h;cases e with
   |lst es=>
    let⟨a',ys,z,q',l'⟩:=h';cases z;cases I.list_inj q q';rw[IsL.inj I ds es xs hd he l l']
   |tup es=>
    let⟨a',ys,z,q',l'⟩:=h';cases z;exact(I.notBoth q' q).elim
   |non=>exact absurd (show V.ref a=_ from h') (by intro z;cases z)
   |bl _=>exact absurd (show V.ref a=_ from h') (by intro z;cases z)
   |int _=>exact absurd (show V.ref a=_ from h') (by intro z;cases z)
   |str _=>exact absurd (show V.ref a=_ from h') (by intro z;cases z)
   |ty _=>cases he
   |adr _=>cases he
   |obj _ _ _=>cases he
   |dct _ _=>cases he
theorem IsL.inj(I:Inv X pins σ H s):∀(ds es:U7)(vs:List V),qi ds=true->qi es=true->IsL X.K H ds vs->IsL X.K H es vs->ds=es
 |[],[],_,_,_,_,_=>rfl
 |[],e::es,vs,_,_,h,⟨x,r,z,_⟩=>by cases(show vs=[]from h);cases z
 |d::ds,[],vs,_,_,⟨x,r,z,_⟩,h=>by cases(show vs=[]from h);cases z
 |d::ds,e::es,vs,hd,he,⟨x,r,z,h1,h2⟩,⟨x',r',z',h1',h2'⟩=>by
  cases z;cases z';have hd':(lw d&&qi ds)=true:=hd;have he':(lw e&&qi es)=true:=he;rw[and_eq_true]at hd' he';rw[Is.inj I d e x hd'.1 he'.1 h1 h1',IsL.inj I ds es r hd'.2 he'.2 h2 h2']
end
def bE:∀(ds es:U7),(((List.range (min ds.length es.length)).all λj=>qh (ds.getD j .non) (es.getD j .non))&&ds.length==es.length)=tD ds es
 |[],[]=>rfl
 |[],e::es=>by simp[tD]
 |d::ds,[]=>by simp[tD]
 |d::ds,e::es=>by
  have ih:=bE ds es;show(((List.range (min (ds.length+1) (es.length+1))).all _)&&_)=(qh d e&&tD ds es);rw[<-ih,show min (ds.length+1) (es.length+1)=min ds.length es.length+1 by omega,List.range_succ_eq_map,List.all_cons,List.all_map];have e1:((d::ds).length==(e::es).length)=(ds.length==es.length):=by simp
  rw[e1,Bool.and_assoc];rfl
end
section
variable{X:Cx}{pins:UW}{σ:St}{H:Hp}{s:Shared}
def lx(A:Around):A.in1.units=A.units+1:=rfl
def mU:∀{ds:U7}{i:Nat}{d:D},ds[i]?=!d->pv d<=dN ds
 |[],_,_,h=>by simp at h
 |c::ds,0,d,h=>by
  simp at h;subst h;show pv c<=max (pv c) (dN ds);omega
 |c::ds,i+1,d,h=>by
  have:=mU (ds:=ds) (i:=i) (by simpa using h);show pv d<=max (pv c) (dN ds);omega
def jV:∀{ds:U7}{i:Nat}{d:D},qi ds=true->ds[i]?=!d->lw d=true
 |[],_,_,_,h=>by simp at h
 |c::ds,0,d,ho,h=>by
  simp at h;subst h;have ho':(lw c&&qi ds)=true:=ho;rw[and_eq_true]at ho';exact ho'.1
 |c::ds,i+1,d,ho,h=>by
  have ho':(lw c&&qi ds)=true:=ho;rw[and_eq_true]at ho';exact jV (ds:=ds) (i:=i) ho'.2 (by simpa using h)
def getD_some{ds:U7}(h:ds[i]?=!d):ds.getD i .non=d:=by rw[List.getD_eq_getElem?_getD,h];rfl
def gp(go:∀(i:Nat)(d e:D)(x y:V)(u w:Value),ds[i]?=!d->es[i]?=!e->Is X.K H d x->Is X.K H e y->RelV x u->RelV y w->SeqAt.EqAt A s u w (qh d e))(il:IsL X.K H ds xs)(jl:IsL X.K H es ys)(r:Vals xs us)(q:Vals ys ws)(j:Nat)(h1:j<us.toArray.size)(h2:j<ws.toArray.size):SeqAt.EqAt A s us.toArray[j] ws.toArray[j] (qh (ds.getD j .non) (es.getD j .non)):=by
 have hx:us[j]?=some us.toArray[j]:=by simp at h1⊢
 have hy:ws[j]?=some ws.toArray[j]:=by simp at h2⊢
 let⟨x,e1,r1⟩:=paired_get' r hx;let⟨y,e2,r2⟩:=paired_get' q hy;let⟨d,e3,i3⟩:=il.get' e1;let⟨e,e4,i4⟩:=jl.get' e2;grind
def ly(h:Is X.K H d x)(f:bL d=true):iD x=true/\x=nL d:=let⟨a,b⟩:=iY f h;⟨b,a⟩
def Es(f:bL d=true)(g:bL e=true):D3 (nL d) (nL e)=qh d e:=by
 cases d<;>cases e<;>first|exact(Vg f).elim|exact(Vg g).elim|rfl
def lz(ds es:U7)(h:ds.length=es.length):((List.range ds.length).all λj=>qh (ds.getD j .non) (es.getD j .non))=tD ds es:=by
 have:=bE ds es;rw[<-this,h];simp
def qY(h:ds.length≠es.length):tD ds es=false:=by
 rw[<-bE];grind
def AE(I:Inv X pins σ H s):∀(n:Nat)(A:Around)(d e:D)(x y:V)(u w:Value),pv d<=n->A.units+n<cLine->lw d=true->lw e=true->Is X.K H d x->Is X.K H e y->RelV x u->RelV y w->SeqAt.EqAt A s u w (qh d e):=by
 intro n;induction n with
 |zero=>
  intro A d e x y u w hn hu T o hx J rx r;have fd:bL d=true:=by
   cases d with
   |tup ds=>exact absurd (show dN ds+1<=0 from hn) (!1)
   |lst ds=>exact absurd (show dN ds+1<=0 from hn) (!1)
   |ty _=>cases T
   |adr _=>cases T
   |obj _ _ _=>cases T
   |dct _ _=>cases T
   |_=>rfl
  have g:A.units<cLine:=by omega
  cases fe:bL e with
  |true=>
   let⟨f1,e1⟩:=ly hx fd;let⟨f2,e2⟩:=ly J fe;rw[<-Es fd fe,<-e1,<-e2];exact Aj rx r f1 f2
  |false=>
   cases e with
   |tup es=>
    let⟨b,ys,rfl,q,l⟩:=J;cases r;let⟨its,rv,p,_⟩:=I.tuple q;cases d with
    |non=>cases(hx);cases rx;exact SeqAt.EqAt.none_tuple p g
    |bl c=>cases(hx);cases rx;exact SeqAt.EqAt.bool_tuple c p g
    |int c=>cases(hx);let⟨t,rfl⟩:=rx;exact SeqAt.EqAt.int_tuple c t p g
    |str c=>cases(hx);let⟨t,rfl⟩:=rx;exact SeqAt.EqAt.str_tuple c t p g
    |_=>cases fd
   |lst es=>
    let⟨b,ys,rfl,q,l⟩:=J;cases r;let⟨its,rv,p,_⟩:=I.list q;cases d with
    |non=>cases(hx);cases rx;exact SeqAt.EqAt.none_list p.isList g
    |bl c=>cases(hx);cases rx;exact SeqAt.EqAt.bool_list c p.isList g
    |int c=>cases(hx);let⟨t,rfl⟩:=rx;exact SeqAt.EqAt.int_list c t p.isList g
    |str c=>cases(hx);let⟨t,rfl⟩:=rx;exact SeqAt.EqAt.str_list c t p.isList g
    |_=>cases fd
   |ty _=>cases o
   |adr _=>cases o
   |obj _ _ _=>cases o
   |dct _ _=>cases o
   |_=>cases fe
 |succ n ih=>
  intro A d e x y u w hn hu T o hx J rx r;have g:A.units<cLine:=by omega
  cases fd:bL d with
  |true=>
   have h0:pv d<=n:=by
    cases d<;>first|exact Nat.zero_le _|cases fd
   exact ih A d e x y u w h0 (!1) T o hx J rx r
  |false=>
   cases d with
   |tup ds=>
    have hdn:=Nat.le_of_succ_le_succ (hn);let⟨a,xs,rfl,q,l⟩:=hx;cases rx;let⟨its,rv,p,_⟩:=I.tuple q;cases e with
    |tup es=>
     let⟨b,ys,rfl,q',l'⟩:=J;cases r;let⟨C,U,p',_⟩:=I.tuple q';by_cases hab:a=b
     .subst hab;cases I.tuple_inj q q';cases IsL.inj I ds es xs T o l l';rw[show qh (.tup ds) (.tup ds)=true from iI ds T];exact SeqAt.EqAt.same _
     .refine SeqAt.EqAt.of_refs hab ?_;have h:=SeqAt.RcAt.tuples p p' g λj h1 h2=>gp (λi d e x y u w e1 e2 i1 i2 r1 r2=>ih A.in1 d e x y u w (Vn (mU e1) hdn) (by rw[lx];omega) (jV T e1) (jV o e2) i1 i2 r1 r2) l l' rv U j h1 h2;have e1:its.toArray.size=ds.length:=by rw[size_toArray,<-rv.length,l.len]
      have e2:C.toArray.size=es.length:=by rw[size_toArray,<-U.length,l'.len]
      rw[e1,e2,bE]at h;exact h
    |lst es=>
     let⟨b,ys,rfl,q',l'⟩:=J;cases r;let⟨C,U,p',_⟩:=I.list q';exact SeqAt.EqAt.tuple_list p p'.isList g
    |non=>cases(J);cases r;exact SeqAt.EqAt.tuple_none p g
    |bl c=>cases(J);cases r;exact SeqAt.EqAt.tuple_bool c p g
    |int c=>cases(J);let⟨t,rfl⟩:=r;exact SeqAt.EqAt.tuple_int c t p g
    |str c=>cases(J);let⟨t,rfl⟩:=r;exact SeqAt.EqAt.tuple_str c t p g
    |ty _=>cases o
    |adr _=>cases o
    |obj _ _ _=>cases o
    |dct _ _=>cases o
   |lst ds=>
    have hdn:=Nat.le_of_succ_le_succ (hn);let⟨a,xs,rfl,q,l⟩:=hx;cases rx;let⟨its,rv,p,_⟩:=I.list q;cases e with
    |lst es=>
     let⟨b,ys,rfl,q',l'⟩:=J;cases r;let⟨C,U,p',_⟩:=I.list q';have e1:its.toArray.size=ds.length:=by rw[size_toArray,<-rv.length,l.len]
     have e2:C.toArray.size=es.length:=by rw[size_toArray,<-U.length,l'.len]
     by_cases hab:a=b
     .subst hab;cases I.list_inj q q';cases IsL.inj I ds es xs T o l l';rw[show qh (.lst ds) (.lst ds)=true from iI ds T];exact SeqAt.EqAt.same _
     .refine SeqAt.EqAt.of_refs hab ?_;by_cases hl:ds.length=es.length
      .have h:=SeqAt.RcAt.lists p.isList p'.isList (by rw[e1,e2,hl]) g λj h1 h2=>gp (λi d e x y u w e1 e2 i1 i2 r1 r2=>ih A.in1 d e x y u w (Vn (mU e1) hdn) (by rw[lx];omega) (jV T e1) (jV o e2) i1 i2 r1 r2) l l' rv U j h1 h2;rw[e1,lz ds es hl]at h;exact h
      .rw[show qh (.lst ds) (.lst es)=false from qY hl];exact SeqAt.RcAt.lists_lengths p.isList p'.isList (by rw[e1,e2];simpa using hl) g
    |tup es=>
     let⟨b,ys,rfl,q',l'⟩:=J;cases r;let⟨C,U,p',_⟩:=I.tuple q';exact SeqAt.EqAt.list_tuple p.isList p' g
    |non=>cases(J);cases r;exact SeqAt.EqAt.list_none p.isList g
    |bl c=>cases(J);cases r;exact SeqAt.EqAt.list_bool c p.isList g
    |int c=>cases(J);let⟨t,rfl⟩:=r;exact SeqAt.EqAt.list_int c t p.isList g
    |str c=>cases(J);let⟨t,rfl⟩:=r;exact SeqAt.EqAt.list_str c t p.isList g
    |ty _=>cases o
    |adr _=>cases o
    |obj _ _ _=>cases o
    |dct _ _=>cases o
   |ty _=>cases T
   |adr _=>cases T
   |obj _ _ _=>cases T
   |dct _ _=>cases T
   |_=>cases fd
noncomputable def  IN:D->D->Bool
 |.tup _,.tup _=>true
 |.lst _,.lst _=>true
 |.tup _,.str _=>true
 |_,_=>false
def  l8(d e:D):Option Bool:=if(bL d&&bL e&&zT (nL d) (nL e))=true then !(decide (nL d=nL e))else if(IN d e&&lw d&&lw e&&decide (pv d<=50))=true then !(qh d e)else none
def  IP(K:Frag)(neg:Bool):R2:=λx y H Q=>∃d e b,Is K H d x/\Is K H e y/\l8 d e=!b/\Q (.bl (if neg then not b else b)) H
def cmpEq_cases(h:l8 d e=!b):(bL d=true/\bL e=true/\zT (nL d) (nL e)=true/\b=decide (nL d=nL e))\/(IN d e=true/\lw d=true/\lw e=true/\pv d<=50/\b=qh d e):=by
 unfold l8 at h;grind
def iZ(I:Inv X pins σ H s)(C:X.A.units+60<cLine)(p:qi ds=true)(o:qi es=true)(hd:dN ds<=50):∀(i:Nat)(d e:D)(x y:V)(u w:Value),ds[i]?=!d->es[i]?=!e->Is X.K H d x->Is X.K H e y->RelV x u->RelV y w->SeqAt.EqAt X.A.in1 s u w (qh d e):=
 λi d e x y u w g e2 t r l j=>AE I 50 X.A.in1 d e x y u w (Vn (mU g) hd) (by rw[lx];omega) (jV p g) (jV o e2) t r l j
def AF(hu:X.A.units+60<cLine):OpR X (compareOp .Eq) (IP X.K false):=by
 intro pins s σ H x y v u Q I rx ry h;let⟨d,e,b,hx,hy,hb,q⟩:=h;have t:X.A.units<cLine:=by omega
 rcases cmpEq_cases hb with⟨f1,f2,sc,rfl⟩|⟨sq,od,oe,hd,rfl⟩
 .let⟨_,J⟩:=ly hx f1;let⟨_,e2⟩:=ly hy f2;exact LZ pins s σ H x y v u Q I rx ry ⟨by rw[J,e2];exact sc,by rw[J,e2];exact q⟩
 .cases d with
  |tup ds=>
   cases e with
   |tup es=>
    let⟨a,xs,rfl,U,l⟩:=hx;let⟨c,ys,rfl,q2,l'⟩:=hy;cases rx;cases ry;let⟨r,rv,p,_⟩:=I.tuple U;let⟨o,g,p',_⟩:=I.tuple q2;have T:dN ds<=50:=by have:dN ds+1<=50:=hd;omega
    have J:r.toArray.size=ds.length:=by rw[size_toArray,<-rv.length,l.len]
    have e2:o.toArray.size=es.length:=by rw[size_toArray,<-g.length,l'.len]
    have C:=SeqAt.RcAt.tuples p p' t λj h1 h2=>gp (iZ I hu od oe T) l l' rv g j h1 h2;rw[J,e2,bE]at C;exact C X.prog X.w X.xe _ ⟨.bl _,H,I,rfl,q⟩
   |str b=>
    let⟨a,xs,rfl,U,l⟩:=hx;cases(hy);cases rx;let⟨tk,rfl⟩:=ry;let⟨r,rv,p,_⟩:=I.tuple U;have C:=SeqAt.RcAt.tuple_str b tk p t;exact C X.prog X.w X.xe _ ⟨.bl _,H,I,rfl,q⟩
   |_=>cases sq
  |lst ds=>
   cases e with
   |lst es=>
    let⟨a,xs,rfl,U,l⟩:=hx;let⟨c,ys,rfl,q2,l'⟩:=hy;cases rx;cases ry;let⟨r,rv,p,_⟩:=I.list U;let⟨o,g,p',_⟩:=I.list q2;have T:dN ds<=50:=by have:dN ds+1<=50:=hd;omega
    have J:r.toArray.size=ds.length:=by rw[size_toArray,<-rv.length,l.len]
    have e2:o.toArray.size=es.length:=by rw[size_toArray,<-g.length,l'.len]
    by_cases hl:ds.length=es.length
    .have C:=SeqAt.RcAt.lists p.isList p'.isList (by rw[J,e2,hl]) t λj h1 h2=>gp (iZ I hu od oe T) l l' rv g j h1 h2;rw[J,lz ds es hl]at C;exact C X.prog X.w X.xe _ ⟨.bl _,H,I,rfl,q⟩
    .have C:SeqAt.RcAt X.A s (.ref a) (.ref c) false:=SeqAt.RcAt.lists_lengths p.isList p'.isList (by rw[J,e2];simpa using hl) t;rw[show qh (.lst ds) (.lst es)=false from qY hl]at q;exact C X.prog X.w X.xe _ ⟨.bl _,H,I,rfl,q⟩
   |_=>cases sq
  |_=>cases sq
def AG(hu:X.A.units+60<cLine):OpR X (compareOp .NotEq) (IP X.K true):=by
 intro pins s σ H x y v u Q I rx ry h;let⟨d,e,b,hx,hy,hb,q⟩:=h;have t:X.A.units<cLine:=by omega
 rcases cmpEq_cases hb with⟨f1,f2,sc,rfl⟩|⟨sq,od,oe,hd,rfl⟩
 .let⟨_,J⟩:=ly hx f1;let⟨_,e2⟩:=ly hy f2;exact L0 pins s σ H x y v u Q I rx ry ⟨by rw[J,e2];exact sc,by rw[J,e2];exact q⟩
 .cases d with
  |tup ds=>
   cases e with
   |tup es=>
    let⟨a,xs,rfl,U,l⟩:=hx;let⟨c,ys,rfl,q2,l'⟩:=hy;cases rx;cases ry;let⟨r,rv,p,_⟩:=I.tuple U;let⟨o,g,p',_⟩:=I.tuple q2;have T:dN ds<=50:=by have:dN ds+1<=50:=hd;omega
    have J:r.toArray.size=ds.length:=by rw[size_toArray,<-rv.length,l.len]
    have e2:o.toArray.size=es.length:=by rw[size_toArray,<-g.length,l'.len]
    have C:=SeqAt.RcNeAt.tuples p p' t λj h1 h2=>gp (iZ I hu od oe T) l l' rv g j h1 h2;rw[J,e2,bE]at C;exact C X.prog X.w X.xe _ ⟨.bl _,H,I,rfl,q⟩
   |str b=>
    let⟨a,xs,rfl,U,l⟩:=hx;cases(hy);cases rx;let⟨tk,rfl⟩:=ry;let⟨r,rv,p,_⟩:=I.tuple U;have C:=SeqAt.RcNeAt.tuple_str b tk p t;exact C X.prog X.w X.xe _ ⟨.bl _,H,I,rfl,q⟩
   |_=>cases sq
  |lst ds=>
   cases e with
   |lst es=>
    let⟨a,xs,rfl,U,l⟩:=hx;let⟨c,ys,rfl,q2,l'⟩:=hy;cases rx;cases ry;let⟨r,rv,p,_⟩:=I.list U;let⟨o,g,p',_⟩:=I.list q2;have T:dN ds<=50:=by have:dN ds+1<=50:=hd;omega
    have J:r.toArray.size=ds.length:=by rw[size_toArray,<-rv.length,l.len]
    have e2:o.toArray.size=es.length:=by rw[size_toArray,<-g.length,l'.len]
    by_cases hl:ds.length=es.length
    .have C:=SeqAt.RcNeAt.lists p.isList p'.isList (by rw[J,e2,hl]) t λj h1 h2=>gp (iZ I hu od oe T) l l' rv g j h1 h2;rw[J,lz ds es hl]at C;exact C X.prog X.w X.xe _ ⟨.bl _,H,I,rfl,q⟩
    .have C:SeqAt.RcNeAt X.A s (.ref a) (.ref c) true:=SeqAt.RcNeAt.lists_lengths p.isList p'.isList (by rw[J,e2];simpa using hl) t;rw[show qh (.lst ds) (.lst es)=false from qY hl]at q;exact C X.prog X.w X.xe _ ⟨.bl _,H,I,rfl,q⟩
   |_=>cases sq
  |_=>cases sq
end
def  aK(neg:Bool)(d e:D):U9:=(l8 d e).bind λb=>!(.bl (if neg then not b else b))
def wW{K}:jF K (IP K neg) (aK neg):=λO H x y dx o d Q hd j g e k=>by
 let⟨b,l,e2⟩:=VA e;cases e2;exact⟨dx,o,b,j.full,g.full,l,k _ H (Same.refl _) rfl⟩
section
variable{X:Cx}{pos:Pos}{a b e:Expr}
def iJ(r:Room k A):A.units+60<cLine:=by have:=r.un;omega
def ML(r:Room k X.A)(j:PP X a fa)(g:PP X b l):PP X (.Compare a [.Eq] [b] pos) (aa (aK false) fa l):=pp_cmp (AF (iJ r)) wW j g (dJ _)
def MM(r:Room k X.A)(j:PP X a fa)(g:PP X b l):PP X (.Compare a [.NotEq] [b] pos) (aa (aK true) fa l):=pp_cmp (AG (iJ r)) wW j g (dJ _)
def MN(r:Room k X.A)(j:PP X a fa)(g:PP X b l):PQ X (.Compare a [.Eq] [b] pos) (al (aa (aK false) fa l)):=pq_cmp (AF (iJ r)) wW j g (dJ _)
def MO(r:Room k X.A)(j:PP X a fa)(g:PP X b l):PQ X (.Compare a [.NotEq] [b] pos) (al (aa (aK true) fa l)):=pq_cmp (AG (iJ r)) wW j g (dJ _)
structure Cn(K:Frag)(mg:Str->U1)(x:Str)(d:D):Prop where
 ex:∃v u,mg x=!u/\RelV v u/\∀H,Is K H d v
def AH(c:Cn X.K X.mg x d)(g:Gl X x)(hd:(!6)=false:=by decide):PP X (.Name x pos) (λ_=>!d):=by
 let⟨v,u,h1,h2,j⟩:=c.ex;exact Ea g h1 h2 j hd
end
noncomputable def  tF(ns:U4):Int:=ns.foldl (·+·) 0
def qj(ns:U4):∀k,k<=ns.length->preSum (λi=>ns.getD i 0) k=tF (ns.take k)
 |0,_=>rfl
 |k+1,h=>by
  show preSum (λi=>ns.getD i 0) k+ns.getD k 0=_;rw[qj ns k (!1),List.take_add_one,getElem?_eq_getElem (!1),Option.toList_some];unfold tF;rw[List.foldl_append];simp[List.getD_eq_getElem?_getD,getElem?_eq_getElem (show k<ns.length by omega)]
def wX:∀{ns:U4}{us:U0},Vals (ns.map V.int) us->∀(i:Nat)(u:Value),us[i]?=!u->∃t,u=Value.int (ns.getD i 0) t
 |[],_,.nil,i,u,e=>by simp at e
 |n::ns,_,.cons r q,0,u,e=>by
  simp at e;subst e;let⟨t,e⟩:=r;exact⟨t,by rw[e];rfl⟩
 |n::ns,_,.cons r q,i+1,u,e=>by
  let⟨t,e'⟩:=wX q i u (by simpa using e);exact⟨t,by rw[e'];rfl⟩
def call_sumL{X:Cx}(hc:X.calm=true):eQ X (.builtin "sum") (λxs H Q=>∃(l:Addr)(ns:U4),xs=[.ref l]/\SqL X.K H l (ns.map V.int)/\Q (.int (tF ns)) H):=by
 intro pins s σ H xs us Q I r h;let⟨l,ns,rfl,hl,q⟩:=h;let⟨u,rfl,ru⟩:=fC r;cases ru;let⟨its,rv,pl,hz⟩:=I.list hl;have hL:=pl.isList;have hlt:l<s.heap.objs.size:=by let⟨_,e,_⟩:=hL;exact Ve e
 have hlen:its.length=ns.length:=by rw[<-rv.length,length_map]
 refine call_sum_walkAnyS (wpAny_pyIter_list hL ?_);refine⟨s.heap.objs.size,[s.heap.objs.size,l],[s.heap.objs.size],_,_,_,_,λi=>ns.getD i 0,rfl,(Walks.list (A:=X.A.in1) (I.ok.hd hc) _ l (Vo hlt) its.toArray).toS,
  ⟨⟨_,Vf _ rfl,rfl,rfl⟩,hL.push _⟩,λb hb=>?_,λi v hP=>?_,λs' t' hk=>?_⟩
 .rcases mem_cons.mp hb with rfl|hb
  .show s.heap.objs.size<(s.heap.push _).objs.size;rw[size_push'];exact Nat.lt_succ_self _
  .rw[mem_singleton.mp hb];show l<(s.heap.push _).objs.size;rw[size_push'];exact Nat.lt_succ_of_lt hlt
 .exact wX rv i v (by simpa using hP)
 .have e:preSum (λi=>ns.getD i 0) its.toArray.size=tF ns:=by
   rw[size_toArray,hlen,qj ns _ (le_refl _),List.take_length]
  rw[e];have es:s'={s with heap:=s'.heap,toks:=s'.toks}:=by
   have h1:=hk.gens;have h2:=hk.drawn;have h3:=hk.os;cases s';simp only at h1 h2 h3⊢;subst h1 h2 h3;rfl
  rw[es];exact⟨.int _,H,I.kept (t':=s'.toks) λb o ho=>hk.heap b o (λhm=>by rw[mem_singleton.mp hm]at ho;exact Vt _ (Ve ho)) (Vc _ ho),⟨_,rfl⟩,q⟩
def  yL:U7->Option (U4)
 |[]=>![]
 |d::ds=>(nO d).bind λi=>(yL ds).bind λr=>!(i::r)
def wY{K:Frag}{H:Hp}:∀{ds:U7}{ns:U4}{xs:List V},yL ds=!ns->IsL K H ds xs->xs=ns.map V.int
 |[],_,_,e,l=>by cases e;exact l
 |d::ds,_,_,e,⟨x,r,z,h,l⟩=>by
  let⟨i,e1,e⟩:=VA e;let⟨ns,e2,e⟩:=VA e;cases e;subst z;cases intD_some e1;rw[wY e2 l,show x=.int i from h];rfl
def  vm:U7->U9:=tq λd=>(lu d).bind λds=>(yL ds).bind λns=>!(.int (tF ns))
def rn_sum{K:Frag}:Eh K (λxs H Q=>∃(l:Addr)(ns:U4),xs=[.ref l]/\SqL K H l (ns.map V.int)/\Q (.int (tF ns)) H) vm:=λO H xs ds d Q hd l e k=>by
 let⟨c,rfl,e⟩:=bd e;let⟨es,e1,e⟩:=VA e;let⟨ns,e2,e⟩:=VA e;cases e;let⟨v,rfl,h⟩:=uQ l;let⟨p,ys,rfl,q,il⟩:=cH e1 h;have:=wY e2 il;subst this;exact⟨p,ns,rfl,msk_le.seq q,k _ H (Same.refl _) rfl⟩
def b_sum:bootBuiltins "sum"=!(.builtin "sum"):=by decide+kernel
def  ItK:Bool->Heap->Addr->Addr->Nat->Prop
 |true,h,it,l,k=>h.IsListIter it l k
 |false,h,it,l,k=>h.IsTupleIter it l k
def  CoK:Bool->Heap->Addr->U6->Prop
 |true,h,l,its=>h.IsList l its
 |false,h,l,its=>h.IsTuple l its
def ItK.at(x:ItK b h g l k)(e:∀o,h.get? g=!o->h'.get? g=!o):ItK b h' g l k:=by
 cases b
 .exact Heap.IsTupleIter.at x e
 .exact Heap.IsListIter.at x e
def CoK.at(x:CoK b h l g)(e:∀o,h.get? l=!o->h'.get? l=!o):CoK b h' l g:=by
 cases b
 .let⟨o,a,r⟩:=x;exact⟨o,e o a,r⟩
 .exact Heap.IsList.at x e
def ItK.live(x:ItK b h j l k):∃o n g,h.get? j=!o/\o.cls=.type n/\o.data=.fields g/\(n="list_iterator"\/n="tuple_iterator"):=by
 cases b
 .let⟨o,e,c,d⟩:=x;exact⟨o,_,_,e,c,d,.inr rfl⟩
 .let⟨o,e,c,d⟩:=x;exact⟨o,_,_,e,c,d,.inl rfl⟩
def AI(hit:s.heap.IsTupleIter it t i)(ht:s.heap.IsTuple t its)(hx:its[i]?=!x)(hQ:∀h',h'.IsTupleIter it t (i+1)->Heap.SameBut it s.heap h'->Q x {s with heap:=h'}):wpAny (!7) A (Builtin.SmallTypes.nextOf (.ref it)) Q E s:=by
 let⟨o,ho,hc,hd⟩:=id hit;let⟨ol,hol,_,nl,hdl⟩:=ht;have go:wpAny (!7) A.in1 (Builtin.«tuple_iterator.__next__» ⟨[.ref it],[]⟩) (λfin s'=>∃v,fin=.done (.ret v)/\wpAny (!7) A (pure v) Q E s') E s:=by
  show wpAny _ _ (field (.ref it) 0>>=_) _ _ s;refine Vb (wpAny_field ho hd rfl ?_);refine Vb (wpAny_field ho hd rfl ?_);refine Vb (wpAny_seqItems hol hdl ?_);simp only[Int.toNat_natCast,hx];refine Vb (wpAny_setField ho hd (by simp) (Vd ⟨x,rfl,Vd (hQ _ ⟨_,Heap.get?_update_self _ ho (Obj.isFreed_of_fields (Obj.data_mapFields hd _)),(Obj.cls_mapFields ..).trans hc,?_⟩ (Heap.SameBut.update ..))⟩));rw[Obj.data_mapFields hd];simp[rawInt]
 exact Vb (wpAny_callSpecial?_slot hit.typeIs F.slot_tuple_iterator_next (wpAny_call_entry F.slot_tuple_iterator_next hit.typeIs F.entry_tuple_iterator_next go (F.args_tuple_iterator_next_1 _)))
def qZ(hh:A.handled=none)(hit:s.heap.IsTupleIter it t i)(ht:s.heap.IsTuple t its)(hx:its[i]?=none)(hE:∀h' e,Heap.ExtBut it s.heap h'->(∃o,h'.get? e=!o/\o.cls=.type "StopIteration")->E (.ref e) {s with heap:=h'}):wpAny (!7) A (Builtin.SmallTypes.nextOf (.ref it)) Q E s:=by
 let⟨o,ho,hc,hd⟩:=id hit;let⟨ol,hol,_,nl,hdl⟩:=ht;refine Vb (wpAny_callSpecial?_slot hit.typeIs F.slot_tuple_iterator_next (wpAny_call_entry F.slot_tuple_iterator_next hit.typeIs F.entry_tuple_iterator_next ?_ (F.args_tuple_iterator_next_1 _)));show wpAny _ _ (field (.ref it) 0>>=_) _ _ s;refine Vb (wpAny_field ho hd rfl ?_);refine Vb (wpAny_field ho hd rfl ?_);refine Vb (wpAny_seqItems hol hdl ?_);simp only[Int.toNat_natCast,hx];refine Vb (wpAny_rule (Vb (wpAny_setField ho hd (by simp) ?_)));refine Vb ?_;refine Vb (wpAny_newObj_type ?_ (by size_fits));refine Vb (Vq (by first|rfl|(simp only[firstArgMember];rfl)) ?_);refine wpAny_newObj_type ?_ (by size_fits);refine Vb (wpAny_handled ?_);first|rw[show A.in1.handled=none from hh]|rw[hh]
 refine Vb (Vd (wpAny_throw ?_));exact hE _ _ (((Heap.SameBut.update ..).extBut.push _).push _) ⟨_,Vf _ rfl,rfl⟩
def wZ(hit:ItK b s.heap it l i)(ht:CoK b s.heap l its)(hx:its[i]?=!x)(hQ:∀h',ItK b h' it l (i+1)->Heap.SameBut it s.heap h'->Q x {s with heap:=h'}):wpAny (!7) A (Builtin.SmallTypes.nextOf (.ref it)) Q E s:=by
 cases b
 .exact AI hit ht hx hQ
 .exact wpAny_nextOf_list_item hit ht hx hQ
def lA(hh:A.handled=none)(hit:ItK b s.heap it l i)(ht:CoK b s.heap l its)(hx:its[i]?=none)(hE:∀h' e,Heap.ExtBut it s.heap h'->(∃o,h'.get? e=!o/\o.cls=.type "StopIteration")->E (.ref e) {s with heap:=h'}):wpAny (!7) A (Builtin.SmallTypes.nextOf (.ref it)) Q E s:=by
 cases b
 .exact qZ hh hit ht hx hE
 .exact wpAny_nextOf_list_end hh hit ht hx hE
structure ZA(z TI TO i1 i2:Addr):Prop where
 TIz:TI≠z
 TOz:TO≠z
 i1z:i1≠z
 i2z:i2≠z
 TITO:TI≠TO
 TIi1:TI≠i1
 TIi2:TI≠i2
 TOi1:TO≠i1
 TOi2:TO≠i2
 i12:i1≠i2
structure ZL(z TO i1 i2 l:Addr):Prop where
 z:l≠z
 TO:l≠TO
 i1:l≠i1
 i2:l≠i2
structure ZSt(b c:Bool)(z TI TO i1 i2 l1 l2:Addr)(f0:Value)(k:Nat)(h:Heap):Prop where
 ap:ZA z TI TO i1 i2
 hz:IsZip h z TI TO f0
 hI:IsPair h TI (.ref i1) (.ref i2)
 hO:∃a d,IsPair h TO a d
 h1:ItK b h i1 l1 k
 h2:ItK c h i2 l2 k
def ItK.ext(x:ItK b h g l k)(e:Heap.SameBut c h h')(j:g≠c):ItK b h' g l k:=x.at λo q=>e.extBut _ _ j q
def CoK.ext(x:CoK b h l g)(e:Heap.SameBut c h h')(j:l≠c):CoK b h' l g:=x.at λo q=>e.extBut _ _ j q
def AJ{prog:Program}{w:World}{A:Around}{E:UZ}{s:Shared}{z TI TO t r l1 l2}(Z:ZSt b c z TI TO t r l1 l2 .none k s.heap)(L1:ZL z TO t r l1)(L2:ZL z TO t r l2)(c1:CoK b s.heap l1 xs)(c2:CoK c s.heap l2 ys)(hx:xs[k]?=!x)(hy:ys[k]?=!y)(hQ:∀h',ZSt b c z TI TO t r l1 l2 (rawInt s.heap.objs.size) (k+1) h'->IsPair h' s.heap.objs.size x y->h'.objs.size=s.heap.objs.size+1->
   (∀d o,d≠z->d≠TO->d≠t->d≠r->s.heap.get? d=!o->h'.get? d=!o)->Q (!(.ref s.heap.objs.size)) {s with heap:=h'}):wpAny (!7) A (pyNext (.ref z)) Q E s:=by
 let⟨D,C,hI,⟨a0,d0,hO⟩,h1,h2⟩:=Z
 have hT:s.TypeIs (.ref z) "zip":=⟨_,C,rfl⟩
 have go:wpAny (!7) A.in1 (Builtin.«zip.__next__» ⟨[.ref z],[]⟩) (λfin s'=>∃v,fin=.done (.ret v)/\Q (!v) s') (λe s'=>False) s:=by
  show wpAny _ _ (field (.ref z) 2>>=_) _ _ _;refine Vb (wpAny_field C rfl (x:=.bool false) rfl ?_);refine Vb (wpAny_field C rfl rfl (Vb (wpAny_seqItems hI rfl ?_)));refine Vb ?_;refine Vb (wpAny_field C rfl rfl (Vd ?_));refine Vb (wpAny_rule (Vb (wpAny_field C rfl rfl (Vb (wpAny_setField_rec C (by simp) λg1 z1 g=>?_)))));replace z1:IsZip g1 z TI TO .ellipsis:=z1;refine Vb ?_;simp only[List.zipIdx_cons,List.zipIdx_nil,List.forIn_cons,List.forIn_nil];refine Vb (Vb (wpAny_onRaise ?_));refine Vb (wZ (h1.ext g D.i1z) (c1.ext g L1.z) hx λg2 k2 p=>Vd ?_);have O2:=p.extBut _ _ D.TOi1 (g.extBut _ _ D.TOz hO);refine Vb (wpAny_seqItems O2 rfl (Vb (wpAny_updateSeq_pair O2 λg3 O3 l=>Vb (wpAny_letGo (Vd ?_)))));replace O3:IsPair g3 TO x d0:=O3;refine Vb (Vb (wpAny_onRaise ?_));refine Vb (wZ (((h2.ext g D.i2z).ext p D.i12.symm).ext l D.TOi2.symm) (((c2.ext g L2.z).ext p L2.i1).ext l L2.TO) hy λg4 k4 U=>Vd ?_);have O4:=U.extBut _ _ D.TOi2 O3;refine Vb (wpAny_seqItems O4 rfl (Vb (wpAny_updateSeq_pair O4 λg5 O5 s5=>Vb (wpAny_letGo (Vd (Vd ?_))))));replace O5:IsPair g5 TO x y:=O5;refine Vb (wpAny_seqItems O5 rfl (Vb (wpAny_newTuple ?_)));have sz:g5.objs.size=s.heap.objs.size:=by rw[s5.1,U.1,l.1,p.1,g.1]
  have z5:=s5.extBut _ _ D.TOz.symm (U.extBut _ _ D.i2z.symm (l.extBut _ _ D.TOz.symm (p.extBut _ _ D.i1z.symm z1)));have J:∀d o,d≠z->d≠TO->d≠t->d≠r->s.heap.get? d=!o->g5.get? d=!o:=λd o j n2 n3 n4 e=>
   s5.extBut _ _ n2 (U.extBut _ _ n4 (l.extBut _ _ n2 (p.extBut _ _ n3 (g.extBut _ _ j e))))
  have a5:=((k2.ext l D.TOi1.symm).ext U D.i12).ext s5 D.TOi1.symm;have b5:=k4.ext s5 D.TOi2.symm;have I:=Ve z5;refine Vb ?_;have z6:IsZip (g5.push {cls:=.type "tuple",data:=.seq #[x,y]}) z TI TO .ellipsis:=Vc _ z5;refine Vb (wpAny_setField_rec z6 (by simp) λg7 z7 s7=>?_);replace z7:IsZip g7 z TI TO (rawInt g5.objs.size):=z7;refine wpAny_setField_rec z7 (by simp) λg8 z8 s8=>?_;replace z8:IsZip g8 z TI TO _:=z8;have up:∀d o,d≠z->g5.get? d=!o->g8.get? d=!o:=λd o j e=>s8.extBut _ _ j (s7.extBut _ _ j (Vc _ e));have T8:=s8.extBut _ _ (Nat.ne_of_gt I) (s7.extBut _ _ (Nat.ne_of_gt I) (Vf _ rfl));have T:g8.objs.size=g5.objs.size+1:=by rw[s8.1,s7.1,Heap.size_push]
  rw[sz]at z8 T8 T;refine Vd ⟨_,rfl,?_⟩;rw[sz];exact hQ g8 ⟨D,z8,up _ _ D.TIz (J _ _ D.TIz D.TITO D.TIi1 D.TIi2 hI),⟨_,_,up _ _ D.TOz O5⟩,a5.at λo e=>up _ o D.i1z e,b5.at λo e=>up _ o D.i2z e⟩ T8 T λd o j n2 n3 n4 e=>up d o j (J d o j n2 n3 n4 e)
 refine Vb (wpAny_attempt (wpAny_callSpecial?_slot hT F.slot_zip_next (wpAny_call_entry F.slot_zip_next hT F.entry_zip_next (Vz go (λfin s' ⟨v,e,q⟩=>⟨v,e,Vd q⟩) λ_ _ q=>q.elim) (F.args_zip_next_1 _))))
section
variable{prog:Program}{w:World}{A:Around}{E:UZ}{s:Shared}
def AK{z TI TO T J l1 l2}(hh:A.handled=none)(Z:ZSt b c z TI TO T J l1 l2 .none k s.heap)(L1:ZL z TO T J l1)(L2:ZL z TO T J l2)(c1:CoK b s.heap l1 xs)(c2:CoK c s.heap l2 ys)(U:xs[k]?=none\/ys[k]?=none)(hQ:∀h',(∀d o,d≠z->d≠TO->d≠T->d≠J->s.heap.get? d=!o->h'.get? d=!o)->Q none {s with heap:=h'}):wpAny (!7) A (pyNext (.ref z)) Q E s:=by
 let⟨D,C,hI,⟨a0,d0,hO⟩,h1,h2⟩:=Z;have hT:s.TypeIs (.ref z) "zip":=⟨_,C,rfl⟩;let EE:UZ:=λe s'=>∃h' a,e=.ref a/\s'={s with heap:=h'}/\(∀d o,d≠z->d≠TO->d≠T->d≠J->s.heap.get? d=!o->h'.get? d=!o)/\∃o,h'.get? a=!o/\o.cls=.type "StopIteration";have go:wpAny (!7) A.in1 (Builtin.«zip.__next__» ⟨[.ref z],[]⟩) (λfin s'=>False) EE s:=by
  show wpAny _ _ (field (.ref z) 2>>=_) _ _ _;refine Vb (wpAny_field C rfl (x:=.bool false) rfl ?_);refine Vb (wpAny_field C rfl rfl (Vb (wpAny_seqItems hI rfl ?_)));refine Vb ?_;refine Vb (wpAny_field C rfl rfl (Vd ?_));refine Vb (wpAny_rule (Vb (wpAny_field C rfl rfl (Vb (wpAny_setField_rec C (by simp) λg1 z1 l=>?_)))));replace z1:IsZip g1 z TI TO .ellipsis:=z1;refine Vb ?_;simp only[List.zipIdx_cons,List.zipIdx_nil,List.forIn_cons,List.forIn_nil];refine Vb (Vb (wpAny_onRaise ?_));cases hx:xs[k]? with
  |none=>
   refine Vb (lA hh (h1.ext l D.i1z) (c1.ext l L1.z) hx λg2 e p he=>?_);let⟨oe,g,j⟩:=he;have z2:=p _ _ D.i1z.symm z1;have t:e≠z:=λq=>by subst q;rw[z2]at g;cases g;simp at j
   refine wpAny_setField_rec z2 (by simp) λg3 _ r=>?_;exact⟨g3,e,rfl,rfl,λd o I _ n3 _ q=>r.extBut _ _ I (p _ _ n3 (l.extBut _ _ I q)),oe,r.extBut _ _ t g,j⟩
  |some x=>
   have hy:ys[k]?=none:=by
    rcases U with h|h
    .rw[hx]at h;cases h
    .exact h
   refine Vb (wZ (h1.ext l D.i1z) (c1.ext l L1.z) hx λg2 k2 p=>Vd ?_);have O2:=p.extBut _ _ D.TOi1 (l.extBut _ _ D.TOz hO);refine Vb (wpAny_seqItems O2 rfl (Vb (wpAny_updateSeq_pair O2 λg3 O3 r=>Vb (wpAny_letGo (Vd ?_)))));refine Vb (Vb (wpAny_onRaise ?_));refine Vb (lA hh (((h2.ext l D.i2z).ext p D.i12.symm).ext r D.TOi2.symm) (((c2.ext l L2.z).ext p L2.i1).ext r L2.TO) hy λg4 e s4 he=>?_);let⟨oe,g,j⟩:=he;have z4:=s4 _ _ D.i2z.symm (r.extBut _ _ D.TOz.symm (p.extBut _ _ D.i1z.symm z1));have t:e≠z:=λq=>by subst q;rw[z4]at g;cases g;simp at j
   refine wpAny_setField_rec z4 (by simp) λg5 _ s5=>?_;exact⟨g5,e,rfl,rfl,λd o I n2 n3 n4 q=>s5.extBut _ _ I (s4 _ _ n4 (r.extBut _ _ n2 (p.extBut _ _ n3 (l.extBut _ _ I q)))),oe,s5.extBut _ _ t g,j⟩
 refine Vb (wpAny_attempt (wpAny_callSpecial?_slot hT F.slot_zip_next (wpAny_call_entry F.slot_zip_next hT F.entry_zip_next (Vz go (λ_ _ q=>q.elim) λe s' q=>?_) (F.args_zip_next_1 _))));let⟨h',a,rfl,rfl,hk,o,ho,hc⟩:=q;exact Vb (wpAny_isInstance ⟨o,ho,hc⟩ isSubtype_stop (Vd (hQ _ hk)))
noncomputable def  aM:Bool->Addr->Obj
 |true,l=>{cls:=.type "list_iterator",data:=.fields #[.ref l,.int 0 0]}
 |false,l=>{cls:=.type "tuple_iterator",data:=.fields #[.ref l,.int 0 0]}
def tH(h:CoK b s.heap l its)(hQ:Q (.ref s.heap.objs.size) {s with heap:=s.heap.push (aM b l)}):wpAny (!7) A (pyIter (.ref l)) Q E s:=by
 cases b
 .exact wpAny_pyIter_tuple h hQ
 .exact wpAny_pyIter_list h hQ
abbrev zG(h:Heap)(b c:Bool)(l1 l2:Addr):Heap:=((((h.push (aM b l1)).push (aM c l2)).push {cls:=.type "tuple",data:=.seq #[.ref h.objs.size,.ref (h.push (aM b l1)).objs.size]}).push {cls:=.type "tuple",data:=.seq #[.none,.none]}).push
 {cls:=.type "zip",data:=.fields #[.none,.bool false,.bool false,.ref ((h.push (aM b l1)).push (aM c l2)).objs.size,.ref (((h.push (aM b l1)).push (aM c l2)).push {cls:=.type "tuple",data:=.seq #[.ref h.objs.size,.ref (h.push (aM b l1)).objs.size]}).objs.size]}
def AL(b c:Bool)(l1 l2:Addr)(xs ys:U6):
  Meets (Builtin.«zip.__new__» ⟨[.type "zip",.ref l1,.ref l2],[]⟩) (λ_ R s=>CoK b s.heap l1 xs/\CoK c s.heap l2 ys/\
   R (.ok (.ret (.ref (s.heap.objs.size+4)))) {s with heap:=zG s.heap b c l1 l2}):=
 .of_wp λprog w A R s h=>by
  let⟨hp,g,d,tk,os⟩:=s;let⟨hl1,hl2,h⟩:=h;have hsub:=sub_zip;have hL1:CoK b (Shared.heap ⟨hp,g,d,tk,os⟩) l1 xs:=hl1;have hL2:CoK c (Shared.heap ⟨hp.push (aM b l1),g,d,tk,os⟩) l2 ys:=CoK.at hl2 λo e=>Vc _ e;wp_walk using tH hL1,tH hL2;refine⟨_,rfl,?_⟩;have z4:((((hp.push (aM b l1)).push (aM c l2)).push {cls:=.type "tuple",data:=.seq #[.ref hp.objs.size,.ref (hp.push (aM b l1)).objs.size]}).push {cls:=.type "tuple",data:=.seq #[.none,.none]}).objs.size=hp.objs.size+4:=by
   rw[Heap.size_push,Heap.size_push,Heap.size_push,Heap.size_push]
  rw[<-z4]at h;exact h
def yM(J:CoK b s.heap g xs)(I:CoK c s.heap j ys)(h:∀h',ZSt b c (s.heap.objs.size+4) (s.heap.objs.size+2) (s.heap.objs.size+3) s.heap.objs.size (!13) g j .none 0 h'->h'.objs.size=s.heap.objs.size+5->
   (∀d o,s.heap.get? d=!o->h'.get? d=!o)->Q (.ref (s.heap.objs.size+4)) {s with heap:=h'}):
  wpAny (!7) A (call (.type "zip") [.ref g,.ref j]) Q E s:=by
 refine callType_new F.called_zip (!3) (F.typeCall_zip_2 _ _) (F.newCall_zip_2 _ _) (λobj=>F.args_object_init_3 obj _ _) F.entry_zip_new (AL b c g j xs ys) ⟨J,I,?_⟩
 have C:(s.heap.push (aM b g)).objs.size=s.heap.objs.size+1:=Heap.size_push ..
 have t:((s.heap.push (aM b g)).push (aM c j)).objs.size=s.heap.objs.size+2:=by rw[Heap.size_push,C]
 have r:(((s.heap.push (aM b g)).push (aM c j)).push {cls:=.type "tuple",data:=.seq #[.ref s.heap.objs.size,.ref (s.heap.push (aM b g)).objs.size]}).objs.size=s.heap.objs.size+3:=by rw[Heap.size_push,t]
 have U:((((s.heap.push (aM b g)).push (aM c j)).push {cls:=.type "tuple",data:=.seq #[.ref s.heap.objs.size,.ref (s.heap.push (aM b g)).objs.size]}).push {cls:=.type "tuple",data:=.seq #[.none,.none]}).objs.size=s.heap.objs.size+4:=by rw[Heap.size_push,r]
 have z5:(zG s.heap b c g j).objs.size=s.heap.objs.size+5:=by rw[Heap.size_push,U]
 have g5:IsZip (zG s.heap b c g j) (s.heap.objs.size+4) (s.heap.objs.size+2) (s.heap.objs.size+3) .none:=by
  have:=Vf ((((s.heap.push (aM b g)).push (aM c j)).push {cls:=.type "tuple",data:=.seq #[.ref s.heap.objs.size,.ref (s.heap.push (aM b g)).objs.size]}).push {cls:=.type "tuple",data:=.seq #[.none,.none]})
   (o:={cls:=.type "zip",data:=.fields #[.none,.bool false,.bool false,.ref ((s.heap.push (aM b g)).push (aM c j)).objs.size,.ref (((s.heap.push (aM b g)).push (aM c j)).push {cls:=.type "tuple",data:=.seq #[.ref s.heap.objs.size,.ref (s.heap.push (aM b g)).objs.size]}).objs.size]}) rfl
  rw[U]at this;rw[<-t,<-r];exact this
 have g4:IsPair (zG s.heap b c g j) (s.heap.objs.size+3) .none .none:=by
  have:=Vf (((s.heap.push (aM b g)).push (aM c j)).push {cls:=.type "tuple",data:=.seq #[.ref s.heap.objs.size,.ref (s.heap.push (aM b g)).objs.size]}) (o:={cls:=.type "tuple",data:=.seq #[.none,.none]}) rfl;rw[r]at this;exact Vc _ this
 have g3:IsPair (zG s.heap b c g j) (s.heap.objs.size+2) (.ref s.heap.objs.size) (.ref (!13)):=by
  have:=Vf ((s.heap.push (aM b g)).push (aM c j)) (o:={cls:=.type "tuple",data:=.seq #[.ref s.heap.objs.size,.ref (s.heap.push (aM b g)).objs.size]}) rfl;rw[t]at this;rw[<-C];exact Vc _ (Vc _ this)
 have fr:∀o,o.isFreed=false->∀(T:Heap),(T.push o).get? T.objs.size=!o:=λo ho T=>Vf _ ho
 have fb:∀(b:Bool)(l:Addr),(aM b l).isFreed=false:=λb l=>by cases b<;>rfl
 have g2:(zG s.heap b c g j).get? (!13)=!(aM c j):=by rw[<-C];exact Vc _ (Vc _ (Vc _ (fr _ (fb c j) _)))
 have g1:(zG s.heap b c g j).get? s.heap.objs.size=!_:=Vc _ (Vc _ (Vc _ (Vc _ (fr _ (fb b g) _))))
 have p:∀(d:Bool)(a l:Addr)(G:Heap),G.get? a=!(aM d l)->ItK d G a l 0:=λd a l G e=>by cases d<;>exact⟨_,e,rfl,rfl⟩
 refine⟨⟨_,g5,rfl⟩,h _ ⟨⟨?_,?_,?_,?_,?_,?_,?_,?_,?_,?_⟩,g5,g3,⟨_,_,g4⟩,p b _ _ _ g1,p c _ _ _ g2⟩ z5 λd o x=>Vc _ (Vc _ (Vc _ (Vc _ (Vc _ x))))⟩
 all_goals (show(_:Nat)≠_;omega)
end
section
variable{X:Cx}{pins:UW}{σ:List (Option V)}{H:Hp}{s:Shared}{h':Heap}
def nQ{g:List Addr}(I:Inv X pins σ H s)(l:∀b∈g,H b=none)(k:∀b o,b ∉ g->s.heap.get? b=!o->h'.get? b=!o):HOk X.prog X.w H h':=λb u e=>by
 have j:∀b u,H b=!u->b ∉ g:=λb u e z=>by rw[l b z]at e;cases e
 refine(I.hok b u e).stay (λc v p q=>k c v ?_ q) (λ_ q=>q) λ_ _ q=>q;grind
def Hh{g:List Addr}(j:∀b∈g,jQ X pins H b):∀b∈g,(b∈X.ex\/X.s₀.heap.objs.size<=b)/\b≠X.env.locals/\(∀x c,X.env.cells.lookup x=!c->c≠b)/\∀p∈X.pn++pins,p.1≠b:=λb l=>by
 let⟨C,f1,f2,t,r,o⟩:=j b l;grind
def Inv.turnedL{ch:List Addr}(I:Inv X pins σ H s)(hf:∀b∈ch,jQ X pins H b)(k:∀b o,b ∉ ch->s.heap.get? b=!o->h'.get? b=!o):Inv X pins σ H {s with heap:=h',toks:=t'}:=by
 refine I.step (Hh hf) (λb o _ _ hc e _=>k b o hc e) (λb o _ _ hc e _=>⟨o.slots,k b o hc e⟩) (λ_ _ _ _ n=>n)
  (λb o hc e=>⟨o,k b o hc e⟩) (λ_ _ e=>e) (λ_ _ _ e=>e) (λb ps e=>⟨#[],by rw[e];simp⟩) (λm hm=>?_) (nQ I (λb hb=>(hf b hb).1) k) I.bare
 let⟨o,es,ep,ho,r⟩:=hm;exact⟨o,es,ep,k _ o (λz=>(hf _ z).2.1 rfl) ho,r⟩
def Inv.turnedNew{ch:List Addr}{p:Addr}(I:Inv X pins σ H s)(hf:∀b∈ch,jQ X pins H b)(k:∀b o,b ∉ ch->s.heap.get? b=!o->h'.get? b=!o)(hp:s.heap.objs.size<=p)(new:ObjOk X.prog X.w (upd H p o) h' p o):Inv X pins σ (upd H p o) {s with heap:=h',toks:=t'}:=by
 have hn:=I.hok.fresh hp;have lt:∀b o,s.heap.get? b=!o->b≠p:=λb o e=>Vo (Vl (Ve e) hp);have keep:∀b u,H b=!u->upd H p o b=!u:=λb u e=>by rw[ae (ak e hn)];exact e
 refine I.step (Hh hf) (λb o _ _ hc e _=>k b o hc e) (λb o _ _ hc e _=>⟨o.slots,k b o hc e⟩) (λb o _ e n=>by rw[ae (lt b o e)];exact n)
  (λb o hc e=>⟨o,k b o hc e⟩) (λb xs e=>keep b _ e) (λb o u e=>keep b _ e) (λb ps e=>⟨#[],by rw[keep b _ e];simp⟩) (λm hm=>?_) ((nQ I (λb hb=>(hf b hb).1) k).adopt hn new) I.bare
 let⟨o,es,ep,ho,r⟩:=hm;exact⟨o,es,ep,k _ o (λz=>(hf _ z).2.1 rfl) ho,r⟩
def  SqK(b:Bool)(K:Frag)(H:Hp)(a:Addr)(xs:List V):Prop:=if b=true then SqL K H a xs else SqT K H a xs
def Inv.coK(I:Inv X pins σ H s)(h:SqK b X.K H a xs):∃g:U0,Vals xs g/\CoK b s.heap a g.toArray/\xs.length<=sizeLine:=by
 cases b
 .let⟨g,r,t,z⟩:=I.tuple (h);exact⟨g,r,t,z⟩
 .let⟨g,r,t,z⟩:=I.list (h);exact⟨g,r,t.isList,z⟩
def Inv.coK_inj(I:Inv X pins σ H s)(h:SqK b X.K H a xs)(h':SqK b X.K H a ys):xs=ys:=by
 cases b
 .exact I.tuple_inj h h'
 .exact I.list_inj h h'
end
def  QH(K:Frag)(b c:Bool)(l1 l2:Addr):It:=
 ⟨λi H=>∃xs ys x y,SqK b K H l1 xs/\SqK c K H l2 ys/\xs[i]?=!x/\ys[i]?=!y,
  λi H v H'=>∃p x y,v=.ref p/\H p=none/\H'=upd H p (.tup [x,y])/\(∀xs,SqK b K H l1 xs->xs[i]?=!x)/\∀ys,SqK c K H l2 ys->ys[i]?=!y,
  λi H=>∃xs ys,SqK b K H l1 xs/\SqK c K H l2 ys/\(xs.length<=i\/ys.length<=i)⟩
def CoK.get(x:CoK b h l g):∃o,h.get? l=!o/\∃n,o.data=.seq g n:=by
 cases b
 .let⟨o,e,_,n,d⟩:=x;exact⟨o,e,n,d⟩
 .let⟨o,e,_,n,d⟩:=x;exact⟨o,e,n,d⟩
def w4{z TI TO r p J I l}(Z:ZSt b c z TI TO r p J I f0 k h)(C:CoK d h l T)(U:l≠TO):ZL z TO r p l:=by
 let⟨o,e,n,q⟩:=C.get;refine⟨λy=>?_,U,λy=>?_,λy=>?_⟩
 .subst y;rw[Z.hz]at e;cases e;cases q
 .subst y;let⟨o',_,t,g,_,j,_⟩:=Z.h1.live;rw[g]at e;cases e;rw[j]at q;cases q
 .subst y;let⟨o',_,t,g,_,j,_⟩:=Z.h2.live;rw[g]at e;cases e;rw[j]at q;cases q
def AM{P:Program}{w:World}{K:Frag}{J:U8}{x1:Nat}{tpos:Pos}(b c:Bool)(l1 U z TI TO t r:Addr)(n1:l1≠TO)(n2:U≠TO):
  Turn P w K (.Tuple J x1 tpos) (QH K b c l1 U) [z,TI,TO,t,r] z (λi h=>ZSt b c z TI TO t r l1 U .none i h) where
 mem:=by simp
 obj:=λi h Z d hd=>by
  simp at hd;rcases hd with rfl|rfl|rfl|rfl|rfl
  .exact⟨_,Z.hz,λv q=>by cases q⟩
  .exact⟨_,Z.hI,λv q=>by cases q⟩
  .let⟨a,d,e⟩:=Z.hO;exact⟨_,e,λv q=>by cases q⟩
  .let⟨o,n,vs,e,_,dd,_⟩:=Z.h1.live;exact⟨o,e,λv q=>by rw[dd]at q;cases q⟩
  .let⟨o,n,vs,e,_,dd,_⟩:=Z.h2.live;exact⟨o,e,λv q=>by rw[dd]at q;cases q⟩
 keep:=λi h h' Z k=>by
  let⟨a,d,e⟩:=Z.hO;exact⟨Z.ap,k z (by simp) _ Z.hz,k TI (by simp) _ Z.hI,⟨a,d,k TO (by simp) _ e⟩,Z.h1.at λo q=>k t (by simp) o q,Z.h2.at λo q=>k r (by simp) o q⟩
 item:=by
  intro X hP hw hK hc i pins s σ H E I hf Z hg;subst hP hw hK;let⟨xs,ys,x,y,hx,hy,ex,ey⟩:=hg;let⟨its,rv,p,hz1⟩:=I.coK hx;let⟨jts,g,p2,hz2⟩:=I.coK hy;let⟨u,hu,ru⟩:=rv.get ex;let⟨v,hv,rv'⟩:=g.get ey;have L1:=w4 Z p n1;have L2:=w4 Z p2 n2;refine AJ Z L1 L2 p p2 (by simpa using hu) (by simpa using hv) λh' T T' sz k'=>⟨_,rfl,?_⟩;refine wpAny_letOwnedTupleGo_zip T.hz λh2 C l=>?_;have zlt:=Ve Z.hz;have hne:=Nat.ne_of_gt zlt;have Z2:ZSt b c z TI TO t r l1 U .none (i+1) h2:=by
   let⟨a,d,e⟩:=T.hO;exact⟨Z.ap,C,l.extBut _ _ Z.ap.TIz T.hI,⟨a,d,l.extBut _ _ Z.ap.TOz e⟩,T.h1.at λo q=>l.extBut _ _ Z.ap.i1z q,T.h2.at λo q=>l.extBut _ _ Z.ap.i2z q⟩
  have T2:=l.extBut _ _ hne T';have kk:∀d o,d ∉ [z,TI,TO,t,r]->s.heap.get? d=!o->h2.get? d=!o:=λd o hd e=>by
   simp at hd;exact l.extBut _ _ hd.1 (k' d o hd.1 hd.2.2.1 hd.2.2.2.1 hd.2.2.2.2 e)
  have fr:=I.hok.fresh (Vy _);refine⟨.ref s.heap.objs.size,_,I.turnedNew hf kk (Vy _) ?_,rfl,⟨s.heap.objs.size,x,y,rfl,fr,rfl,λzs j=>by rw[I.coK_inj j hx];exact ex,λzs j=>by rw[I.coK_inj j hy];exact ey⟩,Z2,λd hd=>?_⟩
  .exact⟨by show 2<=sizeLine;decide,[u,v],.cons ru (.cons rv' .nil),⟨_,T2,rfl,_,rfl⟩⟩
  .obtain⟨o,eo,_⟩:∃o,s.heap.get? d=!o/\True:=by
    simp at hd;rcases hd with rfl|rfl|rfl|rfl|rfl
    .exact⟨_,Z.hz,trivial⟩
    .exact⟨_,Z.hI,trivial⟩
    .let⟨a,d,e⟩:=Z.hO;exact⟨_,e,trivial⟩
    .let⟨o,n,vs,e,_⟩:=Z.h1.live;exact⟨_,e,trivial⟩
    .let⟨o,n,vs,e,_⟩:=Z.h2.live;exact⟨_,e,trivial⟩
   rw[ae (Nat.ne_of_lt (Heap.lt_size eo))];exact(hf d hd).1
 done:=by
  intro X hP hw hK hc i pins s σ H E I hf Z hg;subst hP hw hK;let⟨xs,ys,hx,hy,hl⟩:=hg;let⟨its,rv,p,hz1⟩:=I.coK hx;let⟨jts,g,p2,hz2⟩:=I.coK hy;have e1:=rv.length;have e2:=g.length;refine AK (I.ok.hd hc) Z (w4 Z p n1) (w4 Z p2 n2) p p2 ?_ λh' k'=>⟨rfl,I.turnedL hf λd o hd e=>?_⟩
  .rcases hl with hl|hl
   .exact .inl (by simp;omega)
   .exact .inr (by simp;omega)
  .simp at hd;exact k' d o hd.1 hd.2.2.1 hd.2.2.2.1 hd.2.2.2.2 e
 self:=λ_ _ _ _ _ Z h=>wpAny_pyIter_zip Z.hz h
section
variable{X:Cx}{tg a b e:Expr}{es:U8}{p pos:Pos}
def MP:bootBuiltins "zip"=!(.type "zip"):=by decide+kernel
def  QI(K:Frag)(ta:TA):TI:=λσ H R=>ta σ H λvs H1=>∃b c l1 l2 xs ys,vs=[.ref l1,.ref l2]/\SqK b K H1 l1 xs/\SqK c K H1 l2 ys/\R (QH K b c l1 l2) H1
def IQ{x1}(hg:Gl X "zip")(hm:X.mg "zip"=none)(ha:PA X [a,b] ta)(hs:starEach [a,b] X.env=[(false,eval a X.env),(false,eval b X.env)])(hs2:starEach [b] X.env=[(false,eval b X.env)]):
  PI X (.Tuple elts x1 tpos) (.Call (.Name "zip" p) [a,b] [] pos) (QI X.K ta):=by
 intro pins s σ H R I h
 refine Call_ (dI I hg hm MP (PyProof.Rows.callWith_type1 (bq (ha pos pins s σ H _ I h) λus s1 ⟨vs,H1,I1,r1,q1⟩=>?_) (by rw[hs,hs2]) (by rw[hs2];rfl)))
 let⟨b,c,l1,l2,xs,ys,e,hx,hy,q⟩:=q1
 subst e
 let⟨u,v,rfl,ru,rv⟩:=zX r1
 cases ru
 cases rv
 let⟨its,rx,p1,_⟩:=I1.coK hx
 let⟨jts,ry,p2,_⟩:=I1.coK hy
 have lt:∀{d:Bool}{l:Addr}{its:U6},CoK d s1.heap l its->l<s1.heap.objs.size:=λC=>by let⟨o,e,_⟩:=C.get;exact Ve e
 refine yM p1 p2 λh' Z sz k=>wpAny_pyIter_zip Z.hz ?_
 have I2:Inv X pins σ H1 {s1 with heap:=h'}:=I1.kept k
 refine⟨s1.heap.objs.size+4,[s1.heap.objs.size+4,s1.heap.objs.size+2,s1.heap.objs.size+3,s1.heap.objs.size,s1.heap.objs.size+1],_,_,H1,rfl,I2,AM b c l1 l2 _ _ _ _ _ ?_ ?_,Z,λd hd=>?_,q⟩
 .exact Vo (Vl (lt p1) (Nat.le_add_right _ _))
 .exact Vo (Vl (lt p2) (Nat.le_add_right _ _))
 .have hge:s1.heap.objs.size<=d:=by
   simp at hd;rcases hd with rfl|rfl|rfl|rfl|rfl<;>first|exact Nat.le_add_right _ _|exact Vy _
  exact I1.fpOk hge (I1.hok.fresh hge)
def  jW(xs ys:U7):U7:=(xs.zip ys).map λp=>.tup [p.1,p.2]
def SqK.mono{b}{K}(s:Same H H')(h:SqK b K H l xs):SqK b K H' l xs:=by
 cases b
 .exact s.seqT h
 .exact s.seq h
def AN{K}{b c}{ds es}(hx:SqK b K l T xs)(hy:SqK c K l J ys)(C:IsL K l ds xs)(t:IsL K l es ys):nN K l (QH K b c T J) (jW ds es):=λi H O s hd=>by
 have j:=hx.mono (s.trans msk_le);have g:=hy.mono (s.trans msk_le);refine⟨λd hi=>?_,λhi=>⟨xs,ys,j,g,?_⟩⟩
 .unfold jW at hi;rw[getElem?_map]at hi;cases e:(ds.zip es)[i]? with
  |none=>rw[e]at hi;cases hi
  |some pr=>
   rw[e]at hi;cases hi;let⟨e1,e2⟩:=List.getElem?_zip_eq_some.mp e;let⟨x,ex,ix⟩:=C.get e1;let⟨y,I,iy⟩:=t.get e2;refine⟨⟨xs,ys,x,y,j,g,ex,I⟩,?_⟩;rintro v H3 ⟨q,x',y',rfl,o,rfl,U,ky⟩;have r:=U xs j;have p:=ky ys g;rw[ex]at r;cases r;rw[I]at p;cases p;have hO:=gk hd o;refine⟨Same.new o,q,[x,y],rfl,.of (by rw[aN hO,ai]),?_⟩;have le:Same (msk O H) (msk O (upd H q (.tup [x,y]))):=(Same.new o).msk;exact⟨x,[y],rfl,Is.mono (s.trans le) _ _ ix,y,[],rfl,Is.mono (s.trans le) _ _ iy,rfl⟩
 .have h1:=C.len;have h2:=t.len;unfold jW at hi;rw[length_map,List.length_zip]at hi;omega
def  yN:U7->UY:=Ls λc d=>(seqD c).bind λxs=>(seqD d).bind λys=>!(jW xs ys)
def vn{K}(h:SqL K H l xs\/SqT K H l xs):∃b,SqK b K H l xs:=by
 rcases h with h|h
 .exact⟨true,h⟩
 .exact⟨false,h⟩
def IR{x1}(hg:Gl X "zip")(hm:X.mg "zip"=none)(ha:PX X [a,b] fa)(hs:starEach [a,b] X.env=[(false,eval a X.env),(false,eval b X.env)])(l:starEach [b] X.env=[(false,eval b X.env)]):
  PJ X (.Tuple o x1 tpos) (.Call (.Name "zip" p) [a,b] [] pos) (λY=>(fa Y).bind yN):=λO Y=>(IQ hg hm (ha O Y) hs l).imp λσ H R ⟨E,ds,q,k⟩=>by
 let⟨as,e1,q⟩:=VA q
 refine⟨E,as,e1,λvs H1 C il=>?_⟩
 let⟨c,d,rfl,q1⟩:=tu q
 let⟨xs,U,T⟩:=VA q1
 let⟨ys,J,I⟩:=VA T
 cases I
 let⟨u,v,rfl,iu,iv⟩:=QE il
 let⟨l1,t,rfl,j,m1⟩:=gI U iu
 let⟨l2,r,rfl,g,m2⟩:=gI J iv
 let⟨b1,j⟩:=vn j
 let⟨b2,g⟩:=vn g
 exact⟨b1,b2,l1,l2,t,r,rfl,j.mono msk_le,g.mono msk_le,k _ H1 C (AN j g m1 m2)⟩
noncomputable def  AO:D->U9
 |.int i=>!(.int (-i))
 |_=>none
def IS(l:PP X a fa):PP X (.UnaryOp .USub a pos) (λY=>(fa Y).bind AO):=λO Y=>(LX Il (l O Y)).imp λσ H Q ⟨E,d,q,k⟩=>by
 let⟨c,o,e2⟩:=VA q;refine⟨E,c,o,λv H1 g j=>?_⟩;cases c with
 |int i=>cases e2;exact⟨i,j,k _ H1 g rfl⟩
 |_=>cases e2
def b_min:bootBuiltins "min"=!(.builtin "min"):=by decide+kernel
def  QJ:U7->U9:=Ls λc d=>(nO c).bind λi=>(nO d).bind λj=>!(.int (if j>i then j else i))
def  QK:U7->U9:=Ls λc d=>(nO c).bind λi=>(nO d).bind λj=>!(.int (if j<i then j else i))
noncomputable def  IT:D->Bool
 |.non=>true
 |_=>false
def w5{K}(h:Is K H d v):decide (v=.non)=IT d:=by
 cases d with
 |non=>cases(h);rfl
 |bl _=>cases(h);rfl
 |int _=>cases(h);rfl
 |str _=>cases(h);rfl
 |ty _=>cases(h);rfl
 |adr _=>cases(h);rfl
 |tup _=>let⟨a,xs,rfl,_⟩:=h;rfl
 |lst _=>let⟨a,xs,rfl,_⟩:=h;rfl
 |obj _ _ _=>let⟨a,Ca,dx,fs,rfl,_⟩:=h;rfl
 |dct _ _=>let⟨a,kvs,rfl,_⟩:=h;rfl
def  tI(neg:Bool):D->D->U9
 |d,.non=>!(.bl (if neg then not (IT d) else IT d))
 |_,_=>none
def r_isN{K}:jF K (λx y H Q=>y=.non/\Q (.bl (decide (x=.non))) H) (tI false):=λO H x y dx l d Q _ j g e k=>by
 cases l with
 |non=>cases e;exact⟨g,k _ H (Same.refl _) (by rw[w5 j];rfl)⟩
 |_=>cases e
def r_notN{K:Frag}:jF K (λx y H Q=>y=.non/\Q (.bl (not (decide (x=.non)))) H) (tI true):=λO H x y dx dy d Q _ ix iy e k=>by
 cases dy with
 |non=>cases e;exact⟨iy,k _ H (Same.refl _) (by rw[w5 ix];rfl)⟩
 |_=>cases e
def  vo:D->D->U9
 |x,.lst ds=>if bL x&&ds.all bL then !(.bl (not (Pl x ds)))else none
 |x,.tup ds=>if bL x&&ds.all bL then !(.bl (not (Pl x ds)))else none
 |_,_=>none
def r_notIn{K}:jF K (Pi K true) vo:=λO H x y dx C d Q hd t r e k=>by
 cases C with
 |lst ds=>
  let⟨h1,h2⟩:=aw (e);rw[and_eq_true]at h1;subst h2;let⟨p,xs,rfl,q,l⟩:=r;let⟨o,e2⟩:=iY h1.1 t;let⟨j,g⟩:=iH h1.2 l;exact⟨p,xs,rfl,.inl (msk_le.seq q),e2,g,k _ H (Same.refl _) (by rw[o,j];rfl)⟩
 |tup ds=>
  let⟨h1,h2⟩:=aw (e);rw[and_eq_true]at h1;subst h2;let⟨p,xs,rfl,q,l⟩:=r;let⟨o,e2⟩:=iY h1.1 t;let⟨j,g⟩:=iH h1.2 l;exact⟨p,xs,rfl,.inr (msk_le.seqT q),e2,g,k _ H (Same.refl _) (by rw[o,j];rfl)⟩
 |_=>cases e
def  cutD(ds:U7)(lo hi:Va):U7:=(ds.drop (HT.sIx ds.length 0 lo)).take (HT.sIx ds.length ds.length hi-HT.sIx ds.length 0 lo)
def AQ{K}(l:IsL K H ds xs)(lo hi:Va):IsL K H (cutD ds lo hi) (yC xs lo hi):=by
 unfold cutD yC;rw[<-l.len];exact .of (lY _ (lZ _ l.paired))
def Et:SlR X (λx lo hi H Q=>∃a xs,x=.ref a/\SqT X.K H a xs/\(HT.sIx xs.length 0 lo=0/\HT.sIx xs.length xs.length hi=xs.length)/\Q (.ref a) H):=by
 intro pins s σ H x v vl vu lo hi sl Q I rx hs pl pu h;let⟨a,xs,rfl,hx,hw,q⟩:=h;cases rx;let⟨its,r,ht,hz⟩:=I.tuple hx;have hlen:its.toArray.size=xs.length:=by rw[size_toArray];exact r.length.symm
 refine⟨"tuple",_,PyProof.Rows.slot_tuple_getitem.lookup,ht.typeIs,?_⟩;let⟨os,hos,hcs,hds⟩:=id hs;have hTs:s.TypeIs (.ref sl) "slice":=⟨os,hos,hcs⟩;unfold getItem;try with_reducible refine wpAny_holding ?_
 first|refine Vb (Vd ?_)|skip
 refine Vb (wpAny_sequenceKey ht.typeIs (!3) ?_);refine Vb (wpAny_callSpecial?_slot ht.typeIs PyProof.Rows.slot_tuple_getitem (wpAny_call_entry PyProof.Rows.slot_tuple_getitem ht.typeIs entry_tuple_getitem ?_ (args_tuple_getitem _ _)));show wpAny _ _ (Builtin.Tuple.tupleItemsOf (.ref a)>>=_) _ _ s;refine Vb (tupleItemsOf_ ht (Vb (wpAny_typeOf hTs ?_)));refine Vb (HT.sliceApplied_gen hs pl pu ?_);have hyes:(((HT.sIx its.toArray.size 0 lo:Nat):Int)==0&&(1:Int)==1&&(HT.sIx its.toArray.size its.toArray.size hi-HT.sIx its.toArray.size 0 lo)==its.toArray.size)=true:=by
  rw[hlen,hw.1,hw.2];simp
 show wpAny _ _ (if(((HT.sIx its.toArray.size 0 lo:Nat):Int)==0&&(1:Int)==1&&(HT.sIx its.toArray.size its.toArray.size hi-HT.sIx its.toArray.size 0 lo)==its.toArray.size)=true then _ else _) _ _ s;rw[if_pos hyes];refine Vb (Vb (wpAny_typeOf ht.typeIs (Vd ?_)));exact Vb (wpAny_rule (Vd ⟨_,rfl,Vd ⟨.ref a,H,I,rfl,q⟩⟩))
def  Eu(X:Cx)(e:Option Expr)(f:Vv->Option (Va)):Prop:=∀O Y,PO X e (λσ H Q=>VE X.K O σ H Y/\∃i,f Y=!i/\∀H',Same H H'->Q i H')
def PO.imp{e}(h:PO X e t)(k:∀σ H Q,g σ H Q->t σ H Q):PO X e g:=λpins s σ H Q I q=>h pins s σ H Q I (k _ _ _ q)
def AR:Eu X none (λ_=>!none):=λO Y=>po_none.imp λσ H Q ⟨E,i,q,k⟩=>by
 cases q;exact k H (Same.refl _)
def  aR(f:UR):Vv->Option (Va):=λY=>(f Y).bind λd=>(nO d).bind λi=>!(!i)
def AS(h:PP X e f):Eu X (!e) (aR f):=λO Y=>(D0 (h O Y)).imp λσ H Q ⟨E,i,q,k⟩=>by
 let⟨d,r,p⟩:=VA q;let⟨j,o,l⟩:=VA p;cases l;refine⟨E,d,r,λv H1 g t=>?_⟩;cases intD_some o;exact⟨j,t,k H1 g⟩
def  ra(f:UR)(fl fh:Vv->Option (Va)):UR:=λY=>(f Y).bind λd=>(fl Y).bind λlo=>(fh Y).bind λhi=>match d with
 |.tup ds=>!(.tup (cutD ds lo hi))
 |_=>none
def  mC(f:UR)(fl fh:Vv->Option (Va)):UQ:=λY=>(f Y).bind λd=>(fl Y).bind λlo=>(fh Y).bind λhi=>match d with
 |.lst ds=>!(cutD ds lo hi)
 |_=>none
def yO{lo hi}(h:HT.sIx ds.length 0 lo=0/\HT.sIx ds.length ds.length hi=ds.length):cutD ds lo hi=ds:=by
 unfold cutD;rw[h.1,h.2];simp
def IU{lo hi}(h:PP X e f)(hl:Eu X lo fl)(hh:Eu X hi fh):PP X (.Subscript e (.Slice lo hi none p2) pos) (ra f fl fh):=λO Y=>
 (sX (sl_tup.or Et) (h O Y) (hl O Y) (hh O Y)).imp λσ H Q ⟨E,d,q,k⟩=>by
 let⟨c,q1,q⟩:=VA q;let⟨l,q2,q⟩:=VA q;let⟨u,U,q⟩:=VA q;refine⟨E,c,q1,λv H1 o iv=>⟨E.grow o,l,q2,λH2 j=>⟨E.grow (o.trans j),u,U,λH3 T=>?_⟩⟩⟩;cases c with
 |tup ds=>
  cases q;have r:=Is.mono (j.trans T).msk _ _ iv;let⟨a,xs,rfl,t,C⟩:=r;have g:=o.trans (j.trans T);by_cases I:HT.sIx xs.length 0 l=0/\HT.sIx xs.length xs.length u=xs.length
  .refine .inr ⟨a,xs,rfl,msk_le.seqT t,I,k _ H3 g ?_⟩;rw[yO (by rw[C.len];exact I)];exact⟨a,xs,rfl,t,C⟩
  .refine .inl ⟨a,xs,rfl,msk_le.seqT t,I,λp J=>?_⟩;have hO:=(E.grow g).fresh J;exact k _ _ (g.trans (Same.new J)) ⟨p,_,rfl,.of (by rw[aN hO,ai]),IsL.mono (Same.new J).msk _ _ (AQ C l u)⟩
 |_=>cases q
def AT{lo hi}(h:PP X e f)(hl:Eu X lo fl)(hh:Eu X hi fh):PF X (.Subscript e (.Slice lo hi none p2) pos) (mC f fl fh):=λO Y=>
 (sX D2 (h O Y) (hl O Y) (hh O Y)).imp λσ H Q ⟨E,d,q,k⟩=>by
 let⟨c,J,q⟩:=VA q;let⟨l,I,q⟩:=VA q;let⟨u,C,q⟩:=VA q;refine⟨E,c,J,λv H1 j T=>⟨E.grow j,l,I,λH2 g=>⟨E.grow (j.trans g),u,C,λH3 r=>?_⟩⟩⟩;cases c with
 |lst ds=>
  cases q;have o:=Is.mono (g.trans r).msk _ _ T;let⟨a,xs,rfl,t,U⟩:=o;exact⟨a,xs,rfl,msk_le.seq t,λp hp=>k p _ H3 (j.trans (g.trans r)) hp (AQ U l u)⟩
 |_=>cases q
end
inductive Cat where
 |sh
 |top
 |deep
 deriving DecidableEq
mutual
noncomputable def  lfD:D->Bool
 |.tup ds=>cF ds
 |.lst _=>false
 |.obj _ _ _=>false
 |.dct _ _=>false
 |_=>true
noncomputable def  cF:U7->Bool
 |[]=>true
 |d::ds=>lfD d&&cF ds
end
mutual
noncomputable def  Deep(K:Frag)(M H:Hp):D->V->List Addr->Prop
 |.non,v,A=>v=.non/\A=[]
 |.bl b,v,A=>v=.bl b/\A=[]
 |.int i,v,A=>v=.int i/\A=[]
 |.str x,v,A=>v=.str x/\A=[]
 |.ty n,v,A=>v=.ty n/\A=[]
 |.adr a,v,A=>v=.ref a/\A=[]
 |.tup ds,v,A=>∃a xs,v=.ref a/\(M a=!(.tup xs)\/(cF ds=true/\SqT K M a xs))/\DeepL K M H ds xs A
 |.lst ds,v,A=>∃a xs A',v=.ref a/\H a=!(.lst xs)/\A=a::A'/\DeepL K M H ds xs A'
 |.obj _ _ _,_,_=>False
 |.dct ks ds,v,A=>∃a kvs A',v=.ref a/\H a=!(.dK kvs)/\kvs.map (·.1)=ks/\A=a::A'/\DeepL K M H ds (kvs.map (·.2)) A'
noncomputable def  DeepL(K:Frag)(M H:Hp):U7->List V->List Addr->Prop
 |[],xs,A=>xs=[]/\A=[]
 |d::ds,xs,A=>∃x r A1 A2,xs=x::r/\A=A1++A2/\Deep K M H d x A1/\DeepL K M H ds r A2
end
def  NL(M M':Hp):Prop:=∀b o,M b=!o->¬Hid (!o)->M' b=!o
def NL.of(s:Same M g):NL M g:=λb o h _=>s b o h
def NL.trans(s:NL M j)(t:NL j g):NL M g:=λb o h q=>t b o (s b o h q) q
def w6:¬Hid (!(.tup xs)):=by rintro(⟨_,z⟩|⟨_,_,_,z⟩|⟨_,z⟩)<;>cases z
def Ew:¬Hid (!(.frz o u)):=by rintro(⟨_,z⟩|⟨_,_,_,z⟩|⟨_,z⟩)<;>cases z
def NL.seqT{K}(e:NL H H')(h:SqT K H a xs):SqT K H' a xs:=by
 rcases h with(h|⟨o,h⟩)|h
 .exact .inl (.inl (e _ _ h w6))
 .exact .inl (.inr ⟨o,e _ _ h Ew⟩)
 .exact .inr h
def tupAt{K}(s:NL M g)(h:M a=!(.tup xs)\/(cF ds=true/\SqT K M a xs)):g a=!(.tup xs)\/(cF ds=true/\SqT K g a xs):=by
 rcases h with h|⟨f,h⟩
 .exact .inl (s _ _ h w6)
 .exact .inr ⟨f,s.seqT h⟩
def Hi{K}(s:NL M g)(h:M a=!(.tup xs)\/(cF ds=true/\SqT K M a xs)):SqT K g a xs:=by
 rcases tupAt s h with h|⟨_,h⟩
 .exact .of h
 .exact h
mutual
theorem Deep.frame{K:Frag}{M M' H H':Hp}(s:NL M M'):∀(d:D)(v:V)(A:List Addr),(∀a∈A,∀o,H a=!o->H' a=!o)->Deep K M H d v A->Deep K M' H' d v A
 |.non,_,_,_,h=>h
 |.bl _,_,_,_,h=>h
 |.int _,_,_,_,h=>h
 |.str _,_,_,_,h=>h
 |.ty _,_,_,_,h=>h
 |.adr _,_,_,_,h=>h
 |.tup ds,_,A,k,⟨a,xs,e,q,l⟩=>⟨a,xs,e,tupAt s q,DeepL.frame s ds xs A k l⟩
 |.lst ds,_,A,k,⟨a,xs,A',e,q,z,l⟩=>⟨a,xs,A',e,k a (by rw[z];exact Vi) _ q,z,DeepL.frame s ds xs A' (λb hb=>k b (by rw[z];exact Vj _ hb)) l⟩
 |.obj _ _ _,_,_,_,h=>h.elim
 |.dct ks ds,_,A,k,⟨a,kvs,A',e,q,y,z,l⟩=>⟨a,kvs,A',e,k a (by rw[z];exact Vi) _ q,y,z,DeepL.frame s ds _ A' (λb hb=>k b (by rw[z];exact Vj _ hb)) l⟩
theorem DeepL.frame{K:Frag}{M M' H H':Hp}(s:NL M M'):∀(ds:U7)(xs:List V)(A:List Addr),(∀a∈A,∀o,H a=!o->H' a=!o)->DeepL K M H ds xs A->DeepL K M' H' ds xs A
 |[],_,_,_,h=>h
 |d::ds,_,A,k,⟨x,r,A1,A2,e,z,h,l⟩=>⟨x,r,A1,A2,e,z,Deep.frame s d x A1 (λb hb=>k b (by rw[z];exact Vr _ hb)) h,DeepL.frame s ds r A2 (λb hb=>k b (by rw[z];exact Vs _ hb)) l⟩
end
mutual
theorem Deep.is{K:Frag}{M M' H:Hp}(s:NL M M'):∀(d:D)(v:V)(A:List Addr),(∀a∈A,∀o,H a=!o->M' a=!o)->Deep K M H d v A->Is K M' d v
 |.non,_,_,_,h=>h.1
 |.bl _,_,_,_,h=>h.1
 |.int _,_,_,_,h=>h.1
 |.str _,_,_,_,h=>h.1
 |.ty _,_,_,_,h=>h.1
 |.adr _,_,_,_,h=>h.1
 |.tup ds,_,A,k,⟨a,xs,e,q,l⟩=>⟨a,xs,e,Hi s q,DeepL.is s ds xs A k l⟩
 |.lst ds,_,A,k,⟨a,xs,A',e,q,z,l⟩=>⟨a,xs,e,.of (k a (by rw[z];exact Vi) _ q),DeepL.is s ds xs A' (λb hb=>k b (by rw[z];exact Vj _ hb)) l⟩
 |.obj _ _ _,_,_,_,h=>h.elim
 |.dct ks ds,_,A,k,⟨a,kvs,A',e,q,y,z,l⟩=>⟨a,kvs,e,k a (by rw[z];exact Vi) _ q,y,DeepL.is s ds _ A' (λb hb=>k b (by rw[z];exact Vj _ hb)) l⟩
theorem DeepL.is{K:Frag}{M M' H:Hp}(s:NL M M'):∀(ds:U7)(xs:List V)(A:List Addr),(∀a∈A,∀o,H a=!o->M' a=!o)->DeepL K M H ds xs A->IsL K M' ds xs
 |[],_,_,_,h=>h.1
 |d::ds,_,A,k,⟨x,r,A1,A2,e,z,h,l⟩=>⟨x,r,e,Deep.is s d x A1 (λb hb=>k b (by rw[z];exact Vr _ hb)) h,DeepL.is s ds r A2 (λb hb=>k b (by rw[z];exact Vs _ hb)) l⟩
end
mutual
theorem Is.deep{K:Frag}{M H:Hp}:∀(d:D)(v:V),lfD d=true->Is K M d v->Deep K M H d v []
 |.non,_,_,h=>⟨h,rfl⟩
 |.bl _,_,_,h=>⟨h,rfl⟩
 |.int _,_,_,h=>⟨h,rfl⟩
 |.str _,_,_,h=>⟨h,rfl⟩
 |.ty _,_,_,h=>⟨h,rfl⟩
 |.adr _,_,_,h=>⟨h,rfl⟩
 |.tup ds,_,f,⟨a,xs,e,q,l⟩=>⟨a,xs,e,.inr ⟨f,q⟩,IsL.deep ds xs f l⟩
 |.lst _,_,f,_=>by cases f
 |.obj _ _ _,_,f,_=>by cases f
 |.dct _ _,_,f,_=>by cases f
theorem IsL.deep{K:Frag}{M H:Hp}:∀(ds:U7)(xs:List V),cF ds=true->IsL K M ds xs->DeepL K M H ds xs []
 |[],_,_,h=>⟨h,rfl⟩
 |d::ds,_,f,⟨x,r,e,h,l⟩=>by
  have f':(lfD d&&cF ds)=true:=f;rw[and_eq_true]at f';exact⟨x,r,[],[],e,rfl,Is.deep d x f'.1 h,IsL.deep ds r f'.2 l⟩
end
mutual
theorem Deep.lf{K:Frag}{M H:Hp}:∀(d:D)(v:V)(A:List Addr),lfD d=true->Deep K M H d v A->A=[]
 |.non,_,_,_,h=>h.2
 |.bl _,_,_,_,h=>h.2
 |.int _,_,_,_,h=>h.2
 |.str _,_,_,_,h=>h.2
 |.ty _,_,_,_,h=>h.2
 |.adr _,_,_,_,h=>h.2
 |.tup ds,_,A,f,⟨a,xs,e,q,l⟩=>DeepL.lf ds xs A f l
 |.lst _,_,_,f,_=>by cases f
 |.obj _ _ _,_,_,f,_=>by cases f
 |.dct _ _,_,_,f,_=>by cases f
theorem DeepL.lf{K:Frag}{M H:Hp}:∀(ds:U7)(xs:List V)(A:List Addr),cF ds=true->DeepL K M H ds xs A->A=[]
 |[],_,_,_,h=>h.2
 |d::ds,_,A,f,⟨x,r,A1,A2,e,z,h,l⟩=>by
  have f':(lfD d&&cF ds)=true:=f;rw[and_eq_true]at f';rw[z,Deep.lf d x A1 f'.1 h,DeepL.lf ds r A2 f'.2 l];rfl
end
mutual
theorem Is.nl{K:Frag}{M M':Hp}(s:NL M M'):∀(d:D)(v:V),lfD d=true->Is K M d v->Is K M' d v
 |.non,_,_,h=>h
 |.bl _,_,_,h=>h
 |.int _,_,_,h=>h
 |.str _,_,_,h=>h
 |.ty _,_,_,h=>h
 |.adr _,_,_,h=>h
 |.tup ds,_,f,⟨a,xs,e,q,l⟩=>⟨a,xs,e,s.seqT q,IsL.nl s ds xs f l⟩
 |.lst _,_,f,_=>by cases f
 |.obj _ _ _,_,f,_=>by cases f
 |.dct _ _,_,f,_=>by cases f
theorem IsL.nl{K:Frag}{M M':Hp}(s:NL M M'):∀(ds:U7)(xs:List V),cF ds=true->IsL K M ds xs->IsL K M' ds xs
 |[],_,_,h=>h
 |d::ds,_,f,⟨x,r,e,h,l⟩=>by
  have f':(lfD d&&cF ds)=true:=f;rw[and_eq_true]at f';exact⟨x,r,e,Is.nl s d x f'.1 h,IsL.nl s ds r f'.2 l⟩
end
def  OwnC(K:Frag)(O:U5)(H:Hp):Cat->D->V->List Addr->Prop
 |.sh,d,v,A=>A=[]/\Is K (msk O H) d v
 |.top,d,v,A=>∃a ds xs,d=.lst ds/\v=.ref a/\A=[a]/\H a=!(.lst xs)/\IsL K (msk O H) ds xs
 |.deep,d,v,A=>Deep K (msk O H) H d v A
def OwnC.frame{K}(s:Same (msk O H) (msk r H'))(k:∀a∈A,∀o,H a=!o->H' a=!o)(h:OwnC K O H c d v A):OwnC K r H' c d v A:=by
 cases c with
 |sh=>exact⟨h.1,Is.mono s d v h.2⟩
 |top=>
  let⟨a,ds,xs,p,e2,g,j,l⟩:=h;exact⟨a,ds,xs,p,e2,g,k a (by rw[g];exact Vi) _ j,IsL.mono s ds xs l⟩
 |deep=>exact Deep.frame (NL.of s) d v A k h
def OwnC.is{K}(s:Same (msk O H) (msk g H))(k:∀a∈A,g a=false)(h:OwnC K O H c d v A):Is K (msk g H) d v:=by
 cases c with
 |sh=>exact Is.mono s d v h.2
 |top=>
  let⟨a,ds,xs,t,e2,r,p,l⟩:=h;subst t;exact⟨a,xs,e2,.of (by rw[aN (k a (by rw[r];exact Vi))];exact p),IsL.mono s ds xs l⟩
 |deep=>exact Deep.is (NL.of s) d v A (λa j o e=>by rw[aN (k a j)];exact e) h
abbrev Sl:=Cat×D
abbrev Ev:=List (Option Sl)
abbrev _root_.UX:=Option Sl
abbrev _root_.UU:=Ev->Option (Sl×Ev)
abbrev _root_.xx:=List D->Option Sl
structure Bs where
 H:Hp
 O:U5
structure EnvOk(K:Frag)(B:Bs)(O:U5)(σ:St)(H:Hp)(Y:Ev):Prop where
 same:Same B.H H
 bdom:∀b,B.O b=true->B.H b≠none
 sub:∀b,B.O b=true->O b=true
 lis:∀b,O b=true->Hid (H b)
 len:σ.length=Y.length
 fp:∃F:Nat->List Addr,(∀(i:Nat)(s:Sl),Y[i]?=!(!s)->∃v,σ[i]?=!(!v)/\OwnC K O H s.1 s.2 v (F i))/\
  (∀i,(F i).Nodup)/\(∀i j a,a∈F i->a∈F j->i=j)/\∀i a,a∈F i->O a=true/\B.H a=none
def  mD:U5:=λ_=>false
def mV:msk mD H=H:=by constructor<;>grind
noncomputable def  vw(Y:Ev):Vv:=Y.map λs=>s.map (·.2)
noncomputable def  IV:UX->U9
 |some (.sh,d)=>!d
 |some (_,d)=>if lfD d then !d else none
 |none=>none
def  c9(Y:Ev):Vv:=Y.map IV
def  db(Y:Ev):Ev:=Y.map λs=>s.map λx=>(Cat.sh,x.2)
section
variable{K:Frag}{B:Bs}{O:U5}{σ:St}{H H':Hp}{Y:Ev}
def EnvOk.dom(E:EnvOk K B O σ H Y):∀b,O b=true->H b≠none:=λb h=>(E.lis b h).ne
def EnvOk.nl(E:EnvOk K B O σ H Y):NL H (msk O H):=λb o h q=>by
 cases e:O b with
 |false=>rw[aN e];exact h
 |true=>
  have h':=E.lis b e;rw[h]at h';exact(q h').elim
def EnvOk.grow(E:EnvOk K B O σ H Y)(s:Same H H'):EnvOk K B O σ H' Y where
 same:=E.same.trans s
 bdom:=E.bdom
 sub:=E.sub
 lis:=λb h=>(E.lis b h).same s
 len:=E.len
 fp:=by
  let⟨F,h1,h2,l,j⟩:=E.fp;refine⟨F,λi x q=>?_,h2,l,j⟩;let⟨v,e,o⟩:=h1 i x q;exact⟨v,e,o.frame s.msk λa _ u g=>s _ _ g⟩
def EnvOk.fresh(E:EnvOk K B O σ H Y)(h:H p=none):O p=false:=gk E.dom h
def rc{α g:Type}{f}{l:List (Option α)}{i:Nat}{y:g}(h:(l.map f)[i]?=!(!y)):∃x,l[i]?=!x/\f x=!y:=by grind
def EnvOk.view(E:EnvOk K B O σ H Y):VE K mD σ H (vw Y) where
 lis:=λb h=>by cases h
 len:=by unfold vw;rw[length_map];exact E.len
 sh:=λi d q=>by
  let⟨F,h1,h2,l,j⟩:=E.fp;let⟨x,e,z⟩:=rc q;cases x with
  |none=>cases z
  |some s=>
   cases z;let⟨v,g,o⟩:=h1 i s e;exact⟨v,g,o.is (by rw[mV];exact msk_le) λ_ _=>rfl⟩
def EnvOk.viewS(E:EnvOk K B O σ H Y):VE K O σ H (c9 Y) where
 lis:=E.lis
 len:=by unfold c9;rw[length_map];exact E.len
 sh:=λi d q=>by
  let⟨F,h1,h2,I,C⟩:=E.fp;let⟨x,e,z⟩:=rc q;cases x with
  |none=>cases z
  |some s=>
   let⟨c,j⟩:=s;let⟨v,t,o⟩:=h1 i _ e;refine⟨v,t,?_⟩;cases c with
   |sh=>cases z;exact o.2
   |top=>
    let⟨a,ds,xs,p,_⟩:=o;have g:=z;rw[show j=.lst ds from p]at g;cases g
   |deep=>
    let⟨f,g⟩:=aw (z);subst g;have r:=Deep.lf j v (F i) f o;exact Deep.is (NL.of (Same.refl _)) j v (F i) (λa l=>by rw[r]at l;cases l) o
def EnvOk.frozen(E:EnvOk K B O σ H Y):EnvOk K B B.O σ H (db Y)/\Same (msk O H) (msk B.O H):=by
 have le:Same (msk O H) (msk B.O H):=λb o h=>by
  let⟨h1,h2⟩:=aW h;rw[aN];exact h2;cases e:B.O b with
  |false=>rfl
  |true=>rw[E.sub b e]at h1;cases h1
 refine⟨⟨E.same,E.bdom,λ_ h=>h,λb h=>E.lis b (E.sub b h),by unfold db;rw[length_map];exact E.len,λ_=>[],λi s q=>?_,λ_=>List.nodup_nil,λ_ _ _ h=>(nomatch h),λ_ _ h=>(nomatch h)⟩,le⟩;let⟨F,h1,h2,p,j⟩:=E.fp;let⟨x,e,z⟩:=rc q;cases x with
 |none=>cases z
 |some s'=>
  cases z;let⟨v,l,o⟩:=h1 i _ e;refine⟨v,l,rfl,o.is le λa g=>?_⟩;cases e:B.O a with
  |false=>rfl
  |true=>exact absurd (j i a g).2 (E.bdom a e)
def EnvOk.viewF(E:EnvOk K B O σ H Y):VE K B.O σ H (vw Y):=by
 have h:=E.frozen.1.viewS;have e:c9 (db Y)=vw Y:=by
  unfold c9 db vw;rw[List.map_map];apply List.map_congr_left;intro x _;cases x<;>rfl
 rw[e]at h;exact h
def EnvOk.more(E:EnvOk K B O σ H Y){c:Cat}{d:D}{v:V}{A:List Addr}{g:U5}(s:Same H H')(le:Same (msk O H) (msk g H'))(hO:∀b,g b=true->O b=true\/b∈A)(r:∀b,O b=true->g b=true)(t:∀b∈A,g b=true)
  (U:∀a∈A,Hid (H' a)) (J:A.Nodup) (fr:∀a∈A,H a=none) (h:OwnC K g H' c d v A):EnvOk K B g (σ++[!v]) H' (Y++[!(c,d)]) where
 same:=E.same.trans s
 bdom:=E.bdom
 sub:=λb q=>r b (E.sub b q)
 lis:=λb q=>by
  rcases hO b q with q|q
  .exact(E.lis b q).same s
  .exact U b q
 len:=by rw[length_append,length_append,E.len];rfl
 fp:=by
  let⟨F,h1,h2,h3,C⟩:=E.fp;have no:∀i a,a∈F i->a ∉ A:=λi a I hA=>E.dom a (C i a I).1 (fr a hA);refine⟨λi=>if i=Y.length then A else F i,λi x q=>?_,λi=>?_,λi j a hi l=>?_,λi a hi=>?_⟩
  .by_cases hi:i=Y.length
   .subst hi;rw[getElem?_append_right (le_refl _)]at q;simp at q;subst q;refine⟨v,?_,by simp only[if_true];exact h⟩;rw[getElem?_append_right (Nat.le_of_eq E.len),E.len];simp
   .have p:i<Y.length:=by
     by_cases h:i<Y.length
     .exact h
     .rw[getElem?_append_right (!1)]at q;cases hk:i-Y.length with
      |zero=>omega
      |succ m=>rw[hk]at q;simp at q
    rw[getElem?_append_left p]at q;let⟨w,e,o⟩:=h1 i x q;refine⟨w,?_,?_⟩
    .rw[getElem?_append_left (by rw[E.len];exact p)];exact e
    .simp only[if_neg hi];exact o.frame le λa I u T=>s _ _ T
  .dsimp only;split
   .exact J
   .exact h2 i
  .dsimp only at hi l;split at hi<;>split at l
   .omega
   .exact absurd hi (no j a l)
   .exact absurd l (no i a hi)
   .exact h3 i j a hi l
  .dsimp only at hi;split at hi
   .exact⟨t a hi,E.same.free (fr a hi)⟩
   .exact⟨r a (C i a hi).1,(C i a hi).2⟩
def getElem?_last{α:Type}(l:List α)(x:α):(l++[x])[l.length]?=!x:=by simp
def eU{α:Type}{l}{x}(h:i≠l.length){y:α}(e:(l++[x])[i]?=!y):l[i]?=!y:=by grind
def EnvOk.put{v:V}{s:Sl}(E:EnvOk K B O (σ++[!v]) H (Y++[!s]))(i:Nat):EnvOk K B O (σ.set i (!v)) H (Y.set i (!s)) where
 same:=E.same
 bdom:=E.bdom
 sub:=E.sub
 lis:=E.lis
 len:=by have:=E.len;simp at this⊢;exact this
 fp:=by
  let⟨F,h1,h2,p,r⟩:=E.fp;have len:σ.length=Y.length:=by have:=E.len;simp at this;exact this
  let⟨J,t,I⟩:=h1 Y.length s (getElem?_last _ _);rw[<-len,getElem?_last]at t;cases t;refine⟨λj=>if j=i then F Y.length else if j=Y.length then[]else F j,λj x q=>?_,λj=>?_,λj k a g l=>?_,λj a g=>?_⟩
  .rcases get_set_some q with⟨e,o⟩|⟨e,o⟩
   .cases o;subst e;have hi:j<σ.length:=by rw[len];exact qa q
    exact⟨v,by simp[hi],by simp only[if_true];exact I⟩
   .have g:j≠Y.length:=by
     have:=(Vh.mp o).1;omega
    let⟨w,e2,C⟩:=h1 j x (by rw[getElem?_append_left (List.getElem?_eq_some_iff.mp o).1];exact o);refine⟨w,?_,by simp only[if_neg e,if_neg g];exact C⟩;rw[List.getElem?_set_ne (Ne.symm e)];exact eU (by rw[len];exact g) e2
  .dsimp only;split
   .exact h2 _
   .split
    .exact List.nodup_nil
    .exact h2 _
  .dsimp only at g l;split at g
   .split at l
    .omega
    .split at l
     .cases l
     .have:=p _ _ a g l;omega
   .split at g
    .cases g
    .split at l
     .have:=p _ _ a g l;omega
     .split at l
      .cases l
      .exact p _ _ a g l
  .dsimp only at g;split at g
   .exact r _ a g
   .split at g
    .cases g
    .exact r _ a g
def EnvOk.drop{v:V}{s:Sl}(E:EnvOk K B O (σ++[!v]) H (Y++[!s])):EnvOk K B O σ H Y where
 same:=E.same
 bdom:=E.bdom
 sub:=E.sub
 lis:=E.lis
 len:=by have:=E.len;simp at this;exact this
 fp:=by
  let⟨F,h1,h2,p,o⟩:=E.fp;have len:σ.length=Y.length:=by have:=E.len;simp at this;exact this
  refine⟨F,λj x q=>?_,h2,p,o⟩;have l:=(Vh.mp q).1;let⟨w,e2,g⟩:=h1 j x (by rw[getElem?_append_left l];exact q);exact⟨w,eU (!1) e2,g⟩
def EnvOk.setSh(E:EnvOk K B O σ H Y)(h:Is K (msk O H) d v):EnvOk K B O (σ.set i (!v)) H (Y.set i (!(.sh,d))):=
 (E.more (c:=.sh) (A:=[]) (Same.refl _) (Same.refl _) (λ_ h=>.inl h) (λ_ h=>h) (λ_ h=>(nomatch h)) (λ_ h=>(nomatch h)) List.nodup_nil (λ_ h=>(nomatch h)) ⟨rfl,h⟩).put i
end
mutual
theorem Deep.lists{K:Frag}{M H:Hp}:∀(d:D)(v:V)(A:List Addr),Deep K M H d v A->∀a∈A,Hid (H a)
 |.non,_,_,h,_,q=>by rw[h.2]at q;cases q
 |.bl _,_,_,h,_,q=>by rw[h.2]at q;cases q
 |.int _,_,_,h,_,q=>by rw[h.2]at q;cases q
 |.str _,_,_,h,_,q=>by rw[h.2]at q;cases q
 |.ty _,_,_,h,_,q=>by rw[h.2]at q;cases q
 |.adr _,_,_,h,_,q=>by rw[h.2]at q;cases q
 |.tup ds,_,A,⟨a,xs,e,_,l⟩,b,q=>DeepL.lists ds xs A l b q
 |.lst ds,_,A,⟨a,xs,A',e,h,z,l⟩,b,q=>by
  rw[z]at q;rcases mem_cons.mp q with rfl|q
  .exact .inl ⟨xs,h⟩
  .exact DeepL.lists ds xs A' l b q
 |.obj _ _ _,_,_,h,_,_=>h.elim
 |.dct ks ds,_,A,⟨a,kvs,A',e,h,y,z,l⟩,b,q=>by
  rw[z]at q;rcases mem_cons.mp q with rfl|q
  .exact .inr (.inr ⟨kvs,h⟩)
  .exact DeepL.lists ds _ A' l b q
theorem DeepL.lists{K:Frag}{M H:Hp}:∀(ds:U7)(xs:List V)(A:List Addr),DeepL K M H ds xs A->∀a∈A,Hid (H a)
 |[],_,_,h,_,q=>by rw[h.2]at q;cases q
 |d::ds,_,A,⟨x,r,A1,A2,e,z,h,l⟩,b,q=>by
  rw[z]at q;rcases mem_append.mp q with q|q
  .exact Deep.lists d x A1 h b q
  .exact DeepL.lists ds r A2 l b q
end
def DeepL.len{K}:∀{ds:U7}{xs:List V}{A:List Addr},DeepL K M H ds xs A->ds.length=xs.length
 |[],_,_,h=>by rw[h.1];rfl
 |_::_,_,_,⟨x,r,A1,A2,e,z,h,l⟩=>by rw[e,length_cons,length_cons,DeepL.len l]
def DeepL.snoc{K}(h:Deep K M H y v A'):∀{ds:U7}{xs:List V}{A:List Addr},DeepL K M H ds xs A->DeepL K M H (ds++[y]) (xs++[v]) (A++A')
 |[],_,_,l=>by
  rw[l.1,l.2];exact⟨v,[],A',[],rfl,by simp,h,rfl,rfl⟩
 |d::ds,_,_,⟨x,r,A1,A2,e,z,q,l⟩=>by
  rw[e,z];exact⟨x,r++[v],A1,A2++A',rfl,by rw[List.append_assoc],q,DeepL.snoc h l⟩
def  PU(X:Cx)(e:Expr)(t:TE):Prop:=PE X e t/\∀(i:Nat)(x:Str)(px spos:Pos),X.N.Nodup->X.N[i]?=!x->X.env.scope.names.lookup x=some .local->
 swapsWith e (!(.Name x px)) spos.line X.env=pure true->PS X (.Assign [.Name x px] e spos) (zP t (sL i))
def PU.imp(h:PU X e t)(k:∀σ H Q,j σ H Q->t σ H Q):PU X e j:=
 ⟨h.1.imp k,λi x l g a b c d=>(h.2 i x l g a b c d).imp λo σ H q=>k σ H _ q⟩
def PE.by2(h1:PE X e j)(h2:PE X e g)(k:∀σ H Q,t σ H Q->j σ H Q\/g σ H Q):PE X e t:=λpins s σ H Q I q=>(k σ H Q q).elim (h1 pins s σ H Q I) (h2 pins s σ H Q I)
def PS.by2(h1:PS X e l)(h2:PS X e j)(k:∀g σ H,t g σ H->l g σ H\/j g σ H):PS X e t:=λpins s σ H Q I q=>(k Q σ H q).elim (h1 pins s σ H Q I) (h2 pins s σ H Q I)
def PU.by2(h1:PU X e o)(h2:PU X e l)(k:∀σ H Q,t σ H Q->o σ H Q\/l σ H Q):PU X e t:=
 ⟨h1.1.by2 h2.1 k,λi x j g a b c d=>(h1.2 i x j g a b c d).by2 (h2.2 i x j g a b c d) λp σ H q=>k σ H _ q⟩
def PU.ex{j:Type}{t:j->TE}(h:∀z,PU X e (t z)):PU X e (λσ H Q=>∃z,t z σ H Q):=
 ⟨PE.ex λz=>(h z).1,λi x l g a b c d pins s σ H D I ⟨z,q⟩=>(h z).2 i x l g a b c d pins s σ H D I q⟩
noncomputable def  iK:Expr->Bool
 |.ListComp _ _ _ _=>true
 |.SetComp _ _ _ _=>true
 |.DictComp _ _ _ _ _=>true
 |_=>false
def nR(h:iK e=false)(t:Option Expr)(l:Nat)(env:Env):swapsWith e t l env=pure false:=by
 cases e<;>first|rfl|cases h
def PE.pu(h:PE X e t)(l:iK e=false):PU X e t:=⟨h,λi x o g _ _ _ q=>by
 rw[nR l]at q;have j:=q;cases j⟩
def w9(I:X.calm=true)(S:CSc X scope ks)(hi:PI X tg iter J)(r:∀C s H fp,PG (!12) tg g)(j:∀C s H fp,PTs (!12) ifs tt)(t:∀C s H fp,PE (!12) elt te)(p:∀x,foldedSetIterable iter X.env x=pure x):PU X (!9) (s0 J ks g tt te):=
 ⟨D7 I S hi r j t p,λi x px o hN T U l=>D8 hN T U I S hi r j t l p⟩
def  MQ(K:Frag)(Y:Vv)(o:U9):TE:=λσ H Q=>VE K mD σ H Y/\∃d,o=!d/\∀v H' A,Same H H'->Deep K H' H' d v A->A.Nodup->(∀a∈A,H a=none)->Q v H'
def  QL(K:Frag)(Y:Vv)(o:UY):TA:=λσ H Q=>VE K mD σ H Y/\∃ds,o=!ds/\∀vs H' A,Same H H'->DeepL K H' H' ds vs A->A.Nodup->(∀a∈A,H a=none)->Q vs H'
def  tK(X:Cx)(e:Expr)(f:UR):Prop:=∀Y,PU X e (MQ X.K Y (f Y))
def  vq(X:Cx)(es:U8)(f:UQ):Prop:=∀Y,PA X es (QL X.K Y (f Y))
def  PPu(X:Cx)(e:Expr)(f:UR):Prop:=∀O Y,PU X e (tP X.K O Y (f Y))
def  PFu(X:Cx)(e:Expr)(f:UQ):Prop:=∀O Y,PU X e (Mn X.K O Y (f Y))
section
variable{X:Cx}{e:Expr}{es:U8}{pos:Pos}
def  sC(o:U9):U9:=o.bind λd=>if lfD d then !d else none
def  jm(o:UY):U9:=o.bind λds=>if cF ds then !(.lst ds)else none
def IW{K}(h:MQ K Y (sC o) σ H Q):tP K mD Y o σ H Q:=by
 let⟨E,d,e,k⟩:=h;let⟨g,l,e2⟩:=VA e;let⟨f,j⟩:=aw e2;subst j;refine⟨E,g,l,λv H' s i=>k v H' [] s ?_ List.nodup_nil λ_ q=>(nomatch q)⟩;exact Is.deep g v f i
def Ex{K}(h:MQ K Y (jm o) σ H Q):Mn K mD Y o σ H Q:=by
 let⟨E,d,e,k⟩:=h;let⟨ds,t,e2⟩:=VA e;let⟨f,r⟩:=aw e2;subst r;refine⟨E,ds,t,λp xs H' s g l=>?_⟩;refine k _ _ [p] (s.trans (Same.new g)) ⟨p,xs,[],rfl,ai,rfl,?_⟩ (by simp) λa j=>?_
 .exact DeepL.frame (NL.of (Same.new g)) ds xs [] (λ_ q=>(nomatch q)) (IsL.deep (H:=H') ds xs f l)
 .rw[mem_singleton.mp j];exact s.free g
def MR(h:PPu X e f):tK X e (λY=>sC (f Y)):=λY=>(h mD Y).imp λσ H Q q=>IW q
def AU(h:PFu X e f):tK X e (λY=>jm (f Y)):=λY=>(h mD Y).imp λσ H Q q=>Ex q
noncomputable def  a8{α β:Type}(f g:α->Option β):α->Option β:=λx=>match f x with|some y=>!y|none=>g x
def or_some{x:α}{y:j}(h:a8 f g x=!y):f x=!y\/g x=!y:=by grind [a8]
def Hj(h1:tK X e f)(h2:tK X e g):tK X e (a8 f g):=λY=>(h1 Y).by2 (h2 Y) λσ H Q ⟨E,d,q,k⟩=>by
 rcases or_some q with q|q;all_goals grind
def tL:tK X e (λ_=>none):=λY=>⟨λ_ _ _ _ _ _ ⟨_,_,q,_⟩=>(by cases q),λ_ _ _ _ _ _ _ _ _ _ _ _ _ _ ⟨_,_,q,_⟩=>(by cases q)⟩
def re:PPu X e (λ_=>none):=λO Y=>⟨λ_ _ _ _ _ _ ⟨_,_,q,_⟩=>(by cases q),λ_ _ _ _ _ _ _ _ _ _ _ _ _ _ ⟨_,_,q,_⟩=>(by cases q)⟩
def dc:PFu X e (λ_=>none):=λO Y=>⟨λ_ _ _ _ _ _ ⟨_,_,q,_⟩=>(by cases q),λ_ _ _ _ _ _ _ _ _ _ _ _ _ _ ⟨_,_,q,_⟩=>(by cases q)⟩
def vt(h1:PPu X e f)(h2:PPu X e g):PPu X e (a8 f g):=λO Y=>(h1 O Y).by2 (h2 O Y) λσ H Q ⟨E,d,q,k⟩=>by
 rcases or_some q with q|q;all_goals grind
def Ey:vq X [] (λ_=>![]):=λY=>pa_nil.imp λσ H Q ⟨E,ds,e,k⟩=>by
 cases e;exact k [] H [] (Same.refl _) ⟨rfl,rfl⟩ List.nodup_nil λ_ q=>(nomatch q)
def Deep.have{K}(h:Deep K M H d v A)(q:a∈A):H a≠none:=by
 exact(Deep.lists d v A h a q).ne
def frs_cons(h:tK X e f)(hr:vq X es g)(hs:starEach (e::es) X.env=(false,eval e X.env)::starEach es X.env):vq X (e::es) (ac f g):=
 λY=>(dm (h Y).1 (hr Y) hs).imp λσ H Q ⟨E,ds,q,k⟩=>by
 let⟨d,e1,q⟩:=VA q
 let⟨r,e2,q⟩:=VA q
 cases q
 refine⟨E,d,e1,λv H1 C p t T f1=>⟨E.grow p,r,e2,λI H2 A2 l U J f2=>k _ H2 _ (p.trans l) ⟨v,I,C,A2,rfl,rfl,Deep.frame (NL.of l) d v C (λa _ o h=>l _ _ h) t,U⟩ ?_ ?_⟩⟩
 .refine List.nodup_append.mpr ⟨T,J,λa j b hb z=>?_⟩;subst z;exact t.have j (f2 a hb)
 .intro a j;rcases mem_append.mp j with j|j
  .exact f1 a j
  .exact p.free (f2 a j)
def IX(h:vq X es g):tK X (.List es pos) (λY=>(bJ (g Y)).bind λds=>!(.lst ds)):=λY=>PE.pu ((Ab (h Y)).imp λσ H Q ⟨E,d,q,k⟩=>by
 let⟨ds,z,J⟩:=VA q;cases J;let⟨T,e2⟩:=da z;refine⟨E,ds,T,λr H1 A I l n f=>⟨by rw[<-l.len];exact Vu e2,λp j=>?_⟩⟩;have t:p ∉ A:=λz=>by
  exact(DeepL.lists ds r A l p z).ne (j)
 refine k _ _ _ (I.trans (Same.new j)) ⟨p,r,A,rfl,ai,rfl,DeepL.frame (NL.of (Same.new j)) ds r A (λa _ o h=>Same.new j _ _ h) l⟩ (List.nodup_cons.mpr ⟨t,n⟩) λa C=>?_;rcases mem_cons.mp C with rfl|C
 .exact I.free j
 .exact f a C) rfl
def IY{x1}(h:vq X es g):tK X (.Tuple es x1 pos) (λY=>(bJ (g Y)).bind λds=>!(.tup ds)):=λY=>PE.pu ((Aa (h Y)).imp λσ H Q ⟨E,d,q,k⟩=>by
 let⟨ds,z,C⟩:=VA q;cases C;let⟨I,e2⟩:=da z;refine⟨E,ds,I,λr H1 A t l n f=>⟨by rw[<-l.len];exact Vu e2,λp j=>?_⟩⟩;exact k _ _ A (t.trans (Same.new j)) ⟨p,r,rfl,.inl ai,DeepL.frame (NL.of (Same.new j)) ds r A (λa _ o h=>Same.new j _ _ h) l⟩ n f) rfl
abbrev Ue(K:Frag)(f:UR):TE:=λσ H Q=>∃z:Vv,MQ K z (f z) σ H Q
def vx{K}(h:MQ K Y ((af ks fi g ft fe Y).bind λds=>!(.lst ds)) σ H Q):
  s0 (tJ K mD Y (fi Y)) ks (xG K ks g) (xT K ft) (Ue K fe) σ H Q:=by
 let⟨E,d,ee,k⟩:=h
 let⟨l,ef,ed⟩:=VA ee
 cases ed
 let⟨ds,e1,e⟩:=VA ef
 let⟨e2,hz⟩:=da e
 refine⟨E,ds,e1,λJ H1 s1 it=>⟨λi m ys H2=>i<=ds.length/\m=ds.length-i/\Same H1 H2/\∃C rest A,DeepL K H2 H2 C ys A/\A.Nodup/\(∀a∈A,H a=none)/\jG _ (ds.drop i)=!rest/\l=C++rest,
  ⟨ds.length,Nat.zero_le _,by simp,Same.refl _,[],l,[],⟨rfl,rfl⟩,List.nodup_nil,λ_ q=>(nomatch q),by simpa using e2,rfl⟩,?_⟩⟩
 rintro i m ys H2 ⟨hi,rfl,s2,C,rest,A,il,nd,fr,T,et⟩
 have E2:=E.grow (s1.trans s2)
 have hit:=it i H2 mD s2.msk E2.dom
 have U:ys.length<sizeLine:=by
  rw[<-il.len];have:C.length<=l.length:=by rw[et,length_append];omega
  omega
 by_cases I:i<ds.length
 .refine .inr ?_;have hd:=getElem?_eq_getElem I;let⟨go,yl⟩:=hit.1 _ hd;refine⟨go,U,λx H3 hy=>?_⟩;let⟨s3,ix⟩:=yl x H3 hy;rw[List.drop_eq_getElem_cons I]at T;let⟨o,eo,T⟩:=VA (T);let⟨r,er',T⟩:=VA T;let⟨Y1,g1,eo⟩:=VA eo;let⟨c,c1,eo⟩:=VA eo;refine⟨⟨mD,gj ks Y,ds[i]⟩,(E2.grow s3).wiped ks,ix,Y1,g1,λσ4 E4 l4 k4=>⟨⟨l4,λj w hw=>?_⟩,⟨mD,Y1⟩,E4,c,c1,λH5 s5=>?_⟩⟩
  .exact k4 j w (wipe_iff.mp hw).2 hw
  .have hm:ds.length-(i+1)<ds.length-i:=by omega
   cases c with
   |true=>
    refine Iu ?_;let⟨y,y1,eo⟩:=VA eo;cases eo;refine⟨Y1,E4.grow s5,y,y1,λv H6 A' s6 iv nv fv=>⟨_,hm,I,rfl,s2.trans (s3.trans (s5.trans s6)),C++[y],r,A++A',?_,?_,?_,er',?_⟩⟩
    .have s36:=s3.trans (s5.trans s6);have il':=DeepL.frame (NL.of s36) C ys A (λa _ o h=>s36 _ _ h) il;exact DeepL.snoc iv il'
    .refine List.nodup_append.mpr ⟨nd,nv,λa t b hb z=>?_⟩;subst z;exact((DeepL.lists C ys A il a t).same (s3.trans s5)).ne (fv a hb)
    .intro a t;rcases mem_append.mp t with t|t
     .exact fr a t
     .exact(s1.trans (s2.trans (s3.trans s5))).free (fv a t)
    .rw[et,<-Option.some.inj T,List.append_assoc];rfl
   |false=>
    refine Ir ?_;cases eo;have s35:=s3.trans s5;refine⟨_,hm,I,rfl,s2.trans s35,C,r,A,DeepL.frame (NL.of s35) C ys A (λa _ o h=>s35 _ _ h) il,nd,fr,er',?_⟩;rw[et,<-Option.some.inj T]
 .have hie:i=ds.length:=by omega
  subst hie;refine .inl ⟨hit.2 (Vy _),Vu U,λp hp=>?_⟩;rw[List.drop_of_length_le (le_refl _)]at T;cases T;rw[List.append_nil]at et;subst et;have hpA:p ∉ A:=λz=>by
   exact(DeepL.lists l ys A il p z).ne (hp)
  refine k _ _ _ (s1.trans (s2.trans (Same.new hp))) ⟨p,ys,A,rfl,ai,rfl,DeepL.frame (NL.of (Same.new hp)) l ys A (λa _ o h=>Same.new hp _ _ h) il⟩ (List.nodup_cons.mpr ⟨hpA,nd⟩) λa t=>?_;rcases mem_cons.mp t with rfl|t
  .exact(s1.trans s2).free hp
  .exact fr a t
end
def  SD(K:Frag)(B:Bs)(O:U5)(Y:Ev)(o:Option (Sl×Ev)):TE:=λσ H Q=>EnvOk K B O σ H Y/\∃s Y',o=!(s,Y')/\∀v H' O',Same (msk O H) (msk O' H')->EnvOk K B O' (σ++[!v]) H' (Y'++[!s])->Q v H'
def  pE(X:Cx)(e:Expr)(g:UU):Prop:=∀B O Y,PU X e (SD X.K B O Y (g Y))
section
variable{X:Cx}{e:Expr}
def  mE(f:UR):UU:=λY=>(f (vw Y)).bind λd=>!((.deep,d),Y)
def  qk(f:UQ):UU:=λY=>(f (c9 Y)).bind λds=>!((.top,.lst ds),Y)
def  vz(f:UR):UU:=λY=>(f (c9 Y)).bind λd=>!((.sh,d),Y)
def  Ez(f:UR):UU:=λY=>(f (vw Y)).bind λd=>!((.sh,d),db Y)
def Hk(h:tK X e f):pE X e (mE f):=λB O Y=>(h (vw Y)).imp λσ H Q ⟨E,s,Y',q,k⟩=>by
 let⟨d,l,j⟩:=VA q;cases j;refine⟨E.view,d,l,λv H' A s i n f=>?_⟩;have p:=Deep.lists d v A i;have t:∀b,(O b||decide (b∈A))=true->Hid (H' b):=λb g=>by
  rcases(Bool.or_eq_true _ _).mp g with g|g
  .exact(E.lis b g).same s
  .exact p b (Vk g)
 have le:Same (msk O H) (msk (λb=>O b||decide (b∈A)) H'):=λb o q=>by
  let⟨l,j⟩:=aW q;have g:b ∉ A:=λz=>by rw[f b z]at j;cases j
  rw[aN (by simp[l,g])];exact s _ _ j
 refine k v H' _ le (E.more s le (λb g=>?_) (λb g=>by simp[g]) (λb g=>by simp[g]) p n f ?_)
 .rcases(Bool.or_eq_true _ _).mp g with g|g
  .exact .inl g
  .exact .inr (Vk g)
 .refine Deep.frame (λb o g r=>?_) d v A (λa _ o h=>h) i;cases z:(O b||decide (b∈A))with
  |false=>rw[aN z];exact g
  |true=>
   have e:=t b z;rw[g]at e;exact(r e).elim
def AV(h:PFu X e f):pE X e (qk f):=λB O Y=>(h O _).imp λσ H Q ⟨E,s,Y',q,k⟩=>by
 let⟨ds,r,j⟩:=VA q;cases j;refine⟨E.viewS,ds,r,λp xs H' s t l=>?_⟩;have le:Same (msk O H') (msk (λb=>O b||decide (b=p)) (upd H' p (.lst xs))):=λb o q=>by
  let⟨r,j⟩:=aW q;have g:=ak j t;rw[aN (by simp[r,g]),ae g];exact j
 refine k _ _ _ (s.msk.trans le) ((E.grow s).more (Same.new t) le (λb g=>?_) (λb g=>by simp[g]) (λb g=>by simp[mem_singleton.mp g]) (λa C=>?_) (by simp) (λa C=>by rw[mem_singleton.mp C];exact t) ⟨p,ds,xs,rfl,rfl,rfl,ai,IsL.mono le ds xs l⟩)
 .rcases(Bool.or_eq_true _ _).mp g with g|g
  .exact .inl g
  .exact .inr (by simp[of_decide_eq_true g])
 .rw[mem_singleton.mp C];exact .inl ⟨xs,ai⟩
def EnvOk.moreSh{K}(E:EnvOk K B O σ H Y)(h:Is K (msk O H) d v):EnvOk K B O (σ++[!v]) H (Y++[!(.sh,d)]):=
 E.more (A:=[]) (Same.refl _) (Same.refl _) (λ_ h=>.inl h) (λ_ h=>h) (λ_ h=>(nomatch h)) (λ_ h=>(nomatch h)) List.nodup_nil (λ_ h=>(nomatch h)) ⟨rfl,h⟩
def Hl(h:PPu X e f):pE X e (vz f):=λB O Y=>(h O _).imp λσ H Q ⟨E,s,Y',q,k⟩=>by
 let⟨d,j,g⟩:=VA q;cases g;exact⟨E.viewS,d,j,λv H' s i=>k v H' O s.msk ((E.grow s).moreSh i)⟩
def MS(h:PPu X e f):pE X e (Ez f):=λB O Y=>(h B.O (vw Y)).imp λσ H Q ⟨E,s,Y',q,k⟩=>by
 let⟨d,j,g⟩:=VA q;cases g;let⟨l,le⟩:=E.frozen;exact⟨E.viewF,d,j,λv H' s i=>k v H' B.O (le.trans s.msk) ((l.grow s).moreSh i)⟩
def xa(h1:pE X e f)(h2:pE X e g):pE X e (a8 f g):=λB O Y=>(h1 B O Y).by2 (h2 B O Y) λσ H Q ⟨E,s,Y',q,k⟩=>by
 rcases or_some q with q|q;all_goals grind
end
inductive Out where
 |nx (Y:Ev)
 |rt (s:Sl)
 |bk (Y:Ev)
 |ct (Y:Ev)
abbrev _root_.US:=Ev->Option Out
def  RetOk(K:Frag)(B:Bs)(H':Hp)(s:Sl)(v:V):Prop:=∃(O':U5)(A:List Addr),Same B.H H'/\(∀b,B.O b=true->O' b=true)/\(∀b,O' b=true->Hid (H' b))/\A.Nodup/\(∀a∈A,O' a=true/\B.H a=none)/\OwnC K O' H' s.1 s.2 v A
def  post(K:Frag)(B:Bs)(O:U5)(H:Hp)(En:Ends):Out->Prop
 |.nx Y=>∀σ' H' O',Same (msk O H) (msk O' H')->EnvOk K B O' σ' H' Y->En.nx σ' H'
 |.bk Y=>∀σ' H' O',Same (msk O H) (msk O' H')->EnvOk K B O' σ' H' Y->En.bk σ' H'
 |.ct Y=>∀σ' H' O',Same (msk O H) (msk O' H')->EnvOk K B O' σ' H' Y->En.ct σ' H'
 |.rt s=>∀v H',RetOk K B H' s v->En.rt v H'
def post.mono{K}(s:Same (msk O H) (msk l H1)):∀{o:Out},post K B O H p o->post K B l H1 p o
 |.nx _,h=>λg H' j s' E=>h g H' j (s.trans s') E
 |.bk _,h=>λg H' j s' E=>h g H' j (s.trans s') E
 |.ct _,h=>λg H' j s' E=>h g H' j (s.trans s') E
 |.rt _,h=>h
def  tS(K:Frag)(B:Bs)(O:U5)(Y:Ev)(o:Option Out):TS:=λEn σ H=>EnvOk K B O σ H Y/\∃out,o=!out/\post K B O H En out
def  PR(X:Cx)(st:Stmt)(F:US):Prop:=∀B O Y,PS X st (tS X.K B O Y (F Y))
def  zD(X:Cx)(st:List Stmt)(F:US):Prop:=∀B O Y,PSs X st (tS X.K B O Y (F Y))
section
variable{X:Cx}{st:Stmt}{rest:List Stmt}{e:Expr}{pos:Pos}
def AW:zD X [] (λY=>!(.nx Y)):=λB O Y=>pss_nil.imp λg σ H ⟨E,o,q,k⟩=>by
 cases q;exact k σ H O (Same.refl _) E
noncomputable def  ab(F G:US):US:=λY=>(F Y).bind λo=>match o with|.nx Y'=>G Y'|o=>!o
def xc(h1:PR X st F)(h2:zD X rest G):zD X (st::rest) (ab F G):=λB O Y=>
 (gi (h1 B O Y) (PSs.ex λz:(U5)×Ev=>h2 B z.1 z.2)).imp λC σ H ⟨E,o,q,k⟩=>by
 let⟨j,p,g⟩:=VA q;refine⟨E,j,p,?_⟩;cases j with
 |nx Y'=>exactλl H' r s' t=>⟨⟨r,Y'⟩,t,o,g,k.mono s'⟩
 |rt d=>cases g;exact k
 |bk Y'=>cases g;exact k
 |ct Y'=>cases g;exact k
def AX:zD X rest (λ_=>none):=λB O Y=>pss_never.imp λg σ H ⟨E,o,q,k⟩=>by cases q
def tM:PR X st (λ_=>none):=λB O Y=>ps_never.imp λg σ H ⟨E,o,q,k⟩=>by cases q
def EA:PR X (.Pass pos) (λY=>!(.nx Y)):=λB O Y=>ps_pass.imp λg σ H ⟨E,o,q,k⟩=>by
 cases q;exact k σ H O (Same.refl _) E
def IZ:PR X (.Expr (.Constant (.str x) j pos) pos') (λY=>!(.nx Y)):=λB O Y=>ps_doc.imp λg σ H ⟨E,o,q,k⟩=>by
 cases q;exact k σ H O (Same.refl _) E
def  dO(g:UU):US:=λY=>(g Y).bind λz=>!(.rt z.1)
def EnvOk.ret{K}(E:EnvOk K B O σ H Y){i:Nat}(h:Y[i]?=!(!s))(g:σ[i]?=!(!v)):RetOk K B H s v:=by
 let⟨F,h1,h2,p,j⟩:=E.fp;let⟨l,e,o⟩:=h1 i s h;rw[g]at e;cases e;exact⟨O,F i,E.same,E.sub,E.lis,h2 i,j i,o⟩
def vA(h:pE X e g):PR X (.Return (!e) pos) (dO g):=λB O Y=>(zL (h B O Y).1).imp λt σ H ⟨E,o,q,k⟩=>by
 let⟨⟨s,Y'⟩,p,l⟩:=VA q;cases l;refine⟨E,s,Y',p,λv H' r s' j=>k v H' ?_⟩;have len:σ.length=Y'.length:=by have:=j.len;simp at this;exact this
 exact j.ret (getElem?_last _ _) (by rw[<-len];exact getElem?_last _ _)
def EB:PR X (.Return none pos) (λ_=>!(.rt (.deep,.non))):=λB O Y=>ps_retN.imp λg σ H ⟨E,o,q,k⟩=>by
 cases q;exact k .non H ⟨O,[],E.same,E.sub,E.lis,List.nodup_nil,λ_ h=>(nomatch h),rfl,rfl⟩
noncomputable def  gJ(Y:Ev)(i:Nat):UX:=match Y[i]? with
 |some (!s)=>!s
 |_=>none
def de(h:gJ Y i=!s):Y[i]?=!(!s):=by
 unfold gJ at h;grind
def vB(i:Nat)(r:X.N[i]?=!x)(p:pQ X.env.scope x)(hd:(!6)=false)(g:(!14)=false):PR X (.Return (!(.Name x t)) pos) (λY=>(gJ Y i).bind λs=>!(.rt s)):=λB O Y=>(zL (bK r p hd g)).imp λJ σ H ⟨E,o,q,k⟩=>by
 let⟨s,j,l⟩:=VA q;cases l;let⟨F,h1,h2,I,C⟩:=E.fp;let⟨v,e,o⟩:=h1 i s (de j);exact⟨v,e,k v H (E.ret (de j) e)⟩
def  av(i:Nat)(g:UU):US:=λY=>(g Y).bind λz=>!(.nx (z.2.set i (!z.1)))
def xf{K}(h:tS K B O Y (av i g Y) r σ H):zP (SD K B O Y (g Y)) (sL i) r σ H:=by
 let⟨E,o,q,k⟩:=h;let⟨⟨s,Y'⟩,l,j⟩:=VA q;cases j;exact⟨E,s,Y',l,λv H' p s' t=>k _ H' p s' (t.put i)⟩
def I0(l:X.N.Nodup)(hi:X.N[i]?=!x)(o:DB X.env.scope x)(h:pE X e g)(r:X.fn x=true\/X.env.scope.names.lookup x=some .local)(j:swapsWith e (!(.Name x pos')) pos.line X.env=pure false\/(swapsWith e (!(.Name x pos')) pos.line X.env=pure true/\X.env.scope.names.lookup x=some .local)):PR X (.Assign [.Name x pos'] e pos) (av i g):=λB O Y=>by
 rcases j with j|⟨j,p⟩
 .exact(Ib l hi o (h B O Y).1 j r).imp λt σ H h=>xf h
 .exact((h B O Y).2 i x pos' pos l hi p j).imp λt σ H h=>xf h
def  jH(f:UR):US:=λY=>(f (vw Y)).bind λ_=>!(.nx Y)
def EC(h:PP X e f)(l:swapsWith e none pos.line X.env=pure false):PR X (.Expr e pos) (jH f):=λB O Y=>(ek (h mD (vw Y)) l).imp λr σ H ⟨E,o,q,k⟩=>by
 let⟨d,j,g⟩:=VA q;cases g;exact⟨E.view,d,j,λv H' s' p=>k σ H' O s'.msk (E.grow s')⟩
def  eV(fc:UT)(F G:US):US:=λY=>(fc (vw Y)).bind λc=>if c=true then F Y else G Y
def MU(l:PQ X c t)(r:zD X a F)(p:zD X b G):PR X (.If c a b pos) (eV t F G):=λB O Y=>(LR (l mD (vw Y)) (r B O Y) (p B O Y)).imp λC σ H ⟨E,o,q,k⟩=>by
 let⟨c,j,g⟩:=VA q;refine⟨E.view,c,j,λH' s'=>?_⟩;cases c with
 |true=>rw[if_pos rfl]at g;exact Iu ⟨E.grow s',o,g,k.mono s'.msk⟩
 |false=>rw[if_neg Bool.false_ne_true]at g;exact Ir ⟨E.grow s',o,g,k.mono s'.msk⟩
end
def  SF(K:Frag)(B:Bs)(O:U5)(Y:Ev)(d:D)(o:Option Ev):TG:=λv σ H Q=>EnvOk K B O σ H Y/\Is K (msk O H) d v/\∃Y',o=!Y'/\∀σ',EnvOk K B O σ' H Y'->Q σ' H
def  ED(X:Cx)(tg:Expr)(g:D->Ev->Option Ev):Prop:=∀B O Y d,PG X tg (SF X.K B O Y d (g d Y))
def  QM(K:Frag)(B:Bs)(O:U5)(Y:Ev)(ds:U7)(o:Option Ev):GX:=λvs σ H Q=>EnvOk K B O σ H Y/\IsL K (msk O H) ds vs/\∃Y',o=!Y'/\∀σ',EnvOk K B O σ' H Y'->Q σ' H
def  yP(X:Cx)(ts:U8)(g:U7->Ev->Option Ev):Prop:=∀B O Y ds,PGs X ts (QM X.K B O Y ds (g ds Y))
def  dq(i:Nat):D->Ev->Option Ev:=λd Y=>!(Y.set i (!(.sh,d)))
def  mF:U7->Ev->Option Ev:=λds Y=>match ds with|[]=>!Y|_=>none
noncomputable def  cz(g:D->Ev->Option Ev)(gs:U7->Ev->Option Ev):U7->Ev->Option Ev:=λds Y=>match ds with|d::r=>(g d Y).bind λY1=>gs r Y1|_=>none
noncomputable def  zE(n:Nat)(gs:U7->Ev->Option Ev):D->Ev->Option Ev:=λd Y=>match d with|.tup ds=>if ds.length=n then gs ds Y else none|_=>none
section
variable{X:Cx}{e tg iter:Expr}{pos:Pos}
def EF(o:X.N.Nodup)(hi:X.N[i]?=!x)(j:DB X.env.scope x)(l:X.fn x=true\/X.env.scope.names.lookup x=some .local):ED X (.Name x pos) (dq i):=
 λB O Y d=>(qM o hi j l).imp λv σ H Q ⟨E,g,Y',e,k⟩=>by
 cases e
 exact k _ (E.setSh g)
def EG:yP X [] mF:=λB O Y ds=>pgs_nil.imp λj σ H Q ⟨E,g,Y',e,k⟩=>by
 cases ds with
 |nil=>cases e;exact⟨g,k σ E⟩
 |cons _ _=>cases e
def gse_cons(h1:ED X e g)(h2:yP X o gs)(U:(assignEach (e::o) X.env).map (·.2)=assign e X.env::(assignEach o X.env).map (·.2)):yP X (e::o) (cz g gs):=λB O Y ds=>by
 cases ds with
 |nil=>exactλpins s σ H C us Q I r ⟨_,_,Y',e,_⟩=>by cases e
 |cons d r=>
  refine(sM (h1 B O Y d) (PGs.ex λz:Ev=>h2 B O z r) U).imp λC σ H Q ⟨E,⟨x,t,z,J,T⟩,Y',e,k⟩=>?_;let⟨j,e1,e2⟩:=VA (e);exact⟨x,t,z,E,J,j,e1,λp E1=>⟨j,E1,T,Y',e2,λl E2=>k l E2⟩⟩
def Ja(I:X.calm=true)(h:yP X g p)(C:(assignEach g X.env).length=n)(j:(assignEach g X.env).findIdx? (·.1)=none):ED X (.Tuple g k pos) (zE n p):=λB O Y d=>by
 refine(zN I (PGs.ex λz:U7=>h B O Y z) C j).imp λv σ H Q ⟨E,r,Y',e,k⟩=>?_;cases d with
 |tup ds=>
  let⟨a,xs,rfl,t,o⟩:=r;have l:(if ds.length=n then p ds Y else none)=!Y':=e;split at l
  .exact⟨a,xs,rfl,msk_le.seqT t,by rw[<-o.len];assumption,ds,E,o,Y',l,k⟩
  .cases l
 |_=>cases e
noncomputable def  rg(step:D->US):U7->US
 |[],Y=>!(.nx Y)
 |d::ds,Y=>(step d Y).bind λo=>match o with
  |.nx Y'=>rg step ds Y'
  |.ct Y'=>rg step ds Y'
  |.bk Y'=>!(.nx Y')
  |.rt v=>!(.rt v)
def  EH(g:D->Ev->Option Ev)(F:US):D->US:=λd Y=>(g d Y).bind F
def  iL(fi:UQ)(g:D->Ev->Option Ev)(F:US):US:=λY=>(fi (c9 Y)).bind λds=>rg (EH g F) ds Y
def  AY(fi:UQ)(g:D->Ev->Option Ev)(F:US):US:=λY=>(fi (vw Y)).bind λds=>rg (EH g F) ds (db Y)
def xg{K}(E:EnvOk K B O σ H Y)(V:VE K O σ H Yv)(q:(o.bind λds=>rg (EH g F) ds Y)=!out)(k:post K B O H En out):
  LV (tJ K O Yv o) (λv σ H Q=>∃z:(U5)×Ev×D,SF K B z.1 z.2.1 z.2.2 (g z.2.2 z.2.1) v σ H Q) (λEn σ H=>∃z:(U5)×Ev,tS K B z.1 z.2 (F z.2) En σ H) En σ H:=by
 let⟨ds,q1,q⟩:=VA q
 refine⟨V,ds,q1,λJ H1 s1 it=>⟨λi m j H'=>i<=ds.length/\m=ds.length-i/\∃O' Y',Same _ (msk O' H')/\EnvOk K B O' j H' Y'/\rg _ (ds.drop i) Y'=!out,
  ⟨ds.length,Nat.zero_le _,by simp,O,Y,Same.refl _,E.grow s1,by simpa using q⟩,?_⟩⟩
 rintro i m σ2 H2 ⟨hi,rfl,U,Y2,s2,E2,e2⟩
 have hit:=it i H2 U s2 E2.dom
 by_cases p:i<ds.length
 .refine .inr ?_;have hd:=getElem?_eq_getElem p;let⟨go,yl⟩:=hit.1 _ hd;refine⟨go,λj H'=>i+1<=ds.length/\∃O' Y',Same _ _/\EnvOk K B O' j H' Y'/\rg _ _ Y'=!out,λj H' ⟨a,b⟩=>⟨ds.length-(i+1),by omega,a,rfl,b⟩,λx H3 hy=>?_⟩;let⟨s3,ix⟩:=yl x H3 hy;rw[List.drop_eq_getElem_cons p]at e2;let⟨o1,e3,T⟩:=VA (e2);let⟨t,g3,f3⟩:=VA e3;refine⟨⟨U,Y2,ds[i]⟩,E2.grow s3,ix,t,g3,λσ4 E4=>⟨⟨U,t⟩,E4,o1,f3,?_⟩⟩;have s4:=s2.trans s3.msk;cases o1 with
  |nx l=>exactλr H5 C s5 I=>⟨p,C,l,s4.trans s5,I,T⟩
  |ct l=>exactλr H5 C s5 I=>⟨p,C,l,s4.trans s5,I,T⟩
  |bk l=>
   cases T;exactλr H5 C s5 I=>k r H5 C (s1.msk.trans (s4.trans s5)) I
  |rt d=>
   cases T;exact k
 .have hie:i=ds.length:=by omega
  subst hie;rw[List.drop_of_length_le (le_refl _)]at e2;cases e2;exact .inl ⟨hit.2 (Vy _),k σ2 H2 U (s1.msk.trans s2) E2⟩
def Jb(l:PassesOwn (!4) X.A X.env X.xe)(p:X.calm=true)(hi:PJ X tg iter t)(o:ED X tg g)(r:zD X body F)(j:∀x,foldedSetIterable iter X.env x=pure x):PR X (.For tg iter body [] pos) (iL t g F):=λB O Y=>
 (uX l p (hi O _) (PG.ex λz:(U5)×Ev×D=>o B z.1 z.2.1 z.2.2) (PSs.ex λz:(U5)×Ev=>r B z.1 z.2) j).imp λC σ H ⟨E,out,q,k⟩=>xg E E.viewS q k
def EI(l:PassesOwn (!4) X.A X.env X.xe)(p:X.calm=true)(hi:PJ X tg iter t)(o:ED X tg g)(r:zD X body F)(j:∀x,foldedSetIterable iter X.env x=pure x):PR X (.For tg iter body [] pos) (AY t g F):=λB O Y=>
 (uX l p (hi B.O (vw Y)) (PG.ex λz:(U5)×Ev×D=>o B z.1 z.2.1 z.2.2) (PSs.ex λz:(U5)×Ev=>r B z.1 z.2) j).imp λC σ H ⟨E,out,q,k⟩=>xg E.frozen.1 E.viewF q (k.mono E.frozen.2)
def l9{st}(h1:PR X st F)(h2:PR X st G):PR X st (a8 F G):=λB O Y=>(h1 B O Y).by2 (h2 B O Y) λg σ H ⟨E,out,q,k⟩=>by
 rcases or_some q with q|q;all_goals grind
end
section
variable{K:Frag}{B:Bs}{O:U5}{σ:St}{H:Hp}{Y:Ev}
def EnvOk.ownAt(E:EnvOk K B O σ H Y){i:Nat}(h:Y[i]?=!(!(c,.lst ds)))(C:c≠.sh):
  ∃a xs,σ[i]?=!(!(.ref a))/\H a=!(.lst xs)/\ds.length=xs.length/\O a=true/\B.H a=none:=by
 let⟨F,h1,h2,J,r⟩:=E.fp
 let⟨v,e,o⟩:=h1 i _ h
 cases c with
 |sh=>exact absurd rfl C
 |top=>
  let⟨a,I,xs,p,j,g,t,l⟩:=o;cases p;refine⟨a,xs,by rw[e,j],t,l.len,?_⟩;exact r i a (by rw[g];exact Vi)
 |deep=>
  let⟨a,xs,T,p,j,g,l⟩:=o;refine⟨a,xs,by rw[e,p],j,DeepL.len l,?_⟩;exact r i a (by rw[g];exact Vi)
def  MV(f:{α:Type}->List α->α->List α):Prop:=∀{K:Frag}{M H:Hp}{ds:U7}{xs:List V}{A A1:List Addr}{d:D}{v:V},DeepL K M H ds xs A->Deep K M H d v A1->(A++A1).Nodup->
 ∃A',DeepL K M H (f ds d) (f xs v) A'/\A'.Nodup/\∀b∈A',b∈A\/b∈A1
def  MW(f:{α:Type}->List α->α->List α):Prop:=∀{K:Frag}{M:Hp}{ds:U7}{xs:List V}{d:D}{v:V},IsL K M ds xs->Is K M d v->IsL K M (f ds d) (f xs v)
def  newCat(c:Cat)(s:Sl):Cat:=if c=.deep/\s.1=.deep then .deep else .top
def EnvOk.change(E:EnvOk K B O (σ++[!v]) H (Y++[!s]))(f:{α:Type}->List α->α->List α)(hw:MV f)(hi:MW f){i:Nat}(h:Y[i]?=!(!(c,.lst ds)))(hc:c≠.sh):
  ∃a xs,σ[i]?=!(!(.ref a))/\H a=!(.lst xs)/\ds.length=xs.length/\∃r,EnvOk K B r σ (upd H a (.lst (f xs v))) (Y.set i (!(newCat c s,.lst (f ds s.2))))/\Same (msk O H) (msk r (upd H a (.lst (f xs v)))):=by
 let⟨F,h1,h2,T,h4⟩:=E.fp
 have len:σ.length=Y.length:=by have:=E.len;simp at this;exact this
 have hil:=(Vh.mp h).1
 have hin:i≠Y.length:=by omega
 let⟨v',e1,o1⟩:=h1 Y.length s (getElem?_last _ _)
 rw[<-len,getElem?_last]at e1
 cases e1
 let⟨v0,e0,o0⟩:=h1 i _ (by rw[getElem?_append_left hil];exact h)
 have e0':=eU (!1) e0
 -- the list's place
 have at_:∃a xs U,v0=.ref a/\H a=!(.lst xs)/\F i=a::U/\ds.length=xs.length/\(c=.deep->DeepL K (msk O H) H ds xs U)/\(∀r,Same (msk O H) (msk r H)->(∀b∈U,r b=false)->IsL K (msk r H) ds xs):=by
  cases c with
  |sh=>exact absurd rfl hc
  |top=>
   let⟨a,ds',xs,z1,z2,z3,z4,l⟩:=o0;cases z1;exact⟨a,xs,[],z2,z4,z3,l.len,(λz=>by cases z),λr le _=>IsL.mono le _ _ l⟩
  |deep=>
   let⟨a,xs,U,z1,z2,z3,l⟩:=o0;exact⟨a,xs,U,z1,z2,z3,DeepL.len l,λ_=>l,λr le hA=>DeepL.is (NL.of le) ds xs U (λb g o q=>by rw[aN (hA b g)];exact q) l⟩
 let⟨a,xs,U,rfl,ha,hF,hl,hdeep,htop⟩:=at_
 have J:a∈F i:=by rw[hF];exact Vi
 let⟨haO,haB⟩:=h4 i a J
 have nd:=h2 i
 rw[hF]at nd
 have haA':=(List.nodup_cons.mp nd).1
 have C:∀b∈U,b∈F i:=λb g=>by rw[hF];exact Vj _ g
 have han:a ∉ F Y.length:=λz=>hin (T _ _ a J z)
 refine⟨a,xs,e0',ha,hl,?_⟩
 -- the rest of the frame
 have oth:∀{r:U5}{H':Hp},Same (msk O H) (msk r H')->(∀b,b≠a->H' b=H b)->∀j x,j≠i->Y[j]?=!(!x)->∃w,σ[j]?=!_/\OwnC K r H' x.1 x.2 w (F j):=λ{r H'} le hh j x p hx=>by
  have hjl:=(Vh.mp hx).1;let⟨w,e2,o2⟩:=h1 j x (by rw[getElem?_append_left hjl];exact hx);refine⟨w,eU (!1) e2,o2.frame le λb g o q=>?_⟩;have t:b≠a:=λz=>p (T j i a (z▸g) J);rw[hh b t];exact q
 by_cases hd:c=.deep/\s.1=.deep
 .let⟨rfl,hs⟩:=hd;let⟨sc,sd⟩:=s;cases(hs);have o1':=o1;have ndT:=List.nodup_append.mpr ⟨(List.nodup_cons.mp nd).2,h2 _,λx hx y hy z=>by
   subst z;exact hin (T i Y.length x (C x hx) hy)⟩
  let⟨A2,l2,n2,sub2⟩:=hw (hdeep rfl) o1' ndT;have haA2:a ∉ A2:=λz=>by
   rcases sub2 a z with z|z
   .exact haA' z
   .exact han z
  have me:msk O (upd H a (.lst (f xs v)))=msk O H:=gH haO;have le:Same (msk O H) (msk O (upd H a (.lst (f xs v)))):=by rw[me];exact Same.refl _
  refine⟨O,⟨λb o z=>?_,E.bdom,E.sub,λb g=>?_,by simpa using len,λj=>if j=i then a::A2 else if j=Y.length then[]else F j,λj x q=>?_,λj=>?_,λj k b p I=>?_,λj b p=>?_⟩,le⟩
  .rw[ae (ak z haB)];exact E.same b o z
  .by_cases t:b=a
   .subst t;exact .inl ⟨_,ai⟩
   .rw[ae t];exact E.lis b g
  .rcases get_set_some q with⟨e,q'⟩|⟨e,q'⟩
   .cases q';subst e;refine⟨.ref a,e0',?_⟩;simp only[if_true];refine⟨a,f xs v,A2,rfl,ai,rfl,DeepL.frame (NL.of le) _ _ A2 (λb g o q=>?_) l2⟩;have t:b≠a:=λz=>haA2 (by rw[<-z];exact g);rw[ae t];exact q
   .have p:j≠Y.length:=by have:=(Vh.mp q').1;omega
    let⟨w,e2,o2⟩:=oth le (λb g=>ae g) j x e q';exact⟨w,e2,by simp only[if_neg e,if_neg p];exact o2⟩
  .dsimp only;split
   .exact List.nodup_cons.mpr ⟨haA2,n2⟩
   .split
    .exact List.nodup_nil
    .exact h2 _
  .have key:∀j b,b∈(if j=i then a::A2 else if j=Y.length then[]else F j)->(j=i/\(b∈F i\/b∈F Y.length))\/(j≠i/\j≠Y.length/\b∈F j):=λj b g=>by
    by_cases e:j=i
    .rw[if_pos e]at g;refine .inl ⟨e,?_⟩;rcases mem_cons.mp g with rfl|g
     .exact .inl J
     .rcases sub2 b g with z|z
      .exact .inl (C b z)
      .exact .inr z
    .rw[if_neg e]at g;by_cases e2:j=Y.length
     .rw[if_pos e2]at g;cases g
     .rw[if_neg e2]at g;exact .inr ⟨e,e2,g⟩
   rcases key j b p with⟨p1,p2⟩|⟨p1,p2,p3⟩<;>rcases key k b I with⟨q1,q2⟩|⟨q1,q2,q3⟩
   .omega
   .rcases p2 with p2|p2
    .exact absurd (T _ _ b p2 q3) (!1)
    .exact absurd (T _ _ b p2 q3) (!1)
   .rcases q2 with q2|q2
    .exact absurd (T _ _ b p3 q2) (!1)
    .exact absurd (T _ _ b p3 q2) (!1)
   .exact T _ _ b p3 q3
  .dsimp only at p;split at p
   .rcases mem_cons.mp p with rfl|p
    .exact⟨haO,haB⟩
    .rcases sub2 b p with z|z
     .exact h4 i b (C b z)
     .exact h4 _ b z
   .split at p
    .cases p
    .exact h4 _ b p
 .have nc:newCat c s=.top:=by unfold newCat;rw[if_neg hd]
  rw[nc];let r:U5:=λb=>O b&&not (decide (b∈U))&&not (decide (b∈F Y.length));have hO'a:r a=true:=by simp[r,haO,haA',han]
  have hsub:∀b,r b=true->O b=true:=λb g=>by simp[r]at g;exact g.1.1
  have hno:∀b∈U,r b=false:=λb g=>by simp[r,g]
  have hno2:∀b∈F Y.length,r b=false:=λb g=>by simp[r,g]
  have le0:Same (msk O H) (msk r H):=λb o q=>by
   let⟨q1,q2⟩:=aW q;rw[aN (by simp[r,q1])];exact q2
  have me:msk r (upd H a (.lst (f xs v)))=msk r H:=gH hO'a;have le:Same (msk O H) (msk r (upd H a (.lst (f xs v)))):=by rw[me];exact le0
  have l3:IsL K (msk r (upd H a (.lst (f xs v)))) (f ds s.2) (f xs v):=by
   rw[me];exact hi (htop r le0 hno) (o1.is le0 hno2)
  refine⟨r,⟨λb o z=>?_,E.bdom,λb g=>?_,λb g=>?_,by simpa using len,λj=>if j=i then[a]else if j=Y.length then[]else F j,λj x q=>?_,λj=>?_,λj k b p I=>?_,λj b p=>?_⟩,le⟩
  .rw[ae (ak z haB)];exact E.same b o z
  .have h5:b ∉ U:=λz=>E.bdom b g (h4 i b (C b z)).2;have h6:b ∉ F Y.length:=λz=>E.bdom b g (h4 _ b z).2;simp[r,E.sub b g,h5,h6]
  .by_cases t:b=a
   .subst t;exact .inl ⟨_,ai⟩
   .rw[ae t];exact E.lis b (hsub b g)
  .rcases get_set_some q with⟨e,q'⟩|⟨e,q'⟩
   .cases q';subst e;refine⟨.ref a,e0',?_⟩;simp only[if_true];exact⟨a,f ds s.2,f xs v,rfl,rfl,rfl,ai,l3⟩
   .have p:j≠Y.length:=by have:=(Vh.mp q').1;omega
    let⟨w,e2,o2⟩:=oth le (λb g=>ae g) j x e q';exact⟨w,e2,by simp only[if_neg e,if_neg p];exact o2⟩
  .dsimp only;split
   .simp
   .split
    .exact List.nodup_nil
    .exact h2 _
  .dsimp only at p I;split at p
   .split at I
    .omega
    .split at I
     .cases I
     .rw[mem_singleton.mp p]at I;exact absurd (T _ _ a J I) (!1)
   .split at p
    .cases p
    .split at I
     .rw[mem_singleton.mp I]at p;exact absurd (T _ _ a p J) (!1)
     .split at I
      .cases I
      .exact T _ _ b p I
  .dsimp only at p;split at p
   .rw[mem_singleton.mp p];exact⟨hO'a,haB⟩
   .rename_i hji;split at p
    .cases p
    .rename_i hjn;refine⟨?_,(h4 _ b p).2⟩;have h5:b ∉ U:=λz=>hji (T _ _ b p (C b z));have h6:b ∉ F Y.length:=λz=>hjn (T _ _ b p z);simp[r,(h4 _ b p).1,h5,h6]
end
def  EJ(R:UR)(g:D->Ev->Option Ev):US:=λY=>(R (c9 Y)).bind λd=>(g d Y).bind λY'=>!(.nx Y')
def  Jc(R:UR)(g:D->Ev->Option Ev):US:=λY=>(R (vw Y)).bind λd=>(g d (db Y)).bind λY'=>!(.nx Y')
section
variable{X:Cx}{e tg:Expr}{pos:Pos}
def EK(h:PP X e R)(J:ED X tg g)(I:swapsWithSole [tg] e pos.line X.env=pure false)(C:swappedStores [tg] e X.env=pure none)(h1:(assignEach [tg] X.env).map (·.2)=[assign tg X.env]):PR X (.Assign [tg] e pos) (EJ R g):=λB O Y=>
 (qN (h O _) (PG.ex λz:D=>J B O Y z) I C h1).imp λU σ H ⟨E,o,q,k⟩=>by
 let⟨d,t,r⟩:=VA q;let⟨Y',p,l⟩:=VA r;cases l;exact⟨E.viewS,d,t,λv H' s i=>⟨d,E.grow s,i,Y',p,λj T=>k j H' O s.msk T⟩⟩
def EL(h:PP X e R)(J:ED X tg g)(I:swapsWithSole [tg] e pos.line X.env=pure false)(C:swappedStores [tg] e X.env=pure none)(h1:(assignEach [tg] X.env).map (·.2)=[assign tg X.env]):PR X (.Assign [tg] e pos) (Jc R g):=λB O Y=>
 (qN (h B.O (vw Y)) (PG.ex λz:D=>J B B.O _ z) I C h1).imp λEn σ H ⟨E,o,q,k⟩=>by
 let⟨d,t,r⟩:=VA q;let⟨Y',p,l⟩:=VA r;cases l;let⟨U,le⟩:=E.frozen;exact⟨E.viewF,d,t,λv H' s i=>⟨d,U.grow s,i,Y',p,λj T=>k j H' B.O (le.trans s.msk) T⟩⟩
end
def  snocL{α:Type}(l:List α)(x:α):List α:=l++[x]
def AZ:MV snocL:=λh q g=>⟨_,DeepL.snoc q h,g,λb j=>mem_append.mp j⟩
def A3:MW snocL:=λh q=>h.app ⟨_,[],rfl,q,rfl⟩
def DeepL.setAt{K}(h:Deep K M H d v A1):∀{ds:U7}{xs:List V}{A:List Addr}(j:Nat),DeepL K M H ds xs A->(A++A1).Nodup->
  ∃A',DeepL K M H (ds.set j d) (xs.set j v) A'/\A'.Nodup/\∀b∈A',b∈A\/b∈A1
 |[],_,_,_,l,nd=>by
  let⟨rfl,rfl⟩:=l;exact⟨[],⟨rfl,rfl⟩,List.nodup_nil,λ_ hb=>(nomatch hb)⟩
 |c::ds,_,_,0,⟨x,r,A0,A2,e,z,q,l⟩,nd=>by
  subst e;subst z;rw[List.append_assoc]at nd;let⟨n1,n2,n3⟩:=List.nodup_append.mp nd;let⟨m1,m2,m3⟩:=List.nodup_append.mp n2;refine⟨A1++A2,⟨v,r,A1,A2,rfl,rfl,h,l⟩,List.nodup_append.mpr ⟨m2,m1,λa ha b hb z=>m3 b hb a ha z.symm⟩,λb hb=>?_⟩;rcases mem_append.mp hb with hb|hb
  .exact .inr hb
  .exact .inl (Vs _ hb)
 |c::ds,_,_,j+1,⟨x,r,A0,A2,e,z,q,l⟩,nd=>by
  subst e;subst z;rw[List.append_assoc]at nd;let⟨n1,n2,n3⟩:=List.nodup_append.mp nd;let⟨A',l',nd',sub⟩:=DeepL.setAt h j l n2;refine⟨A0++A',⟨x,r.set j v,A0,A',rfl,rfl,q,l'⟩,List.nodup_append.mpr ⟨n1,nd',λa ha b hb z=>?_⟩,λb hb=>?_⟩
  .rcases sub b hb with hb|hb
   .exact n3 a ha b (Vr _ hb) z
   .exact n3 a ha b (Vs _ hb) z
  .rcases mem_append.mp hb with hb|hb
   .exact .inl (Vr _ hb)
   .rcases sub b hb with hb|hb
    .exact .inl (Vs _ hb)
    .exact .inr hb
def  Jd(j:Nat){α:Type}(l:List α)(x:α):List α:=l.set j x
def MX(j:Nat):MV (Jd j):=λh q g=>DeepL.setAt q j h g
def i_set(j:Nat):MW (Jd j):=λh q=>.of (nE q j h.paired)
section
variable{X:Cx}{e:Expr}{pos:Pos}
def  ownL(Y:Ev)(i:Nat):Option (Cat×List D):=(gJ Y i).bind λs=>match s with
 |(.sh,_)=>none
 |(c,.lst ds)=>!(c,ds)
 |_=>none
def bU(h:ownL Y i=!(c,ds)):Y[i]?=!(!(c,.lst ds))/\c≠.sh:=by
 let⟨⟨j,d⟩,e,q⟩:=VA h;have g:=de e;grind
def  gq(i:Nat)(g:UU):US:=λY=>(ownL Y i).bind λ_=>(g Y).bind λz=>(ownL z.2 i).bind λw=>if w.2.length+1<big then !(.nx (z.2.set i (!(newCat w.1 z.1,.lst (w.2++[z.1.2])))))else none
def i6(i:Nat)(h:pE X e g)(hN:X.N[i]?=!x)(hv:pQ X.env.scope x)(hd:(!6)=false)(p:(!14)=false)(j:starEach [e] X.env=(false,eval e X.env)::starEach [] X.env)(l:(apos.endLine==cpos.line)=true):PR X (.Expr (.Call (.Attribute (.Name x px) "append" apos) [e] [] cpos) pos) (gq i g):=λB O Y=>
 (ek (pY PySem.F.plainAttrs_list PySem.F.slot_list_append PySem.F.type_list_append pZ (bK hN hv hd p) (dm (h B O Y).1 pa_nil j) rfl (by rw[j];rfl) l j rfl)).imp λEn σ H ⟨E,o,q,k⟩=>by
 let⟨⟨c0,ds0⟩,q1,q⟩:=VA q;let⟨⟨s,Y'⟩,q2,q⟩:=VA q;let⟨⟨c,ds⟩,q3,q⟩:=VA q;let⟨hz,q⟩:=aw q;subst q;let⟨h0,t⟩:=bU q1;let⟨h1,r⟩:=bU q3;let⟨a,I,C,r3,_⟩:=E.ownAt h0 t;refine⟨.ref a,C,.inl ⟨rfl,_,SqL.of r3⟩,E,s,Y',q2,λv H1 O1 T E1=>?_⟩;let⟨a',xs,e2,U,hl,O2,E2,J⟩:=E1.change snocL AZ A3 h1 r;rw[C]at e2;cases e2;exact⟨a,xs,v,rfl,rfl,U,by rw[iG,<-hl];exact Nat.lt_of_succ_lt hz,k σ _ O2 (T.trans J) E2⟩
def  jY(i:Nat)(fk:UR)(g:UU):US:=λY=>(g Y).bind λz=>(ownL z.2 i).bind λw=>(fk (vw z.2)).bind λy=>match y with
 |.int k=>(DC w.2.length k).bind λj=>!(.nx (z.2.set i (!(newCat w.1 z.1,.lst (w.2.set j z.1.2)))))
 |_=>none
def Je(i:Nat)(h:pE X e g)(hk:PP X p fk)(hN:X.N[i]?=!x)(hv:pQ X.env.scope x)(hd:(!6)=false)(J:(!14)=false)(ha:∀v,assign (.Subscript (.Name x r) p l) X.env v=(do
   let C<-holding [v] (eval (.Name x r) X.env)
   let I<-holding [v,C] (eval p X.env)
   standAt l
   holding [v,C,I] (setItem C I v)
   release [v,C,I] [])) (hs:swapsWithSole [.Subscript (.Name x r) p l] e pos.line X.env=pure false) (hw:swappedStores [.Subscript (.Name x r) p l] e X.env=pure none) (h1:(assignEach [.Subscript (.Name x r) p l] X.env).map (·.2)=[assign (.Subscript (.Name x r) p l) X.env]):PR X (.Assign [.Subscript (.Name x r) p l] e pos) (jY i fk g):=λB O Y=>
 (qN (h B O Y).1 (zO (bK hN hv hd J) (PE.ex λz:Vv=>hk mD z) Ai ha) hs hw h1).imp λEn σ H ⟨E,o,q,k⟩=>by
 let⟨⟨s,Y'⟩,q1,q⟩:=VA q
 let⟨⟨c,ds⟩,q2,q⟩:=VA q
 let⟨y,q3,q⟩:=VA q
 let⟨h0,t⟩:=bU q2
 refine⟨E,s,Y',q1,λv H1 O1 s1 T=>?_⟩
 let⟨a,xs0,e1,_⟩:=T.drop.ownAt h0 t
 refine⟨.ref a,e1,vw Y',T.drop.view,y,q3,λyv H2 U iy=>?_⟩
 cases y with
 |int n=>
  let⟨j,j1,q⟩:=VA q;cases q;cases(iy);let⟨a',xs,e2,r4,hl,O2,E2,s3⟩:=(T.grow U).change (Jd j) (MX j) (i_set j) h0 t;rw[e1]at e2;cases e2;exact⟨a,xs,n,j,rfl,rfl,r4,by rw[<-hl];exact j1,k σ _ O2 (s1.trans (U.msk.trans s3)) E2⟩
 |_=>cases q
end
def  Jf(K:Frag)(f:xx):Sp:=λvs H Q _=>∃O ds s,(∀b,O b=true->Hid (H b))/\IsL K (msk O H) ds vs/\f ds=!s/\∀v H',RetOk K ⟨H,O⟩ H' s v->Q v H'
noncomputable def  aD(n:Nat)(ds:U7):Ev:=ds.map (λd=>!(.sh,d))++List.replicate (n-ds.length) none
noncomputable def  MY(o:Option Out):UX:=o.bind λo=>match o with
 |.rt d=>!d
 |.nx _=>!(.deep,.non)
 |_=>none
def  aI(n m:Nat)(F:US)(ds:U7):UX:=if ds.length=n then MY (F (aD m ds))else none
def i7(h:aI n m F ds=!d):ds.length=n/\MY (F (aD m ds))=!d:=by
 unfold aI at h;grind
section
variable{P:Program}{w:World}{K:Frag}{mg:Str->U1}{base:Heap}
def vC{i:Nat}(q:(aD n ds)[i]?=!(!s)):∃d,ds[i]?=!d/\s=(.sh,d):=by
 unfold aD at q;grind
def nS{O:U5}{H:Hp}{N:U3}{g:List V}{ds:U7}(hd:∀b,O b=true->Hid (H b))(j:IsL K (msk O H) ds g):EnvOk K ⟨H,O⟩ O (jE N g) H (aD N.length ds) where
 same:=Same.refl _
 bdom:=λb h=>(hd b h).ne
 sub:=λ_ h=>h
 lis:=hd
 len:=by
  unfold jE aD;rw[length_append,length_append,length_map,length_map,List.length_replicate,List.length_replicate,j.len]
 fp:=by
  refine⟨λ_=>[],λi s q=>?_,λ_=>List.nodup_nil,λ_ _ _ h=>(nomatch h),λ_ _ h=>(nomatch h)⟩;let⟨d,e,rfl⟩:=vC q;let⟨x,l,o⟩:=j.get e;refine⟨x,?_,rfl,o⟩;have hi:=(Vh.mp l).1;unfold jE;rw[getElem?_append_left (by rw[length_map];exact hi),getElem?_map,l];rfl
def Jg{st}(Fn:Fun K x l st f fd)(S:FnScope N ps (ah st))(T:∀(j:Value)(A:Around)(g:List Env)(s:Shared)(H:Hp)(E:XK),Room k (A.deeper (envOfC l (ah st) s.heap.objs.size f j))->zD (nq qV P w K mg base N l (ah st) f j A g s H E).nox (aL st) F):
  FnOk P w K mg base qV (k+1) f fd ps (Jf K (aI ps.length N.length F)):=by
 refine Fn.ok S (λI H Q E ⟨O,ds,d,_,p,e,_⟩=>by rw[<-p.len];exact(i7 e).1) (λj A g s H I Q E J ⟨O,ds,d,hd,p,e,t⟩=>?_)
 refine⟨_,T j A g s H E J ⟨H,O⟩ O _,nS hd p,?_⟩
 let⟨o,U,e2⟩:=VA (i7 e).2
 refine⟨o,U,?_⟩
 cases o with
 |rt d'=>cases e2;exact t
 |nx Y=>cases e2;exactλC H' O' s' r=>t .non H' ⟨O',[],r.same,r.sub,r.lis,List.nodup_nil,λ_ h=>(nomatch h),rfl,rfl⟩
 |bk Y=>cases e2
 |ct Y=>cases e2
structure Df(P:Program)(w:World)(K:Frag)(mg:Str->U1)(base:Heap)(x:Str)(k:Nat)(f:xx):Prop where
 ex:∃(a:Addr)(fd:FuncData)(ps:U3),mg x=!(.ref a)/\PySem.W.keepIn K (.ref a)=true/\Binds K fd ps []/\FnOk P w K mg base qV k a fd ps (Jf K f)
def RetOk.is(hd:∀b,O b=true->Hid (H b))(r:RetOk K ⟨H,O⟩ H' s v):Same H H'/\Is K (msk O H') s.2 v:=by
 let⟨J,A,h1,h2,I,C,t,p⟩:=r;refine⟨h1,p.is (λb o q=>?_) λa l=>?_⟩
 .let⟨g,j⟩:=aW q;rw[aN];exact j;cases z:O b with
  |false=>rfl
  |true=>rw[h2 b z]at g;cases g
 .cases z:O a with
  |false=>rfl
  |true=>exact absurd (t a l).2 (hd a z).ne
end
section
variable{X:Cx}{x:Str}{p pos apos:Pos}{e o:Expr}{es:U8}{k:Nat}{f:xx}{fa:UQ}
def  b7(o:UX):U9:=o.bind λs=>!s.2
noncomputable def  nT(o:UX):U9:=o.bind λs=>match s with
 |(.deep,d)=>!d
 |_=>none
def EM(F:Df X.prog X.w X.K X.mg X.base x k f)(hr:Room k X.A)(hg:Gl X x)(ha:PX X (e::es) fa)(l:(!6)=false)(he:starEach (e::es) X.env=(false,eval e X.env)::starEach es X.env)(j:(!17).any (·.1)=false):
  PP X (!18) (λY=>(fa Y).bind λds=>b7 (f ds)):=λO Y=>by
 let⟨a,fd,ps,hm,hk,hb,G⟩:=F.ex
 refine(qP G hr hg hm hk hb .nil sY (ha O Y) l he j).imp λσ H Q ⟨E,d,q,U⟩=>?_
 let⟨ds,T,J⟩:=VA q
 let⟨s,I,C⟩:=VA J
 cases C
 refine⟨E,ds,T,λo H1 g il=>?_⟩
 show Jf X.K f (o++[]) H1 Q E0
 rw[List.append_nil]
 refine⟨O,ds,s,(E.grow g).lis,il,I,λv H2 r=>?_⟩
 let⟨t,iv⟩:=r.is (E.grow g).lis
 exact U v H2 (g.trans t) iv
def EN(F:Df X.prog X.w X.K X.mg X.base x k f)(hr:Room k X.A)(hg:Gl X x)(t:PX X (e::es) fa)(o:(!6)=false)(he:starEach (e::es) X.env=(false,eval e X.env)::starEach es X.env)(l:(!17).any (·.1)=false):
  tK X (!18) (λY=>(fa Y).bind λds=>nT (f ds)):=λY=>by
 let⟨a,fd,ps,hm,hk,hb,G⟩:=F.ex
 refine PE.pu ((qP G hr hg hm hk hb .nil sY (t mD Y) o he l).imp λσ H Q ⟨E,d,q,U⟩=>?_) rfl
 let⟨ds,T,J⟩:=VA q
 let⟨⟨c,d'⟩,I,j⟩:=VA J
 cases c with
 |sh=>cases j
 |top=>cases j
 |deep=>
  cases j;refine⟨E,ds,T,λC H1 g il=>?_⟩;show Jf X.K f (C++[]) H1 Q E0;rw[List.append_nil];refine⟨mD,ds,_,(E.grow g).lis,il,I,λv H2 r=>?_⟩;let⟨O',A,h1,h2,h3,h4,h5,h6⟩:=r;exact U v H2 A (g.trans h1) (Deep.frame (NL.of msk_le) _ v A (λ_ _ _ h=>h) h6) h4 λa t=>g.free (h5 a t).2
end
def EnvOk.hand{K:Frag}{B:Bs}{O:U5}{σ:St}{H:Hp}{Y:Ev}(E:EnvOk K B O σ H Y){j:Nat}{s:Sl}(h:Y[j]?=!(!s)):∃v,σ[j]?=!(!v)/\EnvOk K B O (σ++[!v]) H (Y.set j none++[!s]):=by
 let⟨F,h1,h2,h3,h4⟩:=E.fp;let⟨v,e,o⟩:=h1 j s h;have hl:=E.len;refine⟨v,e,E.same,E.bdom,E.sub,E.lis,by rw[length_append,length_append,List.length_set,hl];rfl,λi=>if i=Y.length then F j else if i=j then[]else F i,λi s' q=>?_,λi=>?_,λi k a ha hb=>?_,λi a ha=>?_⟩
 .by_cases c:i=Y.length
  .subst c;dsimp only;rw[if_pos rfl];rw[getElem?_append_right (by rw[List.length_set];exact Vy _),List.length_set,Nat.sub_self]at q;cases q;exact⟨v,by rw[<-hl,getElem?_append_right (le_refl _),Nat.sub_self];rfl,o⟩
  .have hi:i<Y.length:=by
    rcases Nat.lt_or_ge i (Y.length+1)with c'|c'
    .omega
    .rw[List.getElem?_eq_none (by rw[length_append,List.length_set];exact c')]at q;cases q
   rw[getElem?_append_left (by rw[List.length_set];exact hi)]at q;by_cases cj:i=j
   .subst cj;rw[List.getElem?_set_self hi]at q;cases q
   .rw[List.getElem?_set_ne (λz=>cj z.symm)]at q;let⟨w,e1,o1⟩:=h1 i s' q;dsimp only;rw[if_neg c,if_neg cj];exact⟨w,by rw[getElem?_append_left (!1)];exact e1,o1⟩
 .show(if _ then _ else _:List Addr).Nodup;split
  .exact h2 j
  .split
   .exact List.nodup_nil
   .exact h2 i
 .have key:∀n,a∈(if n=Y.length then F j else if n=j then[]else F n)->(n=Y.length/\a∈F j)\/(n≠j/\n≠Y.length/\a∈F n):=λn hn=>by
   split at hn
   .rename_i c;exact .inl ⟨c,hn⟩
   .rename_i c;split at hn
    .cases hn
    .rename_i c2;exact .inr ⟨c2,c,hn⟩
  rcases key i ha with⟨a1,a2⟩|⟨a1,a2,a3⟩<;>rcases key k hb with⟨b1,b2⟩|⟨b1,b2,b3⟩
  .rw[a1,b1]
  .exact absurd (h3 k j a b3 a2) b1
  .exact absurd (h3 i j a a3 b2) a1
  .exact h3 i k a a3 b3
 .dsimp only at ha;split at ha
  .exact h4 j a ha
  .split at ha
   .cases ha
   .exact h4 i a ha
section
variable{X:Cx}
def  Jh(j:Nat):UU:=λY=>(gJ Y j).bind λs=>!(s,Y.set j none)
def MZ(j:Nat){x:Str}{px:Pos}(hN:X.N[j]?=!x)(hv:pQ X.env.scope x)(hd:(!6)=false)(hcd:(!14)=false):pE X (.Name x px) (Jh j):=λB O Y=>PE.pu ((bK hN hv hd hcd).imp λσ H Q ⟨E,s,Y',q,k⟩=>by
 let⟨s',q1,q2⟩:=VA q;cases q2;let⟨v,e,E'⟩:=E.hand (de q1);exact⟨v,e,k v H O (Same.refl _) E'⟩) rfl
def  A4(q:UT)(ga gb:UU):UU:=λY=>(q (vw Y)).bind λt=>if t=true then ga Y else gb Y
def M0{c a b:Expr}{pos:Pos}{q ga gb}(hc:PQ X c q)(ha:pE X a ga)(hb:pE X b gb):pE X (.IfExp c a b pos) (A4 q ga gb):=λB O Y=>PE.pu ((sK (hc mD (vw Y)) (ha B O Y).1 (hb B O Y).1).imp λσ H Q ⟨E,s,Y',h,k⟩=>by
 let⟨t,e1,e2⟩:=VA h;refine⟨E.view,t,e1,λH1 s1=>?_⟩;have k':∀v H' O',Same (msk O H1) (msk O' H')->EnvOk X.K B O' (σ++[!v]) H' (Y'++[!s])->Q v H':=λv H' O' z e=>k v H' O' (s1.msk.trans z) e;cases t with
 |true=>rw[if_pos rfl]at e2;exact⟨E.grow s1,s,Y',e2,k'⟩
 |false=>rw[if_neg Bool.false_ne_true]at e2;exact⟨E.grow s1,s,Y',e2,k'⟩) rfl
end
noncomputable def  rh:U3->Str->Option Nat
 |[],_=>none
 |y::r,x=>if y=x then some 0 else(rh r x).map (·+1)
def gt:∀{l:U3}{x:Str}{i:Nat},rh l x=!i->l[i]?=!x
 |[],_,_,h=>by cases h
 |y::r,x,i,h=>by
  unfold rh at h;split at h
  .rename_i e;cases h;simp[e]
  .cases e:rh r x with
   |none=>rw[e]at h;cases h
   |some j=>
    rw[e]at h;cases h;have:=gt e;simpa using this
structure Glob where
 fn:Str->Option (Nat×(xx))
 cn:Str->U9
 no:Str->Bool
 fl:Str->Str->Bool
structure SE where
 N:U3
 nm:List (Str×NameKind)
 k:Nat
 G:Glob
noncomputable def  fS(x:Str):Bool:=not (!6)&&not (!14)&&not (decide (x=("__name__":Str)))
noncomputable def  xh:Option NameKind->Bool
 |some .local=>true
 |some .cell=>true
 |some .free=>true
 |_=>false
def  slot(S:SE)(x:Str):Option Nat:=if fS x&&xh (S.nm.lookup x)then rh S.N x else none
noncomputable def  rp(x:Str):Option String:=if x=("int":Str)then some "int"else if x=("bool":Str)then some "bool"else if x=("str":Str)then some "str"else if x=("list":Str)then some "list"else if x=("tuple":Str)then some "tuple"else if x=("dict":Str)then some "dict"else none
def vD(h:rp x=!n):bootBuiltins x=!(.type n):=by
 unfold rp at h;split at h
 .rename_i e;cases h;subst e;decide+kernel
 .split at h
  .rename_i e;cases h;subst e;decide+kernel
  .split at h
   .rename_i e;cases h;subst e;decide+kernel
   .split at h
    .rename_i e;cases h;subst e;decide+kernel
    .split at h
     .rename_i e;cases h;subst e;decide+kernel
     .split at h
      .rename_i e;cases h;subst e;decide+kernel
      .cases h
def df(h:fS x=true):(!6)=false/\(!14)=false/\x≠("__name__":Str):=by grind [fS]
section
variable{X:Cx}{e o:Expr}{es:U8}{p pos apos:Pos}
def  mG(fl:Str->Str->Bool)(m:Str):D->U9
 |.obj C ns ds=>if fl C m then(ns.zip ds).lookup m else none
 |_=>none
def nU{K}:∀{fs:List (Str×V)}{ds:U7},IsL K H ds (fs.map (·.2))->((fs.map (·.1)).zip ds).lookup f=!d->∃v,fs.lookup f=!v/\Is K H d v
 |[],ds,_,e=>by simp at e
 |(n,v)::fs,[],l,e=>by simp at e
 |(n,v)::fs,d'::ds,⟨x,r,z,h,l⟩,e=>by
  have z':v::fs.map (·.2)=x::r:=z;cases z';simp only[List.map_cons,List.zip_cons_cons,List.lookup_cons]at e⊢;cases hf:f==n with
  |true=>rw[hf]at e;cases e;exact⟨v,rfl,h⟩
  |false=>rw[hf]at e;exact nU l e
def Ji(ho:PP X o fo)(l:∀C Ca,r C m=true->nsIn X.K mainGlobals C=!(!(.ref Ca))->Cls X.K Ca/\NoAttr X.K Ca m)(g:attributeBase o m X.env (eval o X.env)=eval o X.env):PP X (.Attribute o m pos) (λY=>(fo Y).bind (mG r m)):=λO Y=>by
 refine(z0 (ho O Y) g).imp λσ H Q ⟨E,d,q,k⟩=>?_;let⟨t,J,q⟩:=VA q;refine⟨E,t,J,λv H1 I iv=>?_⟩;cases t with
 |obj C T ds=>
  have j:(if r C m=true then(T.zip ds).lookup m else none)=!d:=q;split at j
  .rename_i hC;let⟨a,Ca,dx,fs,rfl,h0,h1,h2,h3⟩:=iv;subst h2;let⟨p,e1,e2⟩:=nU h3 j;let⟨c,U⟩:=l C Ca hC h0;exact⟨a,Ca,dx,fs,p,rfl,msk_le _ _ h1,c,U,e1,k p H1 I e2⟩
  .cases j
 |_=>cases q
structure Mf(P:Program)(w:World)(K:Frag)(mg:Str->U1)(base:Heap)(C m:Str)(k:Nat)(f:xx):Prop where
 ex:∃(Ca fa:Addr)(fd:FuncData)(ps:U3),nsIn K mainGlobals C=!(!(.ref Ca))/\Cls K Ca/\Meth K Ca m fa/\Binds K fd ps []/\FnOk P w K mg base qV k fa fd ps (Jf K f)
abbrev MT:=Str->Option (Nat×(xx))
def  iM(mt:MT)(k0:Nat)(m:Str)(d:D)(as:U7):UX:=match d with
 |.obj C ns _=>(mt C).bind λz=>if z.1<=k0/\m ∉ ns then z.2 (d::as)else none
 |_=>none
def vE{mt}(h:iM mt j m d as=!s):∃C g ds k f,d=.obj C g ds/\mt C=!(k,f)/\k<=j/\m ∉ g/\f (d::as)=!s:=by
 cases d with
 |obj C g ds=>
  let⟨⟨k,f⟩,e,q⟩:=VA (h);split at q
  .rename_i c;exact⟨C,g,ds,k,f,rfl,e,c.1,c.2,q⟩
  .cases q
 |_=>cases h
structure Pick(X:Cx)(mt:MT)(k0:Nat)(m:Str) where
 C:Str
 Ca:Addr
 fa:Addr
 fd:FuncData
 ps:U3
 k:Nat
 f:xx
 h:mt C=!(k,f)/\k<=k0/\nsIn X.K mainGlobals C=!(!(.ref Ca))/\Cls X.K Ca/\Meth X.K Ca m fa/\Binds X.K fd ps []/\FnOk X.prog X.w X.K X.mg X.base qV k fa fd ps (Jf X.K f)
def EO{mt}(g:∀C k f,mt C=!(k,f)->Mf X.prog X.w X.K X.mg X.base C m k f)(h:mt C=!(k,f))(l:k<=j):∃z:Pick X mt j m,z.C=C/\z.k=k/\z.f=f:=by
 let⟨Ca,fa,fd,ps,h1,h2,r,p,o⟩:=(g C k f h).ex;exact⟨⟨C,Ca,fa,fd,ps,k,f,h,l,h1,h2,r,p,o⟩,rfl,rfl,rfl⟩
def  km(fo:UR)(fa:UQ)(mt:MT)(k0:Nat)(m:Str):Vv->UX:=λY=>(fo Y).bind λd=>(fa Y).bind λas=>iM mt k0 m d as
def Jj{K}(h:Is K H (.obj C g ds) v)(l:nsIn K mainGlobals C=!(!(.ref Ca)))(j:m ∉ g):∃a dx fs,v=.ref a/\H a=!(.ins Ca dx fs)/\fs.lookup m=none:=by
 let⟨a,p,dx,fs,rfl,h0,h1,h2,o⟩:=h;grind
def yQ(hfew:methodCallForm args.length (backTo pos (starEach args env)) (backToKw pos (keywordEach [] env)) = true)(hline:(apos.endLine == pos.line) = true) :
  eval (.Call (.Attribute (.Name x px) m apos) args [] pos) env = (do
   let ov <- eval (.Name x px) env
   standAt apos.atName
   let (f,first) <- holding [ov] (getMethod ov m (do return (<- importBound (.Name x px) env).getD true))
   callWith pos f first (backTo pos (starEach args env)) (backToKw pos (keywordEach [] env))):=by
 show (do
  let ov <- eval _ env
  standAt apos.atName
  methodCall _ m apos pos env ov (args.length + 0) _ _) = _
 have hm:∀ ov,methodCall (.Name x px) m apos pos env ov (args.length + 0) (backTo pos (starEach args env)) (backToKw pos (keywordEach [] env)) = (do
   let (f,first) <- holding [ov] (getMethod ov m (do return (<- importBound (.Name x px) env).getD true))
   callWith pos f first (backTo pos (starEach args env)) (backToKw pos (keywordEach [] env))):=fun ov=>by
  unfold methodCall
  rw [Nat.add_zero,hfew]
  simp only [calleeOf,methodCallPos,hline,Bool.not_true,Bool.false_or,if_true,pure_bind]
 simp only [hm]
def yR{mt}(ho:PP X (.Name x px) fo)(hmt:∀C k f,mt C=!(k,f)->Mf X.prog X.w X.K X.mg X.base C m k f)(hr:Room k0 X.A)(hline:(apos.endLine==pos.line)=true)(O:U5)(Y:Vv):
  PE X (.Call (.Attribute (.Name x px) m apos) [] [] pos) (λσ H Q=>VE X.K O σ H Y/\∃s,km fo (λ_=>![]) mt k0 m Y=!s/\∀v H1 H',Same H H1->RetOk X.K ⟨H1,O⟩ H' s v->Q v H'):=by
 refine(PE.ex λz:Pick X mt k0 m=>Ad (ho O Y) z.h.2.2.2.1 z.h.2.2.2.2.1 z.h.2.2.2.2.2.2 (hr.mono z.h.2.1) z.h.2.2.2.2.2.1 .nil sY (yQ rfl hline)).imp λσ H Q ⟨E,s,q,kk⟩=>?_
 let⟨d,q1,q⟩:=VA q
 let⟨C,ns,ds,k,f,hd,hm,hk,hn,hf⟩:=vE (q)
 let⟨z,rfl,rfl,rfl⟩:=EO hmt hm hk
 refine⟨z,E,d,q1,λv H1 s1 iv=>?_⟩
 subst hd
 let⟨a,dx,fs,ev,ea,el⟩:=Jj iv z.h.2.2.1 hn
 refine⟨a,dx,fs,ev,msk_le _ _ ea,el,?_⟩
 exact⟨O,[_],s,(E.grow s1).lis,⟨v,[],rfl,iv,rfl⟩,hf,λw' H3 r=>kk w' H1 H3 s1 r⟩
def Jk{f:Vv->UX}(h:PE X e (λσ H Q=>VE X.K O σ H Y/\∃s,f Y=!s/\∀v H1 H',Same H H1->RetOk X.K ⟨H1,O⟩ H' s v->Q v H')):PE X e (tP X.K O Y (b7 (f Y))):=h.imp λσ H Q ⟨E,d,q,k⟩=>by
 let⟨s,o,l⟩:=VA q;cases l;refine⟨E,s,o,λv H1 H' g r=>?_⟩;let⟨j,p⟩:=r.is (E.grow g).lis;exact k v H' (g.trans j) p
def  SG(K:Frag)(Ca:Addr)(g:U7->Option (List (Str×D))):Sp:=λvs H Q _=>∃x vs' dx O ds fd,vs=.ref x::vs'/\H x=!(.ins Ca dx [])/\(∀b,O b=true->Hid (H b))/\O x=true/\IsL K (msk O H) ds vs'/\g ds=!fd/\
 ∀H' fs,(∀b o,b≠x->H b=!o->H' b=!o)->H' x=!(.ins Ca dx fs)->fs.map (·.1)=fd.map (·.1)->IsL K (msk O H') (fd.map (·.2)) (fs.map (·.2))->Q .non H'
structure Mkf(P:Program)(w:World)(K:Frag)(mg:Str->U1)(base:Heap)(C:Str)(k:Nat)(g:U7->Option (List (Str×D))):Prop where
 ex:∃(Ca fa:Addr)(fd:FuncData)(ps:U3),mg C=!(.ref Ca)/\nsIn K mainGlobals C=!(!(.ref Ca))/\Mk K Ca fa/\Binds K fd ps []/\FnOk P w K mg base qV k fa fd ps (SG K Ca g)
def  EQ(C:Str)(o:Option (List (Str×D))):U9:=o.bind λfd=>!(.obj C (fd.map (·.1)) (fd.map (·.2)))
def ER(F:Mkf X.prog X.w X.K X.mg X.base C k g)(hr:Room (k+1) X.A)(hg:Gl X C)(ha:PX X (e::es) fa)(hdb:(C==("__debug__":Str))=false)(he:starEach (e::es) X.env=(false,eval e X.env)::starEach es X.env)(U:(!17).any (·.1)=false):
  PP X (.Call (.Name C p) (e::es) [] pos) (λY=>(fa Y).bind λds=>EQ C (g ds)):=λO Y=>by
 let⟨Ca,f,fd,ps,hm,hns,M,j,G⟩:=F.ex
 refine(DY M G hr hg hm j .nil sY (ha O Y) hdb he U).imp λσ H Q ⟨E,d,q,kk⟩=>?_
 let⟨ds,r,l⟩:=VA q
 let⟨fl,q3,q4⟩:=VA l
 cases q4
 refine⟨E,ds,r,λvs H1 s1 il x dx I hdx hne=>?_⟩
 have E1:=E.grow s1
 have hOx:=E1.fresh I
 have J:Same H1 (upd (upd H1 dx (.own x)) x (.ins Ca dx [])):=λb o q=>by
  rw[ae (ak q I),ae (ak q hdx)];exact q
 have le:Same (msk O H1) (msk (λb=>O b||decide (b=x)) (upd _ x _)):=λb o q=>by
  let⟨r,l⟩:=aW q;have j:=ak l I;rw[aN (by simp[r,j])];exact J _ _ l
 rw[List.append_nil]
 refine⟨x,vs,dx,λb=>O b||decide (b=x),ds,fl,rfl,ai,λb j=>?_,by simp,IsL.mono le _ _ il,q3,λH' fs keep T t hl=>⟨rfl,?_⟩⟩
 .rcases(Bool.or_eq_true _ _).mp j with j|j
  .exact(E1.lis b j).same J
  .rw[of_decide_eq_true j,ai];exact .inr (.inl ⟨_,_,_,rfl⟩)
 .have s3:Same H1 H':=λb o q=>keep b o (ak q I) (J _ _ q);refine kk _ H' (s1.trans s3) ⟨x,Ca,dx,fs,rfl,hns,by rw[aN hOx];exact T,t,IsL.mono (λb o q=>?_) _ _ hl⟩;let⟨r,l⟩:=aW q;have:O b=false:=by
   cases z:O b with
   |false=>rfl
   |true=>simp[z]at r
  rw[aN this];exact l
end
section
variable{K:Frag}{B:Bs}{O:U5}{σ:St}{H:Hp}{Y:Ev}
def EnvOk.thaw(E:EnvOk K B O (σ++[!v]) H (Y++[!s])):∃g,EnvOk K B g σ H Y/\Same (msk O H) (msk g H)/\Is K (msk g H) s.2 v:=by
 let⟨F,h1,h2,h3,h4⟩:=E.fp;have len:σ.length=Y.length:=by have:=E.len;simp at this;exact this
 let⟨v',t,T⟩:=h1 Y.length s (getElem?_last _ _);rw[<-len,getElem?_last]at t;cases t;let g:U5:=λb=>O b&&not (decide (b∈F Y.length));have le:Same (msk O H) (msk g H):=λb o q=>by
  let⟨I,C⟩:=aW q;rw[aN (by simp[g,I])];exact C
 refine⟨g,⟨E.same,E.bdom,λb l=>?_,λb l=>E.lis b (by simp[g]at l;exact l.1),len,λj=>if j=Y.length then[]else F j,λj x q=>?_,λj=>?_,λj k a r hk=>?_,λj a r=>?_⟩,le,T.is le λa U=>by simp[g,U]⟩
 .have h6:b ∉ F Y.length:=λz=>E.bdom b l (h4 _ b z).2;simp[g,E.sub b l,h6]
 .have p:=(Vh.mp q).1;have r:j≠Y.length:=by omega
  let⟨w,e2,J⟩:=h1 j x (by rw[getElem?_append_left p];exact q);exact⟨w,eU (!1) e2,by simp only[if_neg r];exact J.frame le λ_ _ _ h=>h⟩
 all_goals grind
def EnvOk.store(E:EnvOk K B O σ H Y)(r:B.O x=true)(C:B.H x=!(.ins Ca dx fs)):EnvOk K ⟨upd B.H x (.ins Ca dx fs'),B.O⟩ O σ (upd H x (.ins Ca dx fs')) Y/\msk O (upd H x (.ins Ca dx fs'))=msk O H:=by
 have p:msk O (upd H x (.ins Ca dx fs'))=msk O H:=gH (E.sub x r);let⟨F,h1,h2,I,l⟩:=E.fp;have no:∀i,x ∉ F i:=λi z=>by have:=(l i x z).2;rw[C]at this;cases this
 refine⟨⟨λb o q=>?_,λb q=>?_,E.sub,λb q=>?_,E.len,F,λi s q=>?_,h2,I,λi a g=>⟨(l i a g).1,?_⟩⟩,p⟩
 .have j:upd B.H x (.ins Ca dx fs') b=!o:=q;by_cases h:b=x
  .subst h;rw[ai]at j⊢;exact j
  .rw[ae h]at j⊢;exact E.same b o j
 .by_cases h:b=x
  .subst h;show upd B.H b _ b≠none;rw[ai];simp
  .show upd B.H x _ b≠none;rw[ae h];exact E.bdom b q
 .by_cases h:b=x
  .subst h;rw[ai];exact .inr (.inl ⟨_,_,_,rfl⟩)
  .rw[ae h];exact E.lis b q
 .let⟨v,e,o⟩:=h1 i s q;refine⟨v,e,o.frame (by rw[p];exact Same.refl _) λa g u t=>?_⟩;have:a≠x:=λz=>no i (z▸g);rw[ae this];exact t
 .have:a≠x:=λz=>no i (z▸g);show upd B.H x _ a=none;rw[ae this];exact(l i a g).2
end
noncomputable def  nV(f:Str)(d:D):List (Str×D)->List (Str×D)
 |[]=>[(f,d)]
 |(g,e)::r=>if g=f then(g,d)::r else(g,e)::nV f d r
def rr{K}(h:Is K M d v):∀{fd:List (Str×D)}{fs:List (Str×V)},fs.map (·.1)=fd.map (·.1)->IsL K M (fd.map (·.2)) (fs.map (·.2))->
  (gD f v fs).map (·.1)=(nV f d fd).map (·.1)/\IsL K M ((nV f d fd).map (·.2)) ((gD f v fs).map (·.2))
 |[],[],_,_=>⟨rfl,v,[],rfl,h,rfl⟩
 |[],_::_,e,_=>by simp at e
 |_::_,[],e,_=>by simp at e
 |(g,c)::fd,(g',u)::fs,e,⟨x,r,z,q,l⟩=>by
  have e1:g'=g:=by simp at e;exact e.1
  have e2:fs.map (·.1)=fd.map (·.1):=by simp at e;simpa using e.2
  subst e1;have z':u::fs.map (·.2)=x::r:=z;cases z';unfold gD nV;by_cases hg:g'=f
  .rw[if_pos hg,if_pos hg];exact⟨by simp[e2],v,_,rfl,h,l⟩
  .rw[if_neg hg,if_neg hg];let⟨a,b⟩:=rr h e2 l;exact⟨by simp[a],u,_,rfl,q,b⟩
abbrev uR:=Ev->List (Str×D)->Option (List (Str×D))
def  Uf(K:Frag)(Ca:Addr)(B:Bs)(O:U5)(Y:Ev)(x dx:Addr)(fd:List (Str×D))(o:Option (List (Str×D))):TS:=λEn σ H=>EnvOk K B O σ H Y/\B.O x=true/\
 (∃fs,B.H x=!(.ins Ca dx fs)/\fs.map (·.1)=fd.map (·.1)/\IsL K (msk O H) (fd.map (·.2)) (fs.map (·.2)))/\∃fd',o=!fd'/\
 ∀σ' H' O' fs',(∀b o,b≠x->B.H b=!o->H' b=!o)->(∀b,B.O b=true->O' b=true)->H' x=!(.ins Ca dx fs')->fs'.map (·.1)=fd'.map (·.1)->IsL K (msk O' H') (fd'.map (·.2)) (fs'.map (·.2))->En.nx σ' H'
def  DD(X:Cx)(Ca x:Addr)(st:List Stmt)(I:uR):Prop:=∀B O Y dx fd,PSs X st (Uf X.K Ca B O Y x dx fd (I Y fd))
def  A5:uR:=λ_ fs=>!fs
def  stI(F:US)(G:uR):uR:=λY fs=>(F Y).bind λo=>match o with
 |.nx Y'=>G Y' fs
 |_=>none
def  tN(x:Addr)(i:Nat)(f:Str)(g:UU)(G:uR):uR:=λY fs=>(g Y).bind λz=>match gJ z.2 i with
 |some (.sh,.adr a)=>if a=x/\fs.length<900 then G z.2 (nV f z.1.2 fs)else none
 |_=>none
section
variable{X:Cx}{Ca x:Addr}{st:Stmt}{rest:List Stmt}{e:Expr}{pos:Pos}
def Jl:DD X Ca x [] A5:=λB O Y dx fd=>pss_nil.imp λp σ H ⟨E,l,⟨fs,h1,h2,g⟩,j,q,k⟩=>by
 cases q;exact k σ H O fs (λb o _ h=>E.same b o h) E.sub (E.same x _ h1) h2 g
def ES(h1:PR X st F)(h2:DD X Ca x rest G):DD X Ca x (st::rest) (stI F G):=λB O Y dx fd=>
 (gi (h1 B O Y) (PSs.ex λz:(U5)×Ev=>h2 B z.1 z.2 dx fd)).imp λU σ H ⟨E,r,⟨fs,I,C,t⟩,j,q,k⟩=>by
 let⟨l,p,g⟩:=VA q;refine⟨E,l,p,?_⟩;cases l with
 |nx Y'=>exactλo H' J s' T=>⟨⟨J,Y'⟩,T,r,⟨fs,I,C,IsL.mono s' _ _ t⟩,j,g,k⟩
 |rt d=>cases g
 |bk Y'=>cases g
 |ct Y'=>cases g
def Jm(i:Nat)(hv:pE X e g)(h2:DD X Ca x rest G)(hN:X.N[i]?=!self)(l:pQ X.env.scope self)(hd:(self==("__debug__":Str))=false)(t:(self==("__classdict__":Str))=false)(hs:swapsWith e (!(.Attribute (.Name self px) f pos')) pos.line X.env=pure false)(c:Cls X.K Ca)(na:NoAttr X.K Ca f):DD X Ca x (.Assign [.Attribute (.Name self px) f pos'] e pos::rest) (tN x i f g G):=λB O Y dx fd=>
 (gi (z9 (bK hN l hd t) (hv B O Y).1 hs) (PSs.ex λz:Bs×(U5)×Ev×List _=>h2 z.1 z.2.1 z.2.2.1 dx z.2.2.2)).imp λEn σ H ⟨E,T,⟨fs,a1,a2,a3⟩,C,q,k⟩=>by
 let⟨⟨s,Y'⟩,q1,q⟩:=VA q;refine⟨E,s,Y',q1,λy H1 O1 s1 E1=>?_⟩;let⟨O2,J,s2,iy⟩:=E1.thaw;have j:=q;split at j
 .rename_i a ha;split at j
  .rename_i hc;let⟨rfl,hl⟩:=hc;let⟨F,f1,_⟩:=J.fp;let⟨w,ew,ow⟩:=f1 i _ (de ha);cases(ow.2);have p:=J.same a _ a1;have U:fs.length=fd.length:=by have:=congrArg List.length a2;simpa using this
   refine⟨.ref a,ew,a,Ca,dx,fs,rfl,p,c,na,by omega,?_⟩;let⟨E3,me⟩:=J.store T a1;have I:=IsL.mono (s1.trans s2) _ _ a3;let⟨b1,b2⟩:=rr iy a2 I;refine⟨⟨⟨upd B.H a _,B.O⟩,O2,Y',nV f s.2 fd⟩,E3,T,⟨_,ai,b1,by rw[me];exact b2⟩,C,j,λr H' O' fs' k1 k2 k3 k4 k5=>k r H' O' fs' (λb o p h=>k1 b o p (by show upd B.H a _ b=!o;rw[ae p];exact h)) k2 k3 k4 k5⟩
  .cases j
 .cases j
end
def  vF(n:Nat)(x:Addr)(ds:U7):Ev:=aD n (.adr x::ds)
def  rz(n m:Nat)(I:Addr->uR)(x:Addr)(ds:U7):Option (List (Str×D)):=if ds.length+1=n then I x (vF m x ds) []else none
def QN{K}{st}(Fn:Fun K x p st f fd)(S:FnScope N ps (ah st))(hg:∀ds r,g ds=!r->∀y,rz ps.length N.length I y ds=!r)(hb:∀(y:Addr)(l:Value)(A:Around)(j:List Env)(s:Shared)(H:Hp)(E:XK),Room k (A.deeper (envOfC p (ah st) s.heap.objs.size f l))->DD (nq qV P w K mg base N p (ah st) f l A j s H E).nox Ca y (aL st) (I y)):
  FnOk P w K mg base qV (k+1) f fd ps (SG K Ca g):=by
 refine Fn.ok S (λvs H Q E ⟨y,t,dx,O,ds,r,U,_,_,_,J,e,_⟩=>?_) (λl A j s H vs Q E hr ⟨y,t,dx,O,ds,r,U,hy,hO,T,J,e,kk⟩=>?_)
 .have:=hg ds r e 0;unfold rz at this;split at this
  .rename_i h;rw[U,length_cons,<-J.len];exact h
  .cases this
 .have q:=hg ds r e y;unfold rz at q;split at q
  .subst U;have C:IsL K (msk O H) (.adr y::ds) (.ref y::t):=⟨_,_,rfl,rfl,J⟩;refine⟨_,hb y l A j s H E hr ⟨H,O⟩ O _ dx [],nS hO C,T,⟨[],hy,rfl,rfl⟩,r,q,λσ' H' O' fs' k1 k2 k3 k4 k5=>?_⟩;refine kk H' fs' k1 k3 k4 (IsL.mono (λb o z=>?_) _ _ k5);let⟨z1,z2⟩:=aW z;rw[aN];exact z2;cases zz:O b with
   |false=>rfl
   |true=>rw[k2 b zz]at z1;cases z1
  .cases q
structure NSt(b:Bool)(z j l:Addr)(k:Nat)(h:Heap):Prop where
 ne:z≠j
 hz:∃old,IsEnum h z j k old
 h1:ItK b h j l k
section
variable{prog:Program}{w:World}{A:Around}{E:UZ}{s:Shared}
def A6{k:Nat}{Q:UZ}(Z:IsEnum s.heap z j k old)(J:ItK b s.heap j l k)(C:CoK b s.heap l xs)(hx:xs[k]?=!x)(ne:z≠j)(hQ:∀g,IsEnumOut g z j ((k:Int)+1) x s.heap.objs.size->ItK b g j l (k+1)->g.get? s.heap.objs.size=some {cls:=.type "tuple",data:=.seq #[.int k s.toks,x]}->g.objs.size=s.heap.objs.size+1->
   (∀d o,d≠z->d≠j->s.heap.get? d=!o->g.get? d=!o)->Q (.ref s.heap.objs.size) {s with heap:=g,toks:=s.toks+1}):
  wpAny (!7) A (Builtin.«enumerate.__next__» ⟨[.ref z],[]⟩) (λfin s'=>∃v,fin=.done (.ret v)/\Q v s') E s:=by
 cases s with
 |mk p gn dr tk os=>
 show wpAny _ _ (field (.ref z) 2>>=_) _ _ _
 refine Vb (wpAny_field Z rfl rfl (Vb (wZ J C hx λg1 J1 I=>?_)))
 replace I:Heap.SameBut j p g1:=I
 have Z1:=(I.2 z ne).trans Z
 refine Vb (wpAny_field Z1 rfl rfl ?_)
 refine Vb (wpAny_field Z1 rfl rfl ?_)
 refine Vb (wpAny_mkInt ?_)
 show wpAny _ _ (setField (.ref z) 3 (rawInt ((k:Int)+1))>>=_) _ _ ⟨g1,gn,dr,tk+1,os⟩
 refine Vb (wpAny_setField_rec Z1 (by simp) λg2 Z2 t=>?_)
 replace t:Heap.SameBut z g1 g2:=t
 replace Z2:IsEnum g2 z j ((k:Int)+1) old:=Z2
 refine Vb (wpAny_setField_rec Z2 (by simp) λg3 Z3 r=>?_)
 replace r:Heap.SameBut z g2 g3:=r
 replace Z3:IsEnum g3 z j ((k:Int)+1) old:=Z3
 refine Vb (wpAny_newTuple ?_)
 have Z4:IsEnum (g3.push {cls:=.type "tuple",data:=.seq #[.int k tk,x]}) z j ((k:Int)+1) old:=Vc _ Z3
 have sz:g3.objs.size=p.objs.size:=by rw[r.1,t.1,I.1]
 have zl:=Ve Z
 have T4:(g3.push {cls:=.type "tuple",data:=.seq #[.int k tk,x]}).get? p.objs.size=some {cls:=.type "tuple",data:=.seq #[.int k tk,x]}:=by rw[<-sz];exact Vf _ rfl
 have z4:(g3.push {cls:=.type "tuple",data:=.seq #[.int k tk,x]}).objs.size=p.objs.size+1:=by rw[Heap.size_push,sz]
 have k4:∀d o,d≠z->d≠j->p.get? d=!o->(g3.push {cls:=.type "tuple",data:=.seq #[.int k tk,x]}).get? d=!o:=λd o T n2 e=>
  Vc _ (r.extBut d o T (t.extBut d o T (I.extBut d o n2 e)))
 have J4:ItK b (g3.push {cls:=.type "tuple",data:=.seq #[.int k tk,x]}) j l (k+1):=((J1.ext t ne.symm).ext r ne.symm).at λo e=>Vc _ e
 generalize g3.push {cls:=.type "tuple",data:=.seq #[.int k tk,x]}=g4 at Z4 T4 z4 k4 J4
 rw[sz]
 refine Vb ?_
 refine Vb (wpAny_field Z4 rfl rfl (Vd ?_))
 refine Vb (wpAny_rule (Vb (wpAny_field Z4 rfl (x:=old) rfl (Vb (wpAny_setField_rec Z4 (by simp) λg5 Z5 s5=>?_)))))
 replace s5:Heap.SameBut z g4 g5:=s5
 replace Z5:IsEnum g5 z j ((k:Int)+1) x:=Z5
 show wpAny _ _ (Builtin.SmallTypes.ownedTupleHandOut (.ref z) (.ref p.objs.size)>>=_) _ _ ⟨g5,gn,dr,tk+1,os⟩
 refine Vb ?_
 refine Vb (wpAny_setField_rec Z5 (by simp) λg6 Z6 s6=>?_)
 replace s6:Heap.SameBut z g5 g6:=s6
 replace Z6:IsEnumOut g6 z j ((k:Int)+1) x p.objs.size:=Z6
 refine wpAny_setField_rec Z6 (by simp) λg7 Z7 U=>?_
 replace U:Heap.SameBut z g6 g7:=U
 replace Z7:IsEnumOut g7 z j ((k:Int)+1) x p.objs.size:=Z7
 have up:∀d o,d≠z->g4.get? d=!o->g7.get? d=!o:=λd o n e=>U.extBut d o n (s6.extBut d o n (s5.extBut d o n e))
 exact Vb (wpAny_letGo (Vd ⟨_,rfl,hQ g7 Z7 (J4.at λo e=>up _ o ne.symm e) (up _ _ (Nat.ne_of_gt zl) T4) (by rw[U.1,s6.1,s5.1,z4]) λd o T n2 e=>up d o T (k4 d o T n2 e)⟩))
def A7(Z:NSt b z j l k s.heap)(C:CoK b s.heap l xs)(hx:xs[k]?=!x)(hQ:∀g,IsEnumOut g z j ((k:Int)+1) x s.heap.objs.size->ItK b g j l (k+1)->g.get? s.heap.objs.size=some {cls:=.type "tuple",data:=.seq #[.int k s.toks,x]}->g.objs.size=s.heap.objs.size+1->
   (∀d o,d≠z->d≠j->s.heap.get? d=!o->g.get? d=!o)->Q (!(.ref s.heap.objs.size)) {s with heap:=g,toks:=s.toks+1}):wpAny (!7) A (pyNext (.ref z)) Q E s:=by
 let⟨ne,⟨old,hz⟩,h1⟩:=Z
 have T:s.TypeIs (.ref z) "enumerate":=⟨_,hz,rfl⟩
 exact Vb (wpAny_attempt (wpAny_callSpecial?_slot T F.slot_enumerate_next (wpAny_call_entry F.slot_enumerate_next T F.entry_enumerate_next
  (A6 hz h1 C hx ne λg a c d e f=>Vd (hQ g a c d e f)) (F.args_enumerate_next_1 _))))
def A8(hh:A.handled=none)(Z:NSt b z j l k s.heap)(C:CoK b s.heap l xs)(hx:xs[k]?=none)(hQ:∀g,Heap.ExtBut j s.heap g->Q none {s with heap:=g}):wpAny (!7) A (pyNext (.ref z)) Q E s:=by
 let⟨ne,⟨old,hz⟩,h1⟩:=Z;have T:s.TypeIs (.ref z) "enumerate":=⟨_,hz,rfl⟩;refine Vb (wpAny_attempt (wpAny_callSpecial?_slot T F.slot_enumerate_next (wpAny_call_entry F.slot_enumerate_next T F.entry_enumerate_next ?_ (F.args_enumerate_next_1 _))));show wpAny _ _ (field (.ref z) 2>>=_) _ _ _;refine Vb (wpAny_field hz rfl rfl (Vb (lA hh h1 C hx λg e q he=>?_)));let⟨o,ho,hc⟩:=he;exact Vb (wpAny_isInstance ⟨o,ho,hc⟩ isSubtype_stop (Vd (hQ _ q)))
abbrev nG(h:Heap)(b:Bool)(l:Addr):Heap:=(h.push (aM b l)).push {cls:=.type "enumerate",data:=.fields #[.none,.bool false,.ref h.objs.size,rawInt 0,.none,.none]}
def ET(b:Bool)(l:Addr)(xs:U6):Meets (Builtin.«enumerate.__new__» ⟨[.type "enumerate",.ref l],[]⟩) (λ_ R s=>CoK b s.heap l xs/\
   R (.ok (.ret (.ref (s.heap.push (aM b l)).objs.size))) {s with heap:=nG s.heap b l}):=
 .of_wp λprog w A R s h=>by
  cases s with
  |mk hp gn dr tk os=>
  let⟨c0,h⟩:=h;have hsub:=sub_enumerate;have C:CoK b (Shared.heap ⟨hp,gn,dr,tk,os⟩) l xs:=c0;wp_walk using tH C;refine wpAny_stack_any λst=>Vd ?_;split
  .rename_i c _ _ _ _ _;cases(c==Value.type "enumerate")<;>(wp_walk using tH C;exact⟨_,rfl,h⟩)
  .wp_walk using tH C;exact⟨_,rfl,h⟩
def A9(C:CoK b s.heap l xs)(h:∀g,NSt b (!13) s.heap.objs.size l 0 g->g.objs.size=s.heap.objs.size+2->(∀d o,s.heap.get? d=!o->g.get? d=!o)->Q (.ref (!13)) {s with heap:=g}):
  wpAny (!7) A (call (.type "enumerate") [.ref l]) Q E s:=by
 refine callType_new F.called_enumerate (!3) (F.typeCall_enumerate_1 _) (F.newCall_enumerate_1 _) (λobj=>F.args_object_init_2 obj _) F.entry_enumerate_new (ET b l xs) ⟨C,?_⟩
 have z1:(s.heap.push (aM b l)).objs.size=s.heap.objs.size+1:=Heap.size_push ..
 have g2:IsEnum (nG s.heap b l) (!13) s.heap.objs.size 0 .none:=by
  have:=Vf (s.heap.push (aM b l)) (o:={cls:=.type "enumerate",data:=.fields #[.none,.bool false,.ref s.heap.objs.size,rawInt 0,.none,.none]}) rfl;rw[z1]at this;exact this
 have fb:(aM b l).isFreed=false:=by cases b<;>rfl
 have g1:(nG s.heap b l).get? s.heap.objs.size=!_:=Vc _ (Vf _ fb)
 have i1:ItK b (nG s.heap b l) s.heap.objs.size l 0:=by cases b<;>exact⟨_,g1,rfl,rfl⟩
 rw[z1]
 exact⟨⟨_,g2,rfl⟩,h _ ⟨Nat.succ_ne_self _,⟨_,g2⟩,i1⟩ (by rw[Heap.size_push,z1]) λd o x=>Vc _ (Vc _ x)⟩
end
def  QO(K:Frag)(b:Bool)(l:Addr):It:=
 ⟨λi H=>∃xs x,SqK b K H l xs/\xs[i]?=!x,
  λi H v H'=>∃p x,v=.ref p/\H p=none/\H'=upd H p (.tup [.int i,x])/\∀xs,SqK b K H l xs->xs[i]?=!x,
  λi H=>∃xs,SqK b K H l xs/\xs.length<=i⟩
def NSt.live(Z:NSt b z j l k h)(hd:d∈[z,j]):∃o,h.get? d=!o/\∀v,o.data≠.cell v:=by
 simp at hd;rcases hd with rfl|rfl
 .let⟨old,e⟩:=Z.hz;exact⟨_,e,λv q=>by cases q⟩
 .let⟨o,n,p,e,_,g,_⟩:=Z.h1.live;exact⟨o,e,λv q=>by rw[g]at q;cases q⟩
def Ba{P:Program}{w:World}{K:Frag}{g:U8}{x1:Nat}{tpos:Pos}(b:Bool)(l z j:Addr):
  Turn P w K (.Tuple g x1 tpos) (QO K b l) [z,j] z (λi h=>NSt b z j l i h) where
 mem:=by simp
 obj:=λi h Z d hd=>Z.live hd
 keep:=λi h h' Z k=>by
  let⟨old,e⟩:=Z.hz;exact⟨Z.ne,⟨old,k z (by simp) _ e⟩,Z.h1.at λo q=>k j (by simp) o q⟩
 item:=by
  intro X hP hw hK hc i pins s σ H E I r Z hg;subst hP hw hK;let⟨xs,x,p,ex⟩:=hg;let⟨U,rv,J,_⟩:=I.coK p;let⟨u,hu,ru⟩:=rv.get ex;refine A7 Z J (by simpa using hu) λh' Z' J' T' sz T=>⟨_,rfl,?_⟩;refine wpAny_letOwnedTupleGo_enum Z' λh2 hz2 C=>?_;let⟨old,hz⟩:=Z.hz;have t:=Ve hz;have Z2:NSt b z j l (i+1) h2:=⟨Z.ne,⟨_,by rw[show((i+1:Nat):Int)=(i:Int)+1 from rfl];exact hz2⟩,J'.at λo q=>C.extBut _ _ Z.ne.symm q⟩;have T2:=C.extBut _ _ (Nat.ne_of_gt t) T';have kk:∀d o,d ∉ [z,j]->s.heap.get? d=!o->h2.get? d=!o:=λd o hd e=>by
   simp at hd;exact C.extBut _ _ hd.1 (T d o hd.1 hd.2 e)
  have fr:=I.hok.fresh (Vy _);refine⟨.ref s.heap.objs.size,_,I.turnedNew r kk (Vy _) ?_,rfl,⟨s.heap.objs.size,x,rfl,fr,rfl,λzs hzs=>by rw[I.coK_inj hzs p];exact ex⟩,Z2,λd hd=>?_⟩
  .exact⟨by show 2<=sizeLine;decide,[.int i s.toks,u],.cons ⟨_,rfl⟩ (.cons ru .nil),⟨_,T2,rfl,_,rfl⟩⟩
  .let⟨o,eo,_⟩:=Z.live hd;rw[ae (Nat.ne_of_lt (Heap.lt_size eo))];exact(r d hd).1
 done:=by
  intro X hP hw hK hc i pins s σ H E I r Z hg;subst hP hw hK;let⟨xs,p,hl⟩:=hg;let⟨U,rv,J,_⟩:=I.coK p;have e1:=rv.length;refine A8 (I.ok.hd hc) Z J (by simp;omega) λh' T=>⟨rfl,I.turnedL r λd o hd e=>?_⟩;simp at hd;exact T d o hd.2 e
 self:=λ_ _ _ _ _ Z h=>by
  let⟨old,e⟩:=Z.hz;exact wpAny_pyIter_enum e h
def Jn:bootBuiltins "enumerate"=!(.type "enumerate"):=by decide+kernel
def  QP(K:Frag)(ta:TA):TI:=λσ H R=>ta σ H λvs H1=>∃b l xs,vs=[.ref l]/\SqK b K H1 l xs/\R (QO K b l) H1
def Jo{x1}(hg:Gl X "enumerate")(hm:X.mg "enumerate"=none)(ha:PA X [a] ta)(hs:starEach [a] X.env=[(false,eval a X.env)]):
  PI X (.Tuple elts x1 tpos) (.Call (.Name "enumerate" p) [a] [] pos) (QP X.K ta):=by
 intro pins s σ H R I h
 refine Call_ (dI I hg hm Jn (PyProof.Rows.callWith_type1 (bq (ha pos pins s σ H _ I h) λus s1 ⟨vs,H1,I1,r1,q1⟩=>?_) (by rw[hs];rfl) (by rfl)))
 let⟨b,l,xs,e,hx,q⟩:=q1
 subst e
 let⟨u,rfl,ru⟩:=fC r1
 cases ru
 let⟨its,rx,p1,_⟩:=I1.coK hx
 refine A9 p1 λh' Z sz k=>?_
 let⟨old,hz⟩:=Z.hz
 refine wpAny_pyIter_enum hz ?_
 have I2:Inv X pins σ H1 {s1 with heap:=h'}:=I1.kept k
 refine⟨s1.heap.objs.size+1,[s1.heap.objs.size+1,s1.heap.objs.size],_,_,H1,rfl,I2,Ba b l _ _,Z,λd hd=>?_,q⟩
 have hge:s1.heap.objs.size<=d:=by
  simp at hd;rcases hd with rfl|rfl<;>first|exact Nat.le_add_right _ _|exact Vy _
 exact I1.fpOk hge (I1.hok.fresh hge)
def  ma(xs:U7):U7:=xs.zipIdx.map λp=>.tup [.int (p.2:Nat),p.1]
def Bb{K}{b}(I:SqK b K r l xs)(p:IsL K r ds xs):nN K r (QO K b l) (ma ds):=λi H O s hd=>by
 have g:=I.mono (s.trans msk_le);refine⟨λd hi=>?_,λhi=>⟨xs,g,?_⟩⟩
 .unfold ma at hi;rw[getElem?_map,List.getElem?_zipIdx]at hi;cases e:ds[i]? with
  |none=>rw[e]at hi;cases hi
  |some d1=>
   rw[e]at hi;cases hi;let⟨x,ex,C⟩:=p.get e;refine⟨⟨xs,x,g,ex⟩,?_⟩;rintro v U ⟨q,T,rfl,j,rfl,t⟩;have o:=t xs g;rw[ex]at o;cases o;have J:=gk hd j;refine⟨Same.new j,q,[.int i,x],rfl,.of (by rw[aN J,ai]),?_⟩;have le:Same (msk O H) (msk O (upd H q (.tup [.int i,x]))):=(Same.new j).msk;exact⟨.int i,[x],rfl,by show V.int _=V.int _;simp,x,[],rfl,Is.mono (s.trans le) _ _ C,rfl⟩
 .have h1:=p.len;unfold ma at hi;rw[length_map,List.length_zipIdx]at hi;omega
def  xi:U7->UY:=tq λc=>(seqD c).bind λxs=>!(ma xs)
def Jp{X:Cx}{a:Expr}{p:Pos}{pos:Pos}{x1}(hg:Gl X "enumerate")(hm:X.mg "enumerate"=none)(ha:PX X [a] fa)(hs:starEach [a] X.env=[(false,eval a X.env)]):
  PJ X (.Tuple j x1 tpos) (.Call (.Name "enumerate" p) [a] [] pos) (λY=>(fa Y).bind xi):=λO Y=>(Jo hg hm (ha O Y) hs).imp λσ H R ⟨E,ds,q,k⟩=>by
 let⟨as,e1,q⟩:=VA q
 refine⟨E,as,e1,λvs H1 o U=>?_⟩
 let⟨c,rfl,C⟩:=bd q
 let⟨xs,t,r⟩:=VA C
 cases r
 let⟨u,rfl,T⟩:=uQ U
 let⟨J,l,rfl,g,I⟩:=gI t T
 let⟨b1,g⟩:=vn g
 exact⟨b1,J,l,rfl,g.mono msk_le,k _ H1 o (Bb g I)⟩
section
variable{X:Cx}{a b:Expr}{pos:Pos}
def  M1(K:Frag):R2:=λx y H Q=>∃l m xs zs,x=.ref l/\y=.ref m/\SqL K H l xs/\SqL K H m zs/\xs.length+zs.length<=sizeLine/\∀p,H p=none->Q (.ref p) (upd H p (.lst (xs++zs)))
def EU:OpR X (binaryOp .Add) (M1 X.K):=by
 intro pins s σ H x y v u Q I rx U h;let⟨l,m,xs,zs,rfl,rfl,h1,h2,hz,q⟩:=h;cases rx;cases U;let⟨j,p,⟨⟨c1,d1,t1,T⟩,n1,r,k1,_,C⟩,_⟩:=I.list h1;let⟨g,o,⟨⟨c2,d2,t2,J⟩,n2,e2,k2,_,t⟩,_⟩:=I.list h2;subst k1 C k2 t;have hl1:=p.length;have hl2:=o.length;refine concat_meets ⟨_,r,rfl⟩ ⟨_,e2,rfl⟩ noFill_list_add seq_list_add PySem.F.slot_list_add PySem.F.entry_list_add (PySem.F.args_list_add_2 _ _) (list_addW l m j.toArray g.toArray n1 n2 d1 d2 T J (by rw[size_toArray,size_toArray];omega)) ⟨r,e2,?_⟩;rw[show j.toArray++g.toArray=(j++g).toArray by simp];exact⟨.ref _,_,I.lnew (p.append o) (by rw[length_append];omega),rfl,q _ I.fresh⟩
def  QQ(d e:D):UY:=(lu d).bind λxs=>(lu e).bind λys=>bJ (!(xs++ys))
def  nW(fa fb:UR):UQ:=λY=>(fa Y).bind λx=>(fb Y).bind λy=>QQ x y
def Jq(ha:PP X a fa)(hb:PP X b fb):PF X (.BinOp a .Add b pos) (nW fa fb):=λO Y=>(GY EU (ha O Y) (hb O Y)).imp λσ H Q ⟨E,ds,q,k⟩=>by
 let⟨dx,e1,q⟩:=VA q;let⟨dy,e2,q⟩:=VA q;let⟨xs,f1,q⟩:=VA q;let⟨ys,f2,q⟩:=VA q;let⟨g1,g2⟩:=da q;cases g1;refine⟨E,dx,e1,λx H1 j U=>⟨E.grow j,dy,e2,λy H2 g T=>?_⟩⟩;let⟨l,C,rfl,J,r⟩:=cH f1 (Is.mono g.msk dx x U);let⟨m,t,rfl,I,o⟩:=cH f2 T;refine⟨l,m,C,t,rfl,rfl,msk_le.seq J,msk_le.seq I,?_,λp hp=>k p _ H2 (j.trans g) hp (r.app o)⟩;rw[length_append]at g2;rw[<-r.len,<-o.len];exact Vu g2
end
def EV:typeLookup (.type "list_reverseiterator") "__len__"=pure none:=by constructor<;>grind
def Bc:typeLookup (.type "list_reverseiterator") "__length_hint__"=pure (!(.builtin "list_reverseiterator.__length_hint__")):=by constructor<;>grind
section
variable{prog:Program}{w:World}{A:Around}{E:UZ}{s:Shared}
def Bd(J:s.heap.IsRevIter j l i)(h:Q false s):wpAny (!7) A (Builtin.List.listLengthHint (.ref j)) Q E s:=by
 refine Vb (wpAny_specialOf J.typeIs EV ?_);refine Vb (wpAny_specialOf J.typeIs Bc ?_);generalize o:("list_reverseiterator.__length_hint__":String)=id0;wp_delta;rw[show splitId id0=some ("list_reverseiterator","__length_hint__")from by subst o;decide+kernel];subst o;refine Vb (wpAny_isInstance (b:=true) J.typeIs (by rw[isSubtype_type];kernel_rfl) ?_);refine wpAny_ite_split (λg=>absurd g (!3)) (λ_=>?_);refine wpAny_ite_split (λ_=>?_) (λg=>absurd (!16) g);refine wpAny_ite_split (λg=>absurd g (!16)) (λ_=>?_);exact Vd h
def EW(hh:A.handled=none)(J:s.heap.IsRevIter j l ((xs.size:Int)-1))(C:s.heap.IsList l xs)(ne:l≠j)(hS:s.heap.get? S=some {cls:=.type "list",data:=.seq #[] t})(U:S≠j)(nl:S≠l)(hn:xs.size<=sizeLine)(hR:∀g tk p c,(∀d o,d≠S->d≠j->s.heap.get? d=!o->g.get? d=!o)->g.get? S=some {cls:=.type "list",dict:=none,data:=.seq p c,slots:=#[]}->
   ItemsOf (λi v=>xs[xs.size-1-i]?=!v) p xs.size->R (.ok (.ret res)) {s with heap:=g,toks:=tk}):
  wpAny (!7) A.in1 (Builtin.List.listExtendWith (.ref S) (.ref j) res)
   (λfin s'=>match fin with|.done f=>R (.ok f) s'|.again c'=>c'.quiet=true/\codeAny (!7) A c' R s') (λe s'=>R (.error e) s') s:=by
 have W:=(Walks.listRev (prog:=prog) (w:=w) (A:=A.in1) hh j l ne xs).toS
 refine Vb (wpAny_typeOf J.typeIs ?_)
 have h1:Builtin.List.listSameRef (.ref S) (.ref j)=false:=by simp[Builtin.List.listSameRef,U]
 have h2:(Value.type "list_reverseiterator"==Value.type "list")=false:=by decide
 have h3:(Value.type "list_reverseiterator"==Value.type "tuple")=false:=by decide
 simp only[h1,h2,h3,Bool.or_false,Bool.false_eq_true,if_false]
 refine Vb (wpAny_pyIter_revIter J (Vb (wpAny_holding (Bd J ?_))))
 refine wpAny_ite_split (λI=>absurd I (!16)) (λ_=>Vd ⟨plainId_quiet F.plain_extend_loop _,?_⟩)
 refine codeAny_extend_loopS W hn S (by simp[U,nl]) res xs.size 0 _ #[] t rfl (Nat.zero_le _) ⟨Nat.zero_le _,by simpa using J,C⟩ hS (ItemsOf.nil _) λs' p c hm T r=>?_
 rw[Moved.eq_with hm]
 exact hR s'.heap s'.toks p c (λd o n1 n2 e=>hm.heap d o (by simp[n1,n2]) e) T r
def yS{xs g:U6}(h:ItemsOf (λi v=>xs[xs.size-1-i]?=!v) g xs.size):g.toList=xs.toList.reverse:=by
 apply List.ext_getElem?;intro i;by_cases hi:i<xs.size
 .have h1:i<g.size:=by rw[h.1];exact hi
  have e:=h.2 i _ (Array.getElem?_eq_getElem h1);rw[List.getElem?_reverse (by simpa using hi),Array.getElem?_toList,Array.getElem?_toList,Array.getElem?_eq_getElem h1,<-e];simp
 .rw[List.getElem?_eq_none (by rw[Array.length_toList,h.1];omega),List.getElem?_eq_none (by rw[List.length_reverse,Array.length_toList];omega)]
end
def Hn:bootBuiltins "reversed"=!(.type "reversed"):=by decide+kernel
def M2:bootBuiltins "list"=!(.type "list"):=by decide+kernel
def IsL.rev{K}:∀{ds:U7}{xs:List V},IsL K H ds xs->IsL K H ds.reverse xs.reverse
 |[],xs,h=>by cases h;rfl
 |d::ds,xs,⟨x,r,e,h,l⟩=>by
  subst e;rw[List.reverse_cons,List.reverse_cons];exact(IsL.rev l).app ⟨_,_,rfl,h,rfl⟩
def yT(l:Addr)(xs:U6)(n:Nat)(m:Addr)(ys:U6)(k:Nat)(dd:Option Addr)(sl:Array (U1))(hc0:¬(not xs.isEmpty&&Builtin.List.listTooLong (xs.size+ys.size))=true)(hc1:xs.size<=sizeLine)(hs2:xs.size+ys.size<=sizeLine+1):
  Meets (Builtin.«list.extend» ⟨[.ref l,.ref m],[]⟩) (λ_ R s=>s.heap.get? l=some {cls:=.type "list",dict:=none,data:=.seq xs n,slots:=#[]}/\s.heap.get? m=some {cls:=.type "list",dict:=dd,data:=.seq ys k,slots:=sl}/\R (.ok (.ret Value.none)) {s with heap:=s.heap.update l (Obj.mapSeq λx=>x++ys),toks:=s.toks}):=
 .of_wp λprog w A R s h=>by
  let⟨hl,hb,h⟩:=h;wp_walk using (wpAny_updateSeq hl rfl),AutoSeq1.wpAny_loadPart' hl,AutoSeq1.wpAny_loadPart' hb;exact⟨_,rfl,h⟩
def  M3(K:Frag):V->List V->Hp->VK->Prop:=λx vs H Q=>∃l m xs zs,x=.ref l/\vs=[.ref m]/\H l=!(.lst xs)/\SqL K H m zs/\xs.length+zs.length<=sizeLine/\Q .non (upd H l (.lst (xs++zs)))
def rA:Mi X "list.extend" (M3 X.K):=by
 intro pins s σ H x vs v us Q I rx rv h;let⟨l,m,xs,zs,rfl,rfl,hH,hB,hz,q⟩:=h;cases rx;let⟨u,rfl,ru⟩:=rv.one;cases ru;let⟨z,its,n,r,hl,e⟩:=I.lstM hH;let⟨jts,r2,⟨⟨c2,d2,t2,s2⟩,n2,e2,k2,_,w2⟩,_⟩:=I.list hB;subst k2 w2;have hl2:=r2.length;have hsz:its.toArray.size+jts.toArray.size<=sizeLine:=by rw[size_toArray,size_toArray];omega
 have hlong:¬ (not its.toArray.isEmpty&&Builtin.List.listTooLong (its.toArray.size+jts.toArray.size))=true:=by
  rw[An hsz,Bool.and_false];exact Vg
 refine call_meets F.slot_list_extend ⟨_,e,rfl⟩ F.entry_list_extend (F.args_list_extend_2 _ _) (yT l its.toArray n m jts.toArray n2 d2 s2 hlong (by rw[size_toArray];omega) (!1)) ⟨e,e2,?_⟩;refine⟨.non,_,I.lset hH e (by simp) (r.append r2) ?_,rfl,q⟩;grind
def  extS(d:D):Sl:=if lfD d then(.deep,d)else(.sh,d)
def  extC:Cat->U7->Cat
 |c,[]=>c
 |c,d::ds=>extC (newCat c (extS d)) ds
section
variable{K:Frag}{B:Bs}
def EnvOk.moreS(E:EnvOk K B O σ H Y)(h:Is K (msk O H) d v):EnvOk K B O (σ++[!v]) H (Y++[!(extS d)]):=by
 unfold extS;split
 .rename_i f;exact E.more (A:=[]) (Same.refl _) (Same.refl _) (λ_ h=>.inl h) (λ_ h=>h) (λ_ h=>(nomatch h)) (λ_ h=>(nomatch h)) List.nodup_nil (λ_ h=>(nomatch h)) (Is.deep d v f h)
 .exact E.moreSh h
def ql(c:Cat)(s:Sl):newCat c s≠.sh:=by unfold newCat;split<;>intro z<;>cases z
def Be(h:H a=!o):upd H a o=H:=by
 funext b;simp_all [Hp,upd]
def EnvOk.extend{i:Nat}:∀{es:U7}{zs:List V}{O:U5}{H:Hp}{Y:Ev}{c:Cat}{ds:U7},EnvOk K B O σ H Y->Y[i]?=!(!(c,.lst ds))->c≠.sh->IsL K (msk O H) es zs->
  ∃a xs,σ[i]?=!(!(.ref a))/\H a=!(.lst xs)/\ds.length=xs.length/\∃O',EnvOk K B O' σ (upd H a (.lst (xs++zs))) (Y.set i (!(extC c es,.lst (ds++es))))/\Same (msk O H) (msk O' (upd H a (.lst (xs++zs))))
 |[],zs,O,H,Y,c,ds,E,h,hc,l=>by
  have l':zs=[]:=l;subst l';let⟨a,xs,e1,e2,e3,_⟩:=E.ownAt h hc;refine⟨a,xs,e1,e2,e3,O,?_,?_⟩
  .rw[List.append_nil,List.append_nil,Be e2];show EnvOk K B O σ H (Y.set i (!(c,.lst ds)));rw[show Y.set i (!(c,D.lst ds))=Y from by
    let⟨hi,e⟩:=List.getElem?_eq_some_iff.mp h;rw[<-e];exact List.set_getElem_self hi]
   exact E
  .rw[List.append_nil,Be e2];exact Same.refl _
 |d::es,zs,O,H,Y,c,ds,E,h,hc,l=>by
  let⟨z,r,rfl,hz,l⟩:=l;let⟨a,xs,e1,e2,e3,O1,E1,s1⟩:=(E.moreS hz).change snocL AZ A3 h hc;have hi:=(Vh.mp h).1;have h2:(Y.set i (!(newCat c (extS d),.lst (snocL ds (extS d).2))))[i]?=!(!(newCat c (extS d),.lst (snocL ds (extS d).2))):=by rw[List.getElem?_set_self hi]
  let⟨a',xs',f1,f2,f3,O2,E2,s2⟩:=EnvOk.extend E1 h2 (ql _ _) (IsL.mono s1 _ _ l);rw[e1]at f1;cases f1;rw[ai]at f2;cases f2;rw[DN]at E2 s2;rw[List.set_set]at E2;have ed:(extS d).2=d:=by unfold extS;split<;>rfl
  rw[ed]at E2;unfold snocL at E2 s1 s2;rw[List.append_assoc,List.append_assoc]at E2;rw[List.append_assoc]at s2;exact⟨a,xs,e1,e2,e3,O2,E2,s1.trans s2⟩
end
section
variable{X:Cx}{e:Expr}{pos:Pos}
def  yU(i:Nat)(R:UR):US:=λY=>(ownL Y i).bind λw=>(R (c9 Y)).bind λd=>(lu d).bind λes=>if w.2.length+es.length<big then !(.nx (Y.set i (!(extC w.1 es,.lst (w.2++es)))))else none
def vG(i:Nat)(h:PP X e R)(hN:X.N[i]?=!x)(hv:pQ X.env.scope x)(hd:(!6)=false)(r:(!14)=false)(g:starEach [e] X.env=(false,eval e X.env)::starEach [] X.env)(j:(apos.endLine==cpos.line)=true):PR X (.Expr (.Call (.Attribute (.Name x px) "extend" apos) [e] [] cpos) pos) (yU i R):=λB O Y=>
 (ek (pY PySem.F.plainAttrs_list PySem.F.slot_list_extend PySem.F.type_list_extend rA (bK hN hv hd r) (dm (h O _) pa_nil g) rfl (by rw[g];rfl) j g rfl)).imp λEn σ H ⟨E,o,q,k⟩=>by
 let⟨⟨c,ds⟩,q1,q⟩:=VA q;let⟨d,q2,q⟩:=VA q;let⟨es,q3,q⟩:=VA q;let⟨hz,q⟩:=aw q;subst q;let⟨h0,p⟩:=bU q1;let⟨a,J,I,r3,_⟩:=E.ownAt h0 p;refine⟨.ref a,I,.inl ⟨rfl,_,SqL.of r3⟩,E.viewS,d,q2,λv H1 C i1=>?_⟩;let⟨m,zs,rfl,t,l⟩:=cH q3 i1;let⟨a',xs,e2,U,hl,O2,E2,T⟩:=(E.grow C).extend h0 p l;rw[I]at e2;cases e2;exact⟨a,m,xs,zs,rfl,rfl,U,msk_le.seq t,by rw[<-hl,<-l.len,iG];exact Vu hz,k σ _ O2 (C.msk.trans T) E2⟩
def  M4(i:Nat)(R:UR):US:=λY=>(ownL Y i).bind λw=>(R (vw Y)).bind λd=>(lu d).bind λes=>if w.2.length+es.length<big/\cF es=true then !(.nx (Y.set i (!(extC w.1 es,.lst (w.2++es)))))else none
def vH(i:Nat)(h:PP X e R)(hN:X.N[i]?=!x)(hv:pQ X.env.scope x)(hd:(!6)=false)(C:(!14)=false)(g:starEach [e] X.env=(false,eval e X.env)::starEach [] X.env)(j:(apos.endLine==cpos.line)=true):PR X (.Expr (.Call (.Attribute (.Name x px) "extend" apos) [e] [] cpos) pos) (M4 i R):=λB O Y=>
 (ek (pY PySem.F.plainAttrs_list PySem.F.slot_list_extend PySem.F.type_list_extend rA (bK hN hv hd C) (dm (h mD (vw Y)) pa_nil g) rfl (by rw[g];rfl) j g rfl)).imp λEn σ H ⟨E,o,q,k⟩=>by
 let⟨⟨c,ds⟩,q1,q⟩:=VA q;let⟨d,q2,q⟩:=VA q;let⟨es,q3,q⟩:=VA q;let⟨⟨hz,lf⟩,q⟩:=aw q;subst q;let⟨h0,p⟩:=bU q1;let⟨a,J,I,r3,_⟩:=E.ownAt h0 p;refine⟨.ref a,I,.inl ⟨rfl,_,SqL.of r3⟩,E.view,d,q2,λv H1 r i1=>?_⟩;let⟨m,zs,rfl,t,l⟩:=cH q3 i1;let⟨a',xs,e2,U,hl,O2,E2,T⟩:=(E.grow r).extend h0 p (IsL.nl (E.grow r).nl _ _ lf l.full);rw[I]at e2;cases e2;exact⟨a,m,xs,zs,rfl,rfl,U,msk_le.seq t,by rw[<-hl,<-l.len,iG];exact Vu hz,k σ _ O2 (r.msk.trans T) E2⟩
def  lB(i:Nat)(R:UR):US:=a8 (yU i R) (M4 i R)
def yV(i:Nat)(h:PP X e R)(p:X.N[i]?=!x)(o:pQ X.env.scope x)(hd:(!6)=false)(l:(!14)=false)(j:starEach [e] X.env=(false,eval e X.env)::starEach [] X.env)(g:(apos.endLine==cpos.line)=true):PR X (.Expr (.Call (.Attribute (.Name x px) "extend" apos) [e] [] cpos) pos) (lB i R):=
 l9 (vG i h p o hd l j g) (vH i h p o hd l j g)
end
def slot_rt_next:Slot "reversed" "__next__" "reversed.__next__":=
 .of (owner:="reversed") (n:="__next__") (by rw[typeLookup_type,builtinLookup_eq_fast];kernel_rfl) (!16) (!16) (!16)
  (by first|exact .inl (!16)|exact .inr (!16)) (by rw[isSubtype_type];kernel_rfl)
def jI:entryFor table "reversed.__next__"=some Builtin.«reversed.__next__»:=entryFor_of_tree (!2)
def kn(a:Value):argsOk "reversed.__next__" ⟨[a],[]⟩:=by unfold argsOk;kernel_rfl
def ko:Slot "reversed" "__iter__" "reversed.__iter__":=
 .of (owner:="reversed") (n:="__iter__") (by rw[typeLookup_type,builtinLookup_eq_fast];kernel_rfl) (!16) (!16) (!16)
  (by first|exact .inl (!16)|exact .inr (!16)) (by rw[isSubtype_type];kernel_rfl)
def rB(a:Value):argsOk "reversed.__iter__" ⟨[a],[]⟩:=by unfold argsOk;kernel_rfl
def pF:entryFor table "reversed.__iter__"=some Builtin.«dict_keyiterator.__iter__»:=
 entryFor_alias (id':="dict_keyiterator.__iter__") (!2) (by first|rfl|decide+kernel|(unfold String.splitOn;simp+decide [String.splitOnAux])) (!16) (!2)
def rC:Slot "reversed" "__init__" "object.__init__":=
 .of (owner:="object") (n:="__init__") (by rw[typeLookup_type,builtinLookup_eq_fast];kernel_rfl) (!16) (!16) (!16)
  (by first|exact .inl (!16)|exact .inr (!16)) (by rw[isSubtype_type];kernel_rfl)
def called_rt:TypeCalled "reversed" "reversed.__new__" "object.__init__":=
 ⟨by decide+kernel,by decide+kernel,⟨_,_,F.mro_reversed⟩,F.made_reversed,by decide+kernel,by rw[isSubtype_type];kernel_rfl,rC⟩
def yW:typeLookup (.type "tuple") "__reversed__"=pure none:=by constructor<;>grind
def vI:isSubtype (.type "tuple") (.type "dict")=pure false:=by rw[isSubtype_type];kernel_rfl
noncomputable def  QR(t:Addr)(i:Int):Obj:={cls:=.type "reversed",data:=.fields #[.ref t,rawInt i]}
def  IsRT(h:Heap)(a t:Addr)(i:Int):Prop:=∃o,h.get? a=!o/\o.cls=.type "reversed"/\o.data=.fields #[.ref t,rawInt i]
section
variable{prog:Program}{w:World}{A:Around}{E:UZ}{s:Shared}
def IsRT.typeIs(x:IsRT s.heap a t i):s.TypeIs (.ref a) "reversed":=let⟨o,g,j,_⟩:=x;⟨o,g,j⟩
def IsRT.at(x:IsRT h a t i)(e:∀o,h.get? a=!o->h'.get? a=!o):IsRT h' a t i:=let⟨o,g,r⟩:=x;⟨o,e _ g,r⟩
def EX(g:IsTup s.heap t items):s.TypeIs (.ref t) "tuple":=let⟨o,j,l,_⟩:=g;⟨o,j,l⟩
def tO(ht:IsTup s.heap t items)(hz:items.size<=sizeLine)(h:∀tk,Q₁ (.ref s.heap.objs.size) {s with heap:=s.heap.push (QR t ((items.size:Int)-1)),toks:=tk}):
  codeAny (!7) A (.call (.builtin "reversed.__new__") ⟨[.type "reversed",.ref t],[]⟩) (wants Q₁ E) s:=by
 refine codeAny_of_tree ?_
 refine Vb (Vq (F.newCall_reversed_1 _) (Vd ⟨plainId_quiet F.plain_reversed_new _,codeAny_builtin F.entry_reversed_new ?_⟩))
 refine Vb (Vq (newClass_reversed _) ?_)
 refine Vb (Vq (by first|rfl|kernel_rfl) ?_)
 refine Vb (Vq (by first|rfl|kernel_rfl) ?_)
 refine Vb (wpAny_specialOf (EX ht) yW ?_)
 refine Vb ?_
 wp_delta
 refine Vb (wpAny_isInstance (EX ht) vI ?_)
 refine Vb (wpAny_specialOf (EX ht) slot_tuple_getitem.lookup ?_)
 refine Vd ?_
 refine Vb (len_tuple ht (by have:=jS;omega) ?_)
 refine Vb (Vq rfl ?_)
 refine Vb ?_
 show wpAny _ _ (newObj (.type "reversed") (.fields #[.ref t,rawInt ((items.size:Int)-1)])) _ _ _
 exact wpAny_newObj_type (Vd (h _))
def EY(ht:IsTup s.heap t items)(hz:items.size<=sizeLine)(h:∀tk,Q (.ref s.heap.objs.size) {s with heap:=s.heap.push (QR t ((items.size:Int)-1)),toks:=tk}):wpAny (!7) A (call (.type "reversed") [.ref t]) Q E s:=by
 refine callType_codes (Q₁:=λobj s₁=>s₁.TypeIs obj "reversed"/\Q obj s₁) called_rt (F.typeCall_reversed_1 _) F.entry_object_init
  (tO ht hz λtk=>⟨⟨_,Vf _ rfl,rfl⟩,h tk⟩) λobj s₁ h₁=>?_
 exact⟨h₁.1,F.args_object_init_2 obj _,object_init_meets called_rt.init.lookup called_rt.made (!3) prog w A.in1 _ s₁ ⟨h₁.1,rfl,h₁.2⟩⟩
def xj(hit:IsRT s.heap g t i)(h:Q (.ref g) s):wpAny (!7) A (pyIter (.ref g)) Q E s:=by
 refine wpAny_pyIter_slot hit.typeIs ko (wpAny_call_entry ko hit.typeIs pF ?_ (rB _));exact Vd ⟨_,rfl,"reversed",_,hit.typeIs,slot_rt_next.lookup,h⟩
def EZ{i:Nat}(hit:IsRT s.heap it t (i:Int))(ht:IsTup s.heap t items)(hz:items.size<=sizeLine)(hx:items[i]?=!x)(hQ:∀h' tk,IsRT h' it t ((i:Int)-1)->Heap.SameBut it s.heap h'->Q (!x) {s with heap:=h',toks:=tk}):wpAny (!7) A (pyNext (.ref it)) Q E s:=by
 let⟨o,ho,hc,hd⟩:=id hit;have hi:=(Array.getElem?_eq_some_iff.mp hx).1;have h63:=jS;refine Vb (wpAny_attempt (wpAny_callSpecial?_slot hit.typeIs slot_rt_next
  (wpAny_call_entry slot_rt_next hit.typeIs jI ?_ (kn _))))
 refine Vb (Vq rfl ?_);refine Vb (wpAny_field ho hd (x:=.ref t) rfl ?_);refine Vb (wpAny_field ho hd rfl ?_);refine Vb (wpAny_specialOf (EX ht) slot_tuple_getitem.lookup ?_);refine Vb (wpAny_mkInt ?_);refine Vb (wpAny_attempt (getItem_tuple ht (!1) (!1) (by
  simp only[seqIndex?];rw[if_neg (show¬ ((i:Nat):Int)<0 by omega),if_pos (by rw[and_eq_true];exact⟨decide_eq_true (!1),decide_eq_true (!1)⟩)];rfl) hx ?_))
 refine Vb (wpAny_field ho hd rfl ?_);refine Vb (wpAny_setField ho hd (by simp) ?_);refine Vd ⟨x,rfl,Vd (hQ _ _ ?_ (Heap.SameBut.update ..))⟩;exact⟨_,Heap.get?_update_self _ ho (Obj.isFreed_of_fields (Obj.data_mapFields hd _)),(Obj.cls_mapFields ..).trans hc,by
  rw[Obj.data_mapFields hd];simp⟩
def Jr(hh:A.handled=none)(hit:IsRT s.heap it t (-1))(hQ:∀h',Heap.ExtBut it s.heap h'->Q none {s with heap:=h'}):wpAny (!7) A (pyNext (.ref it)) Q E s:=by
 let⟨o,ho,hc,hd⟩:=id hit
 refine Vb (wpAny_attempt (wpAny_callSpecial?_slot hit.typeIs slot_rt_next
  (wpAny_call_entry slot_rt_next hit.typeIs jI ?_ (kn _))))
 refine Vb (Vq rfl ?_)
 refine Vb (wpAny_field ho hd (x:=.ref t) rfl ?_)
 refine Vb (wpAny_field ho hd rfl ?_)
 refine Vb (wpAny_rule ?_)
 refine Vb ?_
 wp_delta
 refine Vb (wpAny_setField ho hd (by simp) ?_)
 refine wpAny_setField (Heap.get?_update_self _ ho (Obj.isFreed_of_fields (Obj.data_mapFields hd _))) (Obj.data_mapFields hd _) (by simp) ?_
 obtain⟨H2,hH⟩:∃H2,H2=(s.heap.update it (Obj.mapFields λx=>x.setIfInBounds 1 (rawInt (-1)))).update it (Obj.mapFields λx=>x.setIfInBounds 0 Value.none):=⟨_,rfl⟩
 have hE:Heap.ExtBut it s.heap H2:=by
  rw[hH]
  exact(Heap.SameBut.update ..).extBut.trans (Heap.SameBut.update ..).extBut
 rw[<-hH]
 first
 |show wpAny _ _ (newExc (.type "StopIteration") []>>=_) _ _ _
 |(refine Vb ?_;show wpAny _ _ (newExc (.type "StopIteration") []>>=_) _ _ _)
 refine Vb ?_
 refine Vb (wpAny_newObj_type ?_ (by size_fits))
 refine Vb (Vq (by first|rfl|(simp only[firstArgMember];rfl)) ?_)
 refine wpAny_newObj_type ?_ (by size_fits)
 refine Vb (wpAny_handled ?_)
 first|rw[show A.in1.handled=none from hh]|rw[hh]
 refine Vb (Vd (wpAny_throw ?_))
 refine Vb (wpAny_isInstance ⟨_,Vf _ rfl,rfl⟩ isSubtype_stop ?_)
 exact Vd (hQ _ ((hE.push _).push _))
noncomputable def  QS(K:Frag)(a:Addr)(n:Nat):It:=
 ⟨λi H=>∃xs x,SqT K H a xs/\xs.length=n/\xs.reverse[i]?=!x,λi H x H'=>H'=H/\∀xs,SqT K H a xs->xs.reverse[i]?=!x,λi _=>n<=i⟩
def Fa{P:Program}{w:World}{K:Frag}{tg:Expr}(a g:Addr)(n:Nat):Turn P w K tg (QS K a n) [g] g (λi h=>IsRT h g a ((n:Int)-1-(min i n:Nat))) where
 mem:=by simp
 obj:=λi h st b j=>by
  have e:b=g:=by simpa using j
  subst e;let⟨o,e,c,d⟩:=st;exact⟨o,e,λv z=>by rw[d]at z;cases z⟩
 keep:=λi h h' st k=>st.at λo e=>k g (by simp) o e
 item:=by
  intro X hP hw hK hc i pins s σ H E I C st t;subst hP hw hK;let⟨xs,x,hq,hn,r⟩:=t;subst hn;let⟨its,rv,p,hz⟩:=I.tuple hq;have hi:i<xs.length:=by
   have:=(Vh.mp r).1;rwa [List.length_reverse]at this
  have hl:=rv.length;rw[List.getElem?_reverse hi]at r;let⟨u,hu,ru⟩:=rv.get r;let⟨f0,f1,f2,U,T,J⟩:=C g (by simp);have ei:((xs.length:Nat):Int)-1-((min i xs.length:Nat):Int)=((xs.length-1-i:Nat):Int):=by omega
  have st:=ei▸st;refine EZ st p (by rw[size_toArray];omega) (by simpa using hu) λh' tk l sb=>?_;have I1:Inv X pins σ H {s with heap:=h',toks:=tk}:=I.turned (λb o j e=>(sb.2 b j).trans e) f0 f1 U T J;let⟨o,e,c,d⟩:=id l;refine⟨u,rfl,wL e c d (!3) ⟨x,H,I1,ru,⟨rfl,λys hy=>by rw[I.tuple_inj hy hq,List.getElem?_reverse hi];exact r⟩,?_,λb j=>(C b j).1⟩⟩;have ej:((xs.length-1-i:Nat):Int)-1=((xs.length:Nat):Int)-1-((min (i+1) xs.length:Nat):Int):=by omega
  exact ej▸l
 done:=by
  intro X hP hw hK hc i pins s σ H E I C st t;have t:n<=i:=t;let⟨f0,f1,f2,U,T,J⟩:=C g (by simp);have ei:((n:Nat):Int)-1-((min i n:Nat):Int)= -1:=by omega
  exact Jr (I.ok.hd hc) (ei▸st) λh' eb=>⟨rfl,I.turned (λb o j e=>eb b o j e) f0 f1 U T J⟩
 self:=λ_ _ _ _ _ st h=>xj st h
def Fb{K}(q:SqT K o a xs)(j:IsL K o ds xs):nN K o (QS K a xs.length) ds.reverse:=λi H O s hd=>by
 have g:=(s.trans msk_le).seqT q;have r:=j.rev;refine⟨λd hi=>?_,λhi=>?_⟩
 .let⟨x,l,p⟩:=r.get hi;refine⟨⟨xs,x,g,rfl,l⟩,λy C ⟨e,t⟩=>?_⟩;subst e;have:=t xs g;rw[l]at this;cases this;exact⟨Same.refl _,Is.mono s d x p⟩
 .show xs.length<=i;rw[<-j.len,<-List.length_reverse];exact hi
end
section
variable{X:Cx}{tg a:Expr}{p pos:Pos}
def  Ug(K:Frag)(ta:TA):TI:=λσ H R=>ta σ H λvs H1=>∃t xs,vs=[.ref t]/\SqT K H1 t xs/\R (QS K t xs.length) H1
def M5(hg:Gl X "reversed")(hm:X.mg "reversed"=none)(ha:PA X [a] ta)(hs:starEach [a] X.env=[(false,eval a X.env)]):PI X tg (.Call (.Name "reversed" p) [a] [] pos) (Ug X.K ta):=by
 intro pins s σ H R I h;refine wpAny_Call_Name_kw (dI I hg hm Hn (PyProof.Rows.callWith_type1 (bq (ha pos pins s σ H _ I h) λus j ⟨vs,H1,l,C,T⟩=>?_) (by rw[hs];rfl) rfl));let⟨t,xs,rfl,U,q⟩:=T;let⟨u,rfl,r⟩:=fC C;cases r;let⟨g,rv,pl,hz⟩:=l.tuple U;have hl:=rv.length;refine EY pl (by rw[size_toArray];omega) λtk=>?_;have J:IsRT (j.heap.push (QR t ((g.toArray.size:Int)-1))) j.heap.objs.size t ((g.toArray.size:Int)-1):=⟨_,Vf _ rfl,rfl,rfl⟩;refine xj J ?_;refine⟨j.heap.objs.size,[j.heap.objs.size],_,_,H1,rfl,l.kept λb o e=>Vc _ e,Fa t _ xs.length,?_,λb hb=>?_,q⟩
 .have e:((xs.length:Nat):Int)-1-((min 0 xs.length:Nat):Int)=(g.toArray.size:Int)-1:=by rw[size_toArray,<-hl];omega
  rw[e];exact J
 .have e:b=j.heap.objs.size:=by simpa using hb
  subst e;exact l.fpOk (Vy _) (l.hok.fresh (Vy _))
def  Pn:U7->UY:=tq λd=>(II d).bind λds=>!ds.reverse
def M6(U:Gl X "reversed")(T:X.mg "reversed"=none)(ha:PX X [a] fa)(J:starEach [a] X.env=[(false,eval a X.env)]):PJ X tg (.Call (.Name "reversed" p) [a] [] pos) (λY=>(fa Y).bind Pn):=
 λO Y=>(M5 U T (ha O Y) J).imp λσ H R ⟨E,ds,q,k⟩=>by
 let⟨as,e1,q⟩:=VA q
 refine⟨E,as,e1,λvs H1 j I=>?_⟩
 let⟨c,rfl,o⟩:=bd q
 let⟨es,g,l⟩:=VA o
 cases l
 let⟨v,rfl,C⟩:=uQ I
 cases c with
 |tup fs=>
  cases g;let⟨t,xs,rfl,h2,r⟩:=C;exact⟨t,xs,rfl,msk_le.seqT h2,k _ H1 j (Fb h2 r)⟩
 |_=>cases g
end
open PySem.AutoSeq1 (wpAny_loadPart')
def tR(hh:A.handled=none)(J:s.heap.IsRevIter j l ((xs.size:Int)-1))(C:s.heap.IsList l xs)(ne:l≠j)(hn:xs.size<=sizeLine)(hQ:∀(g:Heap) tk acc,(∀d o,d≠j->s.heap.get? d=!o->g.get? d=!o)->s.heap.objs.size<=g.objs.size->ItemsOf (λi v=>xs[xs.size-1-i]?=!v) acc xs.size->Q acc.toList {s with heap:=g,toks:=tk}):wpAny (!7) A (collect (.ref j)) Q E s:=by
 have jl:j<s.heap.objs.size:=by let⟨o,e,_⟩:=J;exact Ve e
 have ll:l<s.heap.objs.size:=by let⟨o,e,_⟩:=C;exact Ve e
 have up:∀d o,s.heap.get? d=!o->(s.heap.push {cls:=.type "list",data:=.seq ([]:U0).toArray}).get? d=!o:=λd o e=>Vc _ e;have key:∀R:Result->Shared->Prop,(∀g tk acc c,(∀d o,d≠s.heap.objs.size->d≠j->(s.heap.push {cls:=.type "list",data:=.seq ([]:U0).toArray}).get? d=!o->g.get? d=!o)->g.get? s.heap.objs.size=some {cls:=.type "list",dict:=none,data:=.seq acc c,slots:=#[]}->
   ItemsOf (λi v=>xs[xs.size-1-i]?=!v) acc xs.size->R (.ok _) {s with heap:=g,toks:=tk})->codeAny (!7) A (.builtin "proto.collect" ⟨[.ref j],[]⟩) R s:=λR hR=>by
  refine codeAny_builtin F.entry_proto_collect ?_
  refine Vb (wpAny_newObj_type ?_)
  refine Vd ⟨plainId_quiet F.plain_list_iadd _,codeAny_builtin F.entry_list_iadd ?_⟩
  exact EW hh (J.at λo e=>up _ o e) (C.at λo e=>up _ o e) ne (Vf s.heap rfl) (Nat.ne_of_gt jl) (Nat.ne_of_gt ll) hn λg tk acc c k hg hi=>hR g tk acc c k hg hi
 refine Vb (wpAny_runValue (key _ λg tk acc c k hg hi=>?_));refine Vb (wpAny_load hg ?_);exact Vd (hQ g tk acc (λd o n e=>k d o (Vo (Ve e)) n (up d o e)) (Vu (Ve hg)) hi)
def yX{prog:Program}{w:World}{A:Around}{E:UZ}{s:Shared}(hh:A.handled=none)(J:s.heap.IsRevIter j l ((xs.size:Int)-1))(C:s.heap.IsList l xs)(ne:l≠j)(hn:xs.size<=sizeLine)(hQ:∀(g:Heap) tk acc,(∀d o,d≠j->s.heap.get? d=!o->g.get? d=!o)->s.heap.objs.size<=g.objs.size->ItemsOf (λi v=>xs[xs.size-1-i]?=!v) acc xs.size->Q (.ref g.objs.size) {s with heap:=g.push {cls:=.type "tuple",data:=.seq acc},toks:=tk}):
  wpAny (!7) A (call (.type "tuple") [.ref j]) Q E s:=by
 refine callType_codes (Q₁:=λobj s₁=>s₁.TypeIs obj "tuple"/\Q obj s₁) F.called_tuple (F.typeCall_tuple_1 _) F.entry_object_init ?_ λobj s₁ h₁=>?_
 .refine codeAny_of_tree ?_;show wpAny _ A.in1.in1 (do checkBuiltinCall "tuple.__new__" ⟨[.type "tuple",.ref j],[]⟩;again (.builtin "tuple.__new__" ⟨[.type "tuple",.ref j],[]⟩)) _ _ s;refine Vb (Vq (F.newCall_tuple_1 _) (Vd ⟨plainId_quiet F.plain_tuple_new _,codeAny_builtin F.entry_tuple_new ?_⟩));rw[Around.under_plainId F.plain_tuple_new _];have hsub:=sub_tuple_self;have hinit:=init_tuple_lookup;have hmh:=madeHere_tuple;have hTI:=J.typeIs;have cr:∀{Q:U0->Shared->Prop}{E:UZ},(∀(g:Heap) tk acc,(∀d o,d≠j->s.heap.get? d=!o->g.get? d=!o)->s.heap.objs.size<=g.objs.size->ItemsOf (λi v=>xs[xs.size-1-i]?=!v) acc xs.size->Q acc.toList {s with heap:=g,toks:=tk})->wpAny (!7) A.in1.in1 (collect (.ref j)) Q E s:=λhq=>tR (A:=A.in1.in1) hh J C ne hn hq;wp_walk using wpAny_typeOf hTI,cr;intro g tk acc k hle hacc;show wpAny _ _ (Builtin.Tuple.tupleExact acc.toList.toArray>>=λv=>ret v) _ _ _;unfold Builtin.Tuple.tupleExact;refine Vb (wpAny_newObj_type ?_ (by show acc.toList.toArray.size<=sizeLine;simp only[Array.toArray_toList];rw[hacc.1];exact hn));refine Vd ?_;have e:acc.toList.toArray=acc:=by simp
  rw[e];exact⟨⟨_,Vf _ rfl,rfl⟩,hQ g tk acc k hle hacc⟩
 .exact⟨h₁.1,F.args_object_init_2 obj _,object_init_meets F.called_tuple.init.lookup F.called_tuple.made (!3) prog w A.in1 _ s₁ ⟨h₁.1,rfl,h₁.2⟩⟩
section
variable{X:Cx}{a:Expr}{p p2 pos pos2:Pos}
def  QT(K:Frag)(ta:TA):TE:=λσ H Q=>ta σ H λvs H1=>∃l xs,vs=[.ref l]/\SqL K H1 l xs/\∀q,H1 q=none->Q (.ref q) (upd H1 q (.tup xs.reverse))
def M7:bootBuiltins "tuple"=!(.type "tuple"):=by decide+kernel
def Js(hc:X.calm=true)(hg:Gl X "tuple")(hm:X.mg "tuple"=none)(U:Gl X "reversed")(T:X.mg "reversed"=none)(ha:PA X [a] ta)(hs:starEach [a] X.env=[(false,eval a X.env)]):
  PE X (.Call (.Name "tuple" p) [.Call (.Name "reversed" p2) [a] [] pos2] [] pos) (QT X.K ta):=by
 intro pins s σ H Q I h
 refine wpAny_Call_Name_kw (dI I hg hm M7 (PyProof.Rows.callWith_type1 ?_ rfl rfl))
 show wpAny _ _ (spliced ((false,eval (.Call (.Name "reversed" p2) [a] [] pos2) X.env)::[])) _ _ s
 refine Calls.spliced_cons ?_
 refine wpAny_Call_Name_kw (dI I U T Hn (PyProof.Rows.callWith_type1 (bq (ha pos2 pins s σ H _ I h) λus r ⟨vs,H1,J,r1,q1⟩=>?_) (by rw[hs];rfl) rfl))
 let⟨l,xs,rfl,hx,q⟩:=q1
 let⟨u,rfl,ru⟩:=fC r1
 cases ru
 let⟨j,rv,pl,hz⟩:=J.list hx
 have C:=pl.isList
 have ll:l<r.heap.objs.size:=by let⟨o,e,_⟩:=C;exact Ve e
 refine call_reversed_list C (Calls.spliced_nil ?_)
 have up:∀d o,r.heap.get? d=!o->(r.heap.push (revObj l ((j.toArray.size:Int)-1))).get? d=!o:=λd o e=>Vc _ e
 have I2:Inv X pins σ H1 {r with heap:=r.heap.push (revObj l ((j.toArray.size:Int)-1))}:=J.kept up
 have hl:=rv.length
 refine yX (J.ok.hd hc) ⟨_,Vf _ rfl,rfl,rfl⟩ (C.at λo e=>up _ o e) (Vo ll) (by rw[size_toArray];omega) λg tk acc k t hi=>?_
 have e:=yS hi
 have e2:acc=j.reverse.toArray:=by
  apply Array.toList_inj.mp;rw[e]
 have fr:=I2.hok.fresh t
 refine⟨.ref _,_,I2.turnedNew (ch:=[r.heap.objs.size]) (λb hb=>?_) (λb o hb e=>Vc _ (k b o (by simpa using hb) e)) t ?_,rfl,q _ fr⟩
 .rw[mem_singleton.mp hb];exact J.fpOk (Vy _) (J.hok.fresh (Vy _))
 .rw[e2];exact⟨by rw[List.length_reverse];exact hz,j.reverse,rv.reverse,IsTup.new _ _⟩
def  Jt:U7->U9:=tq λd=>(lu d).bind λds=>!(.tup ds.reverse)
def Ju(hc:X.calm=true)(hg:Gl X "tuple")(hm:X.mg "tuple"=none)(j:Gl X "reversed")(g:X.mg "reversed"=none)(ha:PX X [a] fa)(hs:starEach [a] X.env=[(false,eval a X.env)]):
  PP X (.Call (.Name "tuple" p) [.Call (.Name "reversed" p2) [a] [] pos2] [] pos) (λY=>(fa Y).bind Jt):=λO Y=>(Js hc hg hm j g (ha O Y) hs).imp λσ H Q ⟨E,d,q,k⟩=>by
 let⟨as,e1,q⟩:=VA q
 refine⟨E,as,e1,λvs H1 C il=>?_⟩
 let⟨c,rfl,T⟩:=bd q
 let⟨xs,J,I⟩:=VA T
 cases I
 let⟨v,rfl,h⟩:=uQ il
 let⟨l,ys,rfl,t,U⟩:=cH J h
 refine⟨l,ys,rfl,msk_le.seq t,λb o=>?_⟩
 have r:=(E.grow C).fresh o
 have le:Same (msk O H1) (msk O (upd H1 b (.tup ys.reverse))):=by rw[mR r];exact Same.new (by rw[aN r];exact o)
 exact k _ _ (C.trans (Same.new o)) ⟨b,ys.reverse,rfl,.of (by rw[aN r,ai]),IsL.mono le _ _ U.rev⟩
end
noncomputable def  shO:UX->UX
 |some (_,d)=>!(.sh,d)
 |none=>none
def  frz1(i:Nat)(Y:Ev):Ev:=match Y[i]? with
 |some x=>Y.set i (shO x)
 |none=>Y
def  frzS:U2->Ev->Ev
 |[],Y=>Y
 |i::is,Y=>frzS is (frz1 i Y)
section
variable{K:Frag}{B:Bs}{O:U5}{σ:St}{H:Hp}{Y:Ev}
def EnvOk.frz1(E:EnvOk K B O σ H Y)(i:Nat):∃T,EnvOk K B T σ H (frz1 i Y)/\Same (msk O H) (msk T H):=by
 unfold L2.frz1;cases hx:Y[i]? with
 |none=>exact⟨O,E,Same.refl _⟩
 |some x=>
  let⟨F,h1,h2,J,I⟩:=E.fp;have le:Same (msk O H) (msk (λb=>O b&&not (decide (b∈F i))) H):=λb o q=>by
   let⟨q1,U⟩:=aW q;rw[aN (by simp[q1])];exact U
  refine⟨λb=>O b&&not (decide _),⟨E.same,E.bdom,λb p=>?_,λb p=>E.lis b (by simp at p;exact p.1),by rw[List.length_set];exact E.len,λj=>if j=i then[]else F j,λj s q=>?_,λj=>?_,λj k a g t=>?_,λj a g=>?_⟩,le⟩
  .have n:b ∉ F i:=λz=>E.bdom b p (I i b z).2;simp[E.sub b p,n]
  .rcases get_set_some q with⟨e,r⟩|⟨e,r⟩
   .subst e;cases x with
    |none=>cases r
    |some z=>
     cases r;let⟨v,C,l⟩:=h1 j _ hx;refine⟨v,C,?_⟩;simp only[if_true];exact⟨rfl,l.is le λa ha=>by simp[ha]⟩
   .let⟨v,C,l⟩:=h1 j s r;refine⟨v,C,?_⟩;simp only[if_neg e];exact l.frame le λ_ _ _ z=>z
  .dsimp only;split
   .exact List.nodup_nil
   .exact h2 _
  .by_cases e:j=i
   .simp[e]at g
   .by_cases e2:k=i
    .simp[e2]at t
    .simp only[if_neg e]at g;simp only[if_neg e2]at t;exact J j k a g t
  .by_cases e:j=i
   .simp[e]at g
   .simp only[if_neg e]at g;let⟨l,o2⟩:=I j a g;have n:a ∉ F i:=λz=>e (J j i a g z);exact⟨by simp[l,n],o2⟩
def EnvOk.frzS:∀(is:U2){O:U5}{Y:Ev},EnvOk K B O σ H Y->∃O',EnvOk K B O' σ H (frzS is Y)/\Same (msk O H) (msk O' H)
 |[],O,Y,E=>⟨O,E,Same.refl _⟩
 |i::is,O,Y,E=>by
  let⟨O1,E1,s1⟩:=E.frz1 i;let⟨O2,E2,s2⟩:=EnvOk.frzS is E1;exact⟨O2,E2,s1.trans s2⟩
end
def Jv(is:U2)(h:pE X e g):pE X e (λY=>g (frzS is Y)):=λB O Y=>(PU.ex λj=>h B j _).imp λσ H Q ⟨E,s,Y',q,k⟩=>by
 let⟨j,r,le⟩:=E.frzS is;exact⟨j,r,s,Y',q,λv H' o l p=>k v H' o (le.trans l) p⟩
end L2
namespace L2
open PySem PySem.Spec PyProof.Rows
def Jw:tK X (.Dict [] [] pos) (λ_=>!(.dct [] [])):=λY=>PE.pu (pe_dnewK.imp λσ H Q ⟨E,d,q,k⟩=>by
 cases q;exactλp g=>k _ _ [p] (Same.new g) ⟨p,[],[],rfl,ai,rfl,rfl,rfl,rfl⟩ (by simp) λa j=>by rw[mem_singleton.mp j];exact g) rfl
noncomputable def  yY(ks:List jk)(k:jk):Bool:=ks.any λj=>decide (j=k)
def  kq(ks:List jk)(k:jk):List jk:=if yY ks k=true then ks else ks++[k]
def  kr(ks:List jk)(ds:U7)(k:jk)(d:D):U7:=if yY ks k=true then List.zipWith (λj e=>if j=k then d else e) ks ds else ds++[d]
def xk(k:jk)(kvs:List (jk×V)):(kvs.any λg=>decide (g.1=k))=yY (kvs.map (·.1)) k:=by
 unfold yY;rw[List.any_map];rfl
def Bf(kvs:List (jk×V))(k:jk)(v:V):(ki kvs k v).map (·.1)=kq (kvs.map (·.1)) k:=by
 unfold ki kq;rw[xk];by_cases h:yY (kvs.map (·.1)) k=true
 .rw[if_pos h,if_pos h,List.map_map];apply List.map_congr_left;intro p _;show(if p.1=k then(p.1,v)else p).1=p.1;split<;>rfl
 grind
def Bg{K}(hd:Is K M d v)(l:IsL K M ds (kvs.map (·.2))):IsL K M (kr (kvs.map (·.1)) ds k d) ((ki kvs k v).map (·.2)):=by
 unfold ki kr;rw[xk];by_cases h:yY (kvs.map (·.1)) k=true
 .rw[if_pos h,if_pos h];clear h;induction kvs generalizing ds with
  |nil=>
   have e:ds=[]:=by cases ds with|nil=>rfl|cons a b=>let⟨_,_,z,_⟩:=l;cases z
   subst e;exact rfl
  |cons p r o=>
   cases ds with
   |nil=>cases(l)
   |cons e ds=>
    let⟨x,t,z,h,l⟩:=l;have j:=z;cases j;refine⟨_,_,rfl,?_,o l⟩;show Is K M (if p.1=k then d else e) (if p.1=k then(p.1,v)else p).2;by_cases g:p.1=k
    .rw[if_pos g,if_pos g];exact hd
    .rw[if_neg g,if_neg g];exact h
 .rw[if_neg h,if_neg h,List.map_append];exact l.app ⟨v,[],rfl,hd,rfl⟩
def Bh(hd:lfD d=true):∀{ds:U7},cF ds=true->cF (kr ks ds k d)=true:=λ{ds} h=>by
 unfold kr;split
 .rename_i l;clear l;induction ks generalizing ds with
  |nil=>rfl
  |cons j ks g=>
   cases ds with
   |nil=>rfl
   |cons e ds=>
    have h':(lfD e&&cF ds)=true:=h;rw[and_eq_true]at h';show(lfD (if j=k then d else e)&&cF (List.zipWith _ ks ds))=true;rw[g h'.2,Bool.and_true];split
    .exact hd
    .exact h'.1
 .rename_i l;induction ds with
  |nil=>show(lfD d&&true)=true;rw[hd];rfl
  |cons e ds g=>
   have h':(lfD e&&cF ds)=true:=h;rw[and_eq_true]at h';show(lfD e&&cF (ds++[d]))=true;rw[h'.1,g h'.2];rfl
def  Fc(Y:Ev)(i:Nat):Option (List jk×List D):=(gJ Y i).bind λs=>match s with
 |(.deep,.dct ks ds)=>!(ks,ds)
 |_=>none
def yZ(h:Fc Y i=!w):Y[i]?=!(!(.deep,.dct w.1 w.2)):=by
 let⟨⟨c,d⟩,h1,h2⟩:=VA h;have g:=h2;split at g
 .rename_i ks ds e;cases g;cases e;exact de h1
 .cases g
section
variable{K:Frag}{B:Bs}{O:U5}{σ:St}{H:Hp}{Y:Ev}
def EnvOk.dctAt(E:EnvOk K B O σ H Y){i:Nat}(h:Y[i]?=!(!(.deep,.dct ks ds))):∃a kvs,σ[i]?=!(!(.ref a))/\H a=!(.dK kvs)/\kvs.map (·.1)=ks/\O a=true/\B.H a=none:=by
 let⟨F,h1,h2,h3,h4⟩:=E.fp;let⟨v,e,a,kvs,A',z1,z2,z3,z4,l⟩:=h1 i _ h;grind
def EnvOk.dput(E:EnvOk K B O σ H Y){i:Nat}(h:Y[i]?=!(!(.deep,.dct ks ds)))(lf:cF ds=true)(ld:lfD d=true)(hv:Is K (msk O H) d v)(k:jk):
  ∃a kvs,σ[i]?=!(!(.ref a))/\H a=!(.dK kvs)/\kvs.map (·.1)=ks/\EnvOk K B O σ (upd H a (.dK (ki kvs k v))) (Y.set i (!(.deep,.dct (kq ks k) (kr ks ds k d))))/\Same (msk O H) (msk O (upd H a (.dK (ki kvs k v)))):=by
 let⟨F,h1,h2,U,T⟩:=E.fp
 let⟨v0,e0,a,kvs,A',z1,r,p,I,l⟩:=h1 i _ h
 subst z1
 have hA:=DeepL.lf ds _ A' lf l
 subst hA
 have g:a∈F i:=by rw[I];exact Vi
 let⟨oa,ba⟩:=T i a g
 have J:msk O (upd H a (.dK (ki kvs k v)))=msk O H:=gH oa
 have le:Same (msk O H) (msk O (upd H a (.dK (ki kvs k v)))):=by rw[J];exact Same.refl _
 refine⟨a,kvs,e0,r,p,⟨λb o q=>?_,E.bdom,E.sub,λb C=>?_,by rw[List.length_set];exact E.len,F,λj s q=>?_,h2,U,T⟩,le⟩
 .rw[ae (ak q ba)];exact E.same b o q
 .by_cases e:b=a
  .subst e;exact .inr (.inr ⟨_,ai⟩)
  .rw[ae e];exact E.lis b C
 .rcases get_set_some q with⟨e,t⟩|⟨e,t⟩
  .cases t;subst e;refine⟨.ref a,e0,a,_,[],rfl,ai,by rw[Bf,p],I,?_⟩;rw[J];subst p;have il:=DeepL.is (NL.of (Same.refl _)) ds _ [] (λ_ h=>(nomatch h)) l;exact IsL.deep _ _ (Bh ld lf) (Bg hv il)
  .let⟨w,e1,o1⟩:=h1 j s t;refine⟨w,e1,o1.frame le λb C o z=>?_⟩;have:b≠a:=λr=>e (U j i a (r▸C) g);rw[ae this];exact z
end
section
variable{X:Cx}{e:Expr}{pos:Pos}
def  M8:H9:=λo i v H Q=>∃p kvs k,o=.ref p/\i=kV k/\H p=!(.dK kvs)/\kvs.length<sizeLine/\Q (upd H p (.dK (ki kvs k v)))
def Bi:Ia X M8:=by
 intro pins s σ H o i v ov iv u Q I ro t rv h;let⟨p,kvs,k,rfl,rfl,l,hl,q⟩:=h;cases ro;let⟨z,hd,r,rel,U⟩:=Hf I.hok l;have hz:r.length<=sizeLine:=by rw[<-rel.length];exact z
 have j:(ki kvs k v).length<=sizeLine:=by have:=tm kvs k v;omega
 refine wpAny_setItem_pairs (He t) U λh' g C=>⟨_,?_,q⟩;have T:∃q,h'.get? p=!q:=let⟨q,_,_,J,_⟩:=g;⟨q,J⟩;exact D9 I (by rw[l];exact True.intro) C T (Iv j hd (rel.put k rv) g)
def  Bj(i:Nat)(fk:UR)(R:UR):US:=λY=>(Fc Y i).bind λw=>(sC (R (vw Y))).bind λd=>(fk (vw Y)).bind λy=>(IH y).bind λk=>if cF w.2=true/\w.1.length+1<big then !(.nx (Y.set i (!(.deep,.dct (kq w.1 k) (kr w.1 w.2 k d)))))else none
def Jx(i:Nat)(h:PP X e R)(hk:PP X p fk)(hN:X.N[i]?=!x)(hv:pQ X.env.scope x)(hd:(!6)=false)(T:(!14)=false)(ha:∀v,assign (.Subscript (.Name x r) p g) X.env v=(do
   let C<-holding [v] (eval (.Name x r) X.env)
   let t<-holding [v,C] (eval p X.env)
   standAt g
   holding [v,C,t] (setItem C t v)
   release [v,C,t] [])) (hs:swapsWithSole [.Subscript (.Name x r) p g] e pos.line X.env=pure false) (hw:swappedStores [.Subscript (.Name x r) p g] e X.env=pure none) (h1:(assignEach [.Subscript (.Name x r) p g] X.env).map (·.2)=[assign (.Subscript (.Name x r) p g) X.env]):PR X (.Assign [.Subscript (.Name x r) p g] e pos) (Bj i fk R):=λB O Y=>
 (qN (h mD (vw Y)) (zO (bK hN hv hd T) (hk mD (vw Y)) Bi ha) hs hw h1).imp λEn σ H ⟨E,o,q,k⟩=>by
 let⟨⟨ks,ds⟩,q1,q⟩:=VA q
 let⟨d,q2,q⟩:=VA q
 let⟨y,q3,q⟩:=VA q
 let⟨j,q4,q⟩:=VA q
 let⟨⟨hl,hz⟩,q⟩:=aw q
 subst q
 let⟨U,p5,p6⟩:=VA q2
 let⟨ld,p7⟩:=aw p6
 subst p7
 have h0:=yZ q1
 refine⟨E.view,U,p5,λv H1 s1 t=>?_⟩
 have E1:=E.grow s1
 let⟨a,kvs,e1,e2,e3,_⟩:=E1.dctAt h0
 refine⟨.ref a,e1,E1.view,y,q3,λyv H2 I iy=>?_⟩
 have E2:=E1.grow I
 have J:Is X.K (msk O H2) U v:=Is.nl (by have:=E2.nl;rw[mV]at*;exact(NL.of I).trans this) U v ld t
 let⟨a',l,f1,f2,f3,f4,f5⟩:=E2.dput h0 hl ld J j
 rw[e1]at f1
 cases f1
 exact⟨a,l,j,rfl,wS q4 iy,f2,by
  have:l.length=ks.length:=by have:=congrArg List.length f3;rwa [length_map]at this
  have hz:ks.length+1<big:=hz;rw[iG];omega,k σ _ O (s1.msk.trans (I.msk.trans f5)) f4⟩
end
section
variable{X:Cx}{a:Expr}{p pos:Pos}
def vJ:bootBuiltins "sorted"=!(.builtin "sorted"):=by decide+kernel
def  fT(ns:U4):U4:=ns.mergeSort (λa b=>decide (a<=b))
def Bk(h1:ms.Perm ns)(h2:ms.Pairwise (·<=·)):ms=fT ns:=by
 refine List.Perm.eq_of_pairwise (λa b _ _ h h'=>Int.le_antisymm h h') h2 ?_ (h1.trans (List.mergeSort_perm _ _).symm);have:=List.pairwise_mergeSort (le:=λa b:Int=>decide (a<=b)) (λa b c h1 h2=>decide_eq_true (Int.le_trans (Vk h1) (Vk h2))) (λa b=>by simp;omega) ns;simp_all [fT]
def xm:∀{ns:U4}{us:U0},Vals (ns.map V.int) us->IntsAre us ns
 |[],_,.nil=>.nil
 |n::ns,_,.cons ⟨t,e⟩ r=>by subst e;exact .cons n t (xm r)
def qm:∀{us:U0}{ns:U4},IntsAre us ns->Vals (ns.map V.int) us
 |_,_,.nil=>.nil
 |_,_,.cons n t r=>.cons ⟨t,rfl⟩ (qm r)
def  M9(K:Frag):List V->Hp->VK->Prop:=λvs H Q=>∃l ns,vs=[.ref l]/\SqL K H l (ns.map V.int)/\ns.length<64/\∀q,H q=none->Q (.ref q) (upd H q (.lst ((fT ns).map V.int)))
def y0:eQ X (.builtin "sorted") (M9 X.K):=by
 intro pins s σ H xs U Q I r h;let⟨l,ns,rfl,p,J,q⟩:=h;let⟨u,rfl,j⟩:=fC r;cases j;let⟨g,rv,pl,hz⟩:=I.list p;have t:=rv.length;rw[length_map]at t;refine PyProof.Rows.sorted_ints pl.isList (xm rv) (!1) λout ms h1 h2 T=>?_;let⟨e,C⟩:=sortedAll_at s.heap g out;have z:=Bk h2 T;subst z;have fr:=I.hok.fresh (Nat.le_succ _);refine⟨.ref _,_,I.laid (λb o q=>sortedAll_old q) (Nat.le_succ _) (o:=.lst _) ⟨?_,out.toList,e,qm h1,by simpa using C⟩,rfl,q _ fr⟩;rw[length_map,h2.length_eq];have:(64:Nat)<=sizeLine:=by decide
 omega
def  kt:U7->UY:=tq λd=>(lu d).bind λds=>(a9 ds).bind λns=>if ns.length<64 then !((fT ns).map D.int)else none
def nX{K}:∀(ns:U4),IsL K H (ns.map D.int) (ns.map V.int)
 |[]=>rfl
 |n::ns=>⟨_,_,rfl,rfl,nX ns⟩
def Fd(hg:Gl X "sorted")(hm:X.mg "sorted"=none)(ha:PX X [a] fa)(hs:starEach [a] X.env=[(false,eval a X.env)]):
  PF X (.Call (.Name "sorted" p) [a] [] pos) (λY=>(fa Y).bind kt):=λO Y=>(nr y0 hg hm vJ (ha O Y) (!3) (!3) (by rw[hs];rfl) rfl).imp λσ H Q ⟨E,ds,q,k⟩=>by
 let⟨as,e1,q⟩:=VA q
 refine⟨E,as,e1,λvs H1 j il=>?_⟩
 let⟨c,rfl,T⟩:=bd q
 let⟨xs,J,I⟩:=VA T
 let⟨U,C,r⟩:=VA I
 let⟨g,o⟩:=aw r
 subst o
 let⟨v,rfl,h⟩:=uQ il
 let⟨l,ys,rfl,t,l2⟩:=cH J h
 rw[bT C l2]at t
 exact⟨l,U,rfl,msk_le.seq t,g,λb hb=>k b _ H1 j hb (nX _)⟩
end
end L2
namespace L2
open PySem PySem.W PyProof.Rows
noncomputable def  kRun{α:Type}(c:Nat->Nat->Bool):KasT α->α
 |.ret a=>a
 |.ask i j k=>kRun c (k (c i j))
def eJ{f:α->KasT β}:∀t:KasT α,kRun c (t.bind f)=kRun c (f (kRun c t))
 |.ret _=>rfl
 |.ask i j k=>eJ (k (c i j))
section
variable{ky:Nat->Int}
def  kC(ky:Nat->Int)(i j:Nat):Bool:=decide (ky i<ky j)
def  kG(ky:Nat->Int)(p:Array Nat)(i:Nat):Int:=ky (p.getD i 0)
def nY(h:p[i]?=q[j]?):kG ky p i=kG ky q j:=by simp_all [kG]
def  DE(ky:Nat->Int)(p:Array Nat)(k:Nat):Prop:=∀i j,i<=j->j<k->kG ky p i<=kG ky p j
def  Lu(ky:Nat->Int)(p:Array Nat)(k:Nat):Prop:=∀i j,i<=j->j<k->kG ky p j<=kG ky p i
def  Po(ky:Nat->Int)(p:Array Nat)(a b:Nat):Prop:=∀i,a<=i->i<b->kG ky p i=kG ky p (b-1)
def rev_at(g:j<=p.size)(k:Nat):(kas_rev p i j)[k]?=if i<=k/\k<j then p[i+j-1-k]? else p[k]?:=by
 unfold kas_rev;rw[getElem?_mirror g _ (!1)];grind
def nZ(g:j<=p.size)(h:Po ky p i j)(k:Nat):kG ky (kas_rev p i j) k=kG ky p k:=by
 have e:=rev_at (i:=i) g k;by_cases c:i<=k/\k<j
 .rw[if_pos c]at e;rw[nY e,h _ (!1) (!1),h k c.1 c.2]
 .rw[if_neg c]at e;exact nY e
def cJ(p:Array Nat)(i j:Nat):(kas_rev p i j).Perm p:=mirror_perm _ _ _ _
def eL{p q:Array Nat}(h:p.Perm q):p.size=q.size:=h.size_eq
def vK:∀(f n:Nat),1<=n->DE ky p n->
  n<=kRun (kC ky) (kas_asc p f n)/\kRun (kC ky) (kas_asc p f n)<=n+f/\DE ky p (kRun (kC ky) (kas_asc p f n))/\
   (kRun (kC ky) (kas_asc p f n)=n+f\/kG ky p (kRun (kC ky) (kas_asc p f n))<kG ky p (kRun (kC ky) (kas_asc p f n)-1))
 |0,n,_,h=>⟨Vy _,Vy _,h,.inl rfl⟩
 |f+1,n,h1,h=>by
  have e:kRun (kC ky) (kas_asc p (f+1) n)=if kG ky p n<kG ky p (n-1)then n else kRun (kC ky) (kas_asc p f (n+1)):=by
   show kRun (kC ky) (if decide (kG ky p n<kG ky p (n-1))=true then KasT.ret n else kas_asc p f (n+1))=_;by_cases c:kG ky p n<kG ky p (n-1)
   .rw[if_pos c,if_pos (decide_eq_true c)];rfl
   .rw[if_neg c,if_neg (by rw[decide_eq_true_eq];exact c)]
  rw[e];by_cases c:kG ky p n<kG ky p (n-1)
  .rw[if_pos c];exact⟨Vy _,by omega,h,.inr c⟩
  .rw[if_neg c];let⟨a1,a2,a3,a4⟩:=vK f (n+1) (!1) (λi j hij hj=>by
    rcases Nat.lt_or_ge j n with q|q
    .exact h i j hij q
    .have:j=n:=by omega
     subst this;rcases Nat.lt_or_ge i j with r|r
     .exact Int.le_trans (h i (j-1) (!1) (!1)) (!1)
     .have:i=j:=by omega
      subst this;exact Int.le_refl _)
   exact⟨by omega,by omega,a3,a4.imp (λq=>by omega) id⟩
structure kDs(ky:Nat->Int)(p:Array Nat)(n q:Nat):Prop where
 n1:1<=n
 hq:q+1<=n
 dn:Lu ky p n
 eq:Po ky p (n-(q+1)) n
def rD(h1:1<=n)(h:Lu ky p n)(c:kG ky p n<=kG ky p (n-1))(e:∀k,kG ky l k=kG ky p k):Lu ky l (n+1):=λi j g o=>by
 rw[e,e];rcases Nat.lt_or_ge j n with q|q
 .exact h i j g q
 .have:j=n:=by omega
  subst this;rcases Nat.lt_or_ge i j with r|r
  .exact Int.le_trans c (h i (j-1) (!1) (!1))
  .have:i=j:=by omega
   subst this;exact Int.le_refl _
def mW:∀(f:Nat)(p:Array Nat)(n q:Nat),kDs ky p n q->n+f<=p.size->
  ∃p' m q',kRun (kC ky) (kas_desc f p n q)=(p',m,q')/\p'.Perm p/\n<=m/\m<=n+f/\kDs ky p' m q'
 |0,p,n,q,h,_=>⟨p,n,q,rfl,.refl _,Vy _,Vy _,h⟩
 |f+1,p,n,q,h,hz=>by
  have e:kRun (kC ky) (kas_desc (f+1) p n q)=if kG ky p n<kG ky p (n-1)then(if q>0 then kRun (kC ky) (kas_desc f (kas_rev p (n-(q+1)) n) (n+1) 0)else kRun (kC ky) (kas_desc f p (n+1) 0))
    else if kG ky p (n-1)<kG ky p n then(p,n,q)else kRun (kC ky) (kas_desc f p (n+1) (q+1)):=by
   show kRun (kC ky) (if decide (kG ky p n<kG ky p (n-1))=true then(if q>0 then kas_desc f (kas_rev p (n-(q+1)) n) (n+1) 0 else kas_desc f p (n+1) 0)
    else KasT.ask (p.getD (n-1) 0) (p.getD n 0) λd=>if d=true then KasT.ret (p,n,q)else kas_desc f p (n+1) (q+1))=_
   by_cases c:kG ky p n<kG ky p (n-1)
   .rw[if_pos c,if_pos (decide_eq_true c)];by_cases c2:q>0
    .rw[if_pos c2,if_pos c2]
    .rw[if_neg c2,if_neg c2]
   .rw[if_neg c,if_neg (by rw[decide_eq_true_eq];exact c)];show kRun (kC ky) (if decide (kG ky p (n-1)<kG ky p n)=true then KasT.ret (p,n,q)else kas_desc f p (n+1) (q+1))=_;by_cases c2:kG ky p (n-1)<kG ky p n
    .rw[if_pos c2,if_pos (decide_eq_true c2)];rfl
    .rw[if_neg c2,if_neg (by rw[decide_eq_true_eq];exact c2)]
  have one:∀p':Array Nat,Po ky p' (n+1-(0+1)) (n+1):=λp' i h1 h2=>by
   have:i=n+1-1:=by omega
   rw[this]
  rw[e];by_cases c:kG ky p n<kG ky p (n-1)
  .rw[if_pos c];by_cases c2:q>0
   .rw[if_pos c2];have hr:=cJ p (n-(q+1)) n;have hs:=eL hr;let⟨p',m,q',a1,a2,a3,a4,a5⟩:=mW f (kas_rev p (n-(q+1)) n) (n+1) 0 ⟨by omega,by omega,rD h.n1 h.dn (Int.le_of_lt c) (nZ (!1) h.eq),one _⟩ (!1);exact⟨p',m,q',a1,a2.trans hr,by omega,by omega,a5⟩
   .rw[if_neg c2];let⟨p',m,q',a1,a2,a3,a4,a5⟩:=mW f p (n+1) 0 ⟨by omega,by omega,rD h.n1 h.dn (Int.le_of_lt c) (λ_=>rfl),one _⟩ (!1);exact⟨p',m,q',a1,a2,by omega,by omega,a5⟩
  .rw[if_neg c];by_cases c2:kG ky p (n-1)<kG ky p n
   .rw[if_pos c2];exact⟨p,n,q,rfl,.refl _,Vy _,by omega,h⟩
   .rw[if_neg c2];have eq:kG ky p n=kG ky p (n-1):=by omega
    let⟨p',m,q',a1,a2,a3,a4,a5⟩:=mW f p (n+1) (q+1) ⟨by omega,by have:=h.hq;omega,rD h.n1 h.dn (Int.le_of_eq eq) (λ_=>rfl),λi h1 h2=>by
     show kG ky p i=kG ky p n;rcases Nat.lt_or_ge i n with r|r
     .rw[h.eq i (!1) r,eq]
     .have:i=n:=by omega
      rw[this]⟩ (!1)
    exact⟨p',m,q',a1,a2,by omega,by omega,a5⟩
def xn(h1:1<=n)(C:n<=nrem)(t:nrem<=p.size)(h:Lu ky p n):
  ∃m g,kRun (kC ky) (kas_tail3 n nrem p)=(m,g)/\g.Perm p/\1<=m/\m<=nrem/\DE ky g m:=by
 have up:DE ky (kas_rev p 0 n) n:=λi j o I=>by
  have l:=rev_at (p:=p) (i:=0) (j:=n) (!1) i;have e2:=rev_at (p:=p) (i:=0) (j:=n) (!1) j;rw[if_pos (!1)]at l e2;rw[nY l,nY e2];exact h _ _ (!1) (!1)
 let⟨T,J,r,_⟩:=vK (nrem-n) n h1 up
 refine⟨_,kas_rev p 0 n,?_,cJ _ _ _,by omega,by omega,r⟩
 unfold kas_tail3
 rw[eJ]
 rfl
def xo(hn:n+1<=nrem)(hz:nrem<=p.size)(h:Lu ky p (n+1)):
  ∃m g,kRun (kC ky) (kas_descPart n nrem p)=(m,g)/\g.Perm p/\1<=m/\m<=nrem/\DE ky g m:=by
 let⟨T,m,q,e,J,a3,a4,l⟩:=mW (nrem-(n+1)) p (n+1) 0 ⟨by omega,by omega,h,λi h1 h2=>by
  have:i=n+1-1:=by omega
  rw[this]⟩ (!1)
 have hs:=eL J
 unfold kas_descPart
 rw[eJ,e]
 dsimp only
 by_cases c:q>0
 .rw[if_pos c];have U:=cJ T (m-(q+1)) m;have hs2:=eL U;have d:Lu ky (kas_rev T (m-(q+1)) m) m:=λi j r hj=>by
   rw[nZ (!1) l.eq,nZ (!1) l.eq];exact l.dn i j r hj
  let⟨o,g,I,C,t⟩:=xn (nrem:=nrem) l.n1 (!1) (!1) d;exact⟨o,g,I,C.trans (U.trans J),t⟩
 .rw[if_neg c];let⟨o,g,I,C,t⟩:=xn (nrem:=nrem) l.n1 (!1) (!1) l.dn;exact⟨o,g,I,C.trans J,t⟩
def Bl(h1:1<=nrem)(hz:nrem<=p.size):
  ∃m l,kRun (kC ky) (kas_count nrem p)=(m,l)/\l.Perm p/\1<=m/\m<=nrem/\DE ky l m:=by
 let⟨I,a2,t,C⟩:=vK (nrem-1) 1 (Vy _) (λi j o U=>by
  have:i=j:=by omega
  subst this;exact Int.le_refl _)
 unfold kas_count
 rw[eJ]
 generalize kRun (kC ky) (kas_asc p (nrem-1) 1)=n at I a2 t C
 by_cases c:(n==nrem)=true
 .rw[if_pos c];exact⟨n,p,rfl,.refl _,I,by omega,t⟩
 .rw[if_neg c];have c':n≠nrem:=λq=>c (beq_iff_eq.mpr q);have C:kG ky p n<kG ky p (n-1):=by
   rcases C with q|q
   .omega
   .exact q
  by_cases c2:n>1
  .rw[if_pos c2];have e:kRun (kC ky) (KasT.ask (p.getD 0 0) (p.getD (n-1) 0) λc=>if c=true then KasT.ret (n,p)else kas_descPart n nrem (kas_rev p 0 n))=if kG ky p 0<kG ky p (n-1)then(n,p)else kRun (kC ky) (kas_descPart n nrem (kas_rev p 0 n)):=by
    show kRun (kC ky) (if decide (kG ky p 0<kG ky p (n-1))=true then KasT.ret (n,p)else kas_descPart n nrem (kas_rev p 0 n))=_;by_cases g:kG ky p 0<kG ky p (n-1)
    .rw[if_pos g,if_pos (decide_eq_true g)];rfl
    .rw[if_neg g,if_neg (by rw[decide_eq_true_eq];exact g)]
   rw[e];by_cases g:kG ky p 0<kG ky p (n-1)
   .rw[if_pos g];exact⟨n,p,rfl,.refl _,I,by omega,t⟩
   .rw[if_neg g];have eq:Po ky p 0 n:=λi h1 h2=>by
     have x1:=t i (n-1) (!1) (!1);have x2:=t 0 i (!1) h2;omega
    have T:=cJ p 0 n;have hs:=eL T;let⟨m',l,b1,b2,b3⟩:=xo (p:=kas_rev p 0 n) (n:=n) (nrem:=nrem) (!1) (!1) (λi j o U=>by
     rw[nZ (!1) eq,nZ (!1) eq];rcases Nat.lt_or_ge j n with r|r
     .rw[eq i (!1) (!1),eq j (!1) r];exact Int.le_refl _
     .have:j=n:=by omega
      subst this;rcases Nat.lt_or_ge i j with J|J
      .rw[eq i (!1) J];omega
      .have:i=j:=by omega
       subst this;exact Int.le_refl _)
    exact⟨m',l,b1,b2.trans T,b3⟩
  .rw[if_neg c2];refine xo (!1) hz λi j o U=>?_;have:n=1:=by omega
   subst this;rcases Nat.lt_or_ge i j with r|r
   .have e1:i=0:=by omega
    have e2:j=1:=by omega
    subst e1 e2;exact Int.le_of_lt C
   .have:i=j:=by omega
    subst this;exact Int.le_refl _
def n5(up:DE ky p k):∀(f l r:Nat),l<=r->r<=k->r-l<=f->(∀i,i<l->kG ky p i<=kG ky p k)->(∀i,r<=i->i<k->kG ky p k<kG ky p i)->
  kRun (kC ky) (kas_place p k f l r)<=k/\(∀i,i<kRun (kC ky) (kas_place p k f l r)->kG ky p i<=kG ky p k)/\(∀i,kRun (kC ky) (kas_place p k f l r)<=i->i<k->kG ky p k<kG ky p i)
 |0,l,r,h1,h2,h3,a,b=>⟨by show l<=k;omega,a,λi hi hk=>b i (by have:l<=i:=hi;omega) hk⟩
 |f+1,l,r,h1,h2,h3,a,b=>by
  unfold kas_place;by_cases c:l≥r
  .rw[if_pos c];exact⟨by show l<=k;omega,a,λi hi hk=>b i (by have:l<=i:=hi;omega) hk⟩
  .rw[if_neg c];have e:kRun (kC ky) (KasT.ask (p.getD k 0) (p.getD ((l+r)/2) 0) λc=>if c=true then kas_place p k f l ((l+r)/2)else kas_place p k f ((l+r)/2+1) r)=if kG ky p k<kG ky p ((l+r)/2)then kRun (kC ky) (kas_place p k f l ((l+r)/2))else kRun (kC ky) (kas_place p k f ((l+r)/2+1) r):=by
    show kRun (kC ky) (if decide (kG ky p k<kG ky p ((l+r)/2))=true then kas_place p k f l ((l+r)/2)else kas_place p k f ((l+r)/2+1) r)=_;by_cases c3:kG ky p k<kG ky p ((l+r)/2)
    .rw[if_pos c3,if_pos (decide_eq_true c3)]
    .rw[if_neg c3,if_neg (by rw[decide_eq_true_eq];exact c3)]
   rw[e];by_cases c3:kG ky p k<kG ky p ((l+r)/2)
   .rw[if_pos c3];exact n5 up f l ((l+r)/2) (!1) (!1) (!1) a λi hi hk=>by
     have:=up ((l+r)/2) i hi hk;omega
   .rw[if_neg c3];exact n5 up f ((l+r)/2+1) r (!1) h2 (!1) (λi hi=>by
     have:=up i ((l+r)/2) (!1) (!1);omega) b
def Bm:∀(f:Nat)(p:Array Nat)(k:Nat),DE ky p k->k+f<=p.size->(kRun (kC ky) (kas_bin f p k)).Perm p/\DE ky (kRun (kC ky) (kas_bin f p k)) (k+f)
 |0,p,k,h,_=>⟨.refl _,h⟩
 |f+1,p,k,h,hz=>by
  let⟨a1,a2,a3⟩:=n5 h k 0 k (Nat.zero_le _) (Vy _) (!1) (λi hi=>by omega) (λi h1 h2=>by omega);have e:kRun (kC ky) (kas_bin (f+1) p k)=kRun (kC ky) (kas_bin f (bubble p k (k-kRun (kC ky) (kas_place p k k 0 k))) (k+1)):=eJ _;rw[e];generalize kRun (kC ky) (kas_place p k k 0 k)=l at a1 a2 a3;have hp:(bubble p k (k-l)).Perm p:=bubble_perm _ _ _;have hs:=eL hp;have at':∀i,kG ky (bubble p k (k-l)) i=if i=l then kG ky p k else if l<i/\i<=k then kG ky p (i-1)else kG ky p i:=λi=>by
   have z:=getElem?_bubble (xs:=p) (src:=k) (!1) (k-l) (!1) i;rw[show k-(k-l)=l by omega]at z;by_cases c1:i=l
   .rw[if_pos c1]at z⊢;exact nY z
   .rw[if_neg c1]at z⊢;by_cases c2:l<i/\i<=k
    .rw[if_pos c2]at z⊢;exact nY z
    .rw[if_neg c2]at z⊢;exact nY z
  let⟨b1,b2⟩:=Bm f (bubble p k (k-l)) (k+1) (λi j hij hj=>by
   rw[at',at'];by_cases ci:i=l
   .rw[if_pos ci];by_cases cj:j=l
    .rw[if_pos cj];exact Int.le_refl _
    .rw[if_neg cj,if_pos (!1)];exact Int.le_of_lt (a3 (j-1) (!1) (!1))
   .rw[if_neg ci];by_cases ci2:l<i/\i<=k
    .rw[if_pos ci2,if_neg (!1),if_pos (!1)];exact h _ _ (!1) (!1)
    .rw[if_neg ci2];by_cases cj:j=l
     .rw[if_pos cj];exact a2 i (!1)
     .rw[if_neg cj];by_cases cj2:l<j/\j<=k
      .rw[if_pos cj2];exact h _ _ (!1) (!1)
      .rw[if_neg cj2];exact h _ _ hij (!1)) (!1)
  exact⟨b1.trans hp,by rw[show k+(f+1)=k+1+f by omega];exact b2⟩
def Fe(h1:1<=n):(kRun (kC ky) (kas_sort n)).Perm (List.toArray (!19))/\DE ky (kRun (kC ky) (kas_sort n)) n:=by
 let⟨m,p,e,g,J,I,l⟩:=Bl (p:=List.toArray (!19)) h1 (by simp);have C:=eL g;have t:(List.toArray (!19)).size=n:=by simp
 unfold kas_sort;rw[eJ,e];by_cases c:m<n
 .rw[if_pos c];have o:max m 1=m:=by omega
  rw[o];let⟨r,j⟩:=Bm (n-m) p m l (!1);rw[show m+(n-m)=n by omega]at j;exact⟨r.trans g,j⟩
 .rw[if_neg c];have:m=n:=by omega
  subst this;exact⟨g,l⟩
end
def  kIn{α:Type}(n:Nat)(Q:α->Prop):KasT α->Prop
 |.ret a=>Q a
 |.ask i j k=>i<n/\j<n/\∀b,kIn n Q (k b)
def gu{Q Q'}(h:∀a,Q a->Q' a):∀t:KasT α,kIn n Q t->kIn n Q' t
 |.ret a,z=>h a z
 |.ask _ _ k,z=>⟨z.1,z.2.1,λb=>gu h (k b) (z.2.2 b)⟩
def gv{f:α->KasT β}:∀t:KasT α,kIn n (λa=>kIn n Q (f a)) t->kIn n Q (t.bind f)
 |.ret _,z=>z
 |.ask _ _ k,z=>⟨z.1,z.2.1,λb=>gv (k b) (z.2.2 b)⟩
def cK[Decidable c]{t u:KasT α}(h:kIn n Q t)(h':kIn n Q u):kIn n Q (if c then t else u):=by grind
def  kB(n:Nat)(p:Array Nat):Prop:=∀k,p.getD k 0<n
def i8(h0:0<n)(h:q.Perm p)(b:kB n p):kB n q:=λk=>by
 rw[Array.getD_eq_getD_getElem?];cases e:q[k]? with
 |none=>exact h0
 |some x=>
  let⟨j,g,e2⟩:=Array.getElem_of_mem (h.mem_iff.mp (Array.mem_of_getElem? e));have z:=b j;rw[Array.getD_eq_getD_getElem?,Array.getElem?_eq_getElem g,e2]at z;exact z
section
variable{n:Nat}
def vL(b:kB n p):∀(f m:Nat),kIn n (λ_=>True) (kas_asc p f m)
 |0,_=>trivial
 |f+1,m=>⟨b _,b _,λc=>cK trivial (vL b f (m+1))⟩
def mX(h0:0<n):∀(f:Nat)(p:Array Nat)(m q:Nat),kB n p->kIn n (λr=>kB n r.1) (kas_desc f p m q)
 |0,p,_,_,b=>b
 |f+1,p,m,q,b=>⟨b _,b _,λc=>cK (cK (mX h0 f _ _ _ (i8 h0 (cJ _ _ _) b)) (mX h0 f _ _ _ b)) ⟨b _,b _,λd=>cK b (mX h0 f _ _ _ b)⟩⟩
def xp(h0:0<n)(b:kB n p)(m r:Nat):kIn n (λz=>kB n z.2) (kas_tail3 m r p):=
 gv _ (gu (λ_ _=>i8 h0 (cJ _ _ _) b) _ (vL (i8 h0 (cJ _ _ _) b) _ _))
def xq(h0:0<n)(b:kB n p)(m r:Nat):kIn n (λz=>kB n z.2) (kas_descPart m r p):=
 gv _ (gu (λz g=>cK (xp h0 (i8 h0 (cJ _ _ _) g) _ _) (xp h0 g _ _)) _ (mX h0 _ _ _ _ b))
def Bo(h0:0<n)(b:kB n p)(r:Nat):kIn n (λz=>kB n z.2) (kas_count r p):=by
 refine gv _ (gu (λm _=>?_) _ (vL b _ _));refine cK ?_ (cK ⟨b _,b _,λc=>cK ?_ (xq h0 (i8 h0 (cJ _ _ _) b) _ _)⟩ (xq h0 b _ _))
 .exact b
 .exact b
def n6(b:kB n p)(k:Nat):∀(f l r:Nat),kIn n (λ_=>True) (kas_place p k f l r)
 |0,_,_=>trivial
 |f+1,l,r=>by
  unfold kas_place;exact cK trivial ⟨b _,b _,λc=>cK (n6 b k f _ _) (n6 b k f _ _)⟩
def Bp(h0:0<n):∀(f:Nat)(p:Array Nat)(k:Nat),kB n p->kIn n (λ_=>True) (kas_bin f p k)
 |0,_,_,_=>trivial
 |f+1,p,k,b=>gv _ (gu (λl _=>Bp h0 f _ _ (i8 h0 (bubble_perm _ _ _) b)) _ (n6 b k _ _ _))
def rE(h0:0<n):kIn n (λ_=>True) (kas_sort n):=by
 have b:kB n (List.toArray (!19)):=λk=>by
  by_cases h:k<n
  .simp[h]
  .simp[h,h0]
 refine gv _ (gu (λz g=>cK (Bp h0 _ _ _ g) ?_) _ (Bo h0 b n));exact trivial
end
def rF{ask}(ha:∀i j C,i<n->j<n->C (c i j) s->ask i j C s):
  ∀t:KasT α,kIn n (λ_=>True) t->Q (kRun c t) s->t.kasWp ask Q s
 |.ret _,_,h=>h
 |.ask i j k,z,h=>ha i j _ z.1 z.2.1 (rF ha (k (c i j)) (z.2.2 _) h)
end L2
namespace L2
open PySem PySem.W PyProof.Rows
def  gZ(c:Nat->Nat->Bool)(vs:U0):U0:=if vs.length<2 then vs else(kRun c (kas_sort vs.length)).toList.map λi=>vs.getD i .none
structure SortBy(prog:Program)(w:World)(A:Around)(s:Shared)(a:Addr)(vs:U0)(κ:SortKind)(c:Nat->Nat->Bool):Prop where
 kd:∀h',(∀b o,b≠a->s.heap.get? b=!o->h'.get? b=!o)->2<=vs.length->∀(Q:SortKind->Shared->Prop),Q κ {s with heap:=h'}->wpAny (!7) A (keyKind' vs.toArray) Q (λ_ _=>False) {s with heap:=h'}
 cp:∀h',(∀b o,b≠a->s.heap.get? b=!o->h'.get? b=!o)->∀i j,i<vs.length->j<vs.length->∀(Q:Bool->Shared->Prop),Q (c i j) {s with heap:=h'}->wpAny (!7) A (keyLt' κ (vs.getD i .none) (vs.getD j .none)) Q (λ_ _=>False) {s with heap:=h'}
def Bq{prog:Program}{w:World}{A:Around}{E:UZ}{s:Shared}(I:s.heap.get? a=!(seqObj "list" g.toArray n))(T:g.length<64)(B:SortBy prog w A s a g κ c)(h:P (.done (.ret .none)) {s with heap:=sortedHeap s.heap a g (gZ c g).toArray}):wpAny (!7) A (Builtin.«list.sort» ⟨[.ref a],[]⟩) P E s:=by
 obtain⟨m,hm⟩:∃m,(s.heap.update a (Obj.mapSeq λ_=>#[])).get? a=!(seqObj "list" #[] m):=⟨_,get?_update_seq I λ_=>#[]⟩;have J:(((s.heap.update a (Obj.mapSeq λ_=>#[])).push (seqObj "tuple" g.toArray 0)).push (seqObj "list" #[] 0)).get? a=!_:=
  Vc _ (Vc _ hm)
 have sz:g.toArray.size=g.length:=rfl;have t:g.length<=sizeLine:=by rw[sizeLine_eq];omega
 rw[list_sort_plain];refine Vb (listItems_at I rfl (Vb (listUpdate_at I rfl ?_ (by rw[sz];exact t) (Nat.zero_le _))));refine Vb (seqEpoch_at hm rfl (Vb (wpAny_newTuple ?_ t)));refine Vb (wpAny_newList (wpAny_holding ?_) (Nat.zero_le _));dsimp only;rw[sz];by_cases q:g.length<2
 .rw[if_pos q,if_pos q];refine Vb (Vd ?_);refine Vb (Vd ?_);have e:(arrOf (SortSt.mk' general' (g.toArray.zip g.toArray) #[] 7 none)).map (·.2)=(gZ c g).toArray:=by
   unfold gZ;rw[if_pos q];show(g.toArray.zip g.toArray).map (·.2)=g.toArray;apply Array.toList_inj.mp;simp only[Array.toList_map,Array.toList_zip];exact List.map_snd_zip (Vy _)
  dsimp only;rw[e];refine Vb (seqEpoch_at J rfl (Vb (listUpdate_at J rfl ?_ (Nat.zero_le _) (by unfold gZ;rw[if_pos q];show g.length<=_;omega))));simp only[bne_self_eq_false,Bool.false_eq_true,if_false];exact Vd h
 .rw[if_neg q,if_neg q];have kp:∀b o,b≠a->s.heap.get? b=!o->(((s.heap.update a (Obj.mapSeq λ_=>#[])).push (seqObj "tuple" g.toArray 0)).push (seqObj "list" #[] 0)).get? b=!o:=λb o hb I=>
   Vc _ (Vc _ (by rw[Heap.get?_update_ne _ _ _ _ hb];exact I))
  refine Vb (Vz (B.kd _ kp (!1) (λr s'=>r=κ/\s'=_) ⟨rfl,rfl⟩) ?_ λ_ _ z=>z.elim);rintro r _ ⟨e0,rfl⟩;rw[e0];refine Vb (Vz (kat_run (Q:=λl s'=>(arrOf l).map (·.2)=(gZ c g).toArray/\failedOf l=none/\(gZ c g).length=g.length/\s'=_) rfl (!1) T
   (G:=λp s'=>p=kRun c _/\s'=_) (λp l s' a1 a2 a3 U=>⟨?_,a3,?_,U.2⟩) (rF (λi j C hi hj z=>B.cp _ kp i j hi hj C z) _ (rE (!1)) ⟨rfl,rfl⟩)) ?_ λ_ _ z=>z)
  .rw[kat_snds rfl a2,U.1];unfold gZ;rw[if_neg q]
  .unfold gZ;rw[if_neg q,length_map,<-U.1,Array.length_toList,a1]
  .rintro⟨⟨⟩,l⟩ _ ⟨e1,e2,e3,rfl⟩;rw[e1];refine Vb (seqEpoch_at J rfl (Vb (listUpdate_at J rfl ?_ (Nat.zero_le _) ?_)))
   .rw[e2];simp only[bne_self_eq_false,Bool.false_eq_true,if_false];exact Vd h
   .show(gZ c g).length<=_;omega
def y6(hl:s.heap.IsList l vs.toArray)(h64:vs.length<64)(B:∀h':Heap,(∀b o,s.heap.get? b=!o->h'.get? b=!o)->SortBy prog w A.in1.in1 {s with heap:=h'} (!13) vs κ c)(h:Q (.ref (!13)) {s with heap:=sortedAll s.heap vs (gZ c vs).toArray}):wpAny (!7) A (call (.builtin "sorted") [.ref l]) Q E s:=by
 have z64:vs.length<=sizeLine:=by rw[sizeLine_eq];omega
 refine Calls.call_function_entry kind_sorted plain_sorted entry_sorted (args_sorted1 _) ?_;refine Vb (Vd (Vb (collect_list hl (Vb (wpAny_newList ?_ z64)) z64)));have e:((s.heap.push (seqObj "list" #[] 0)).update s.heap.objs.size (Obj.mapSeq (·++vs.toArray))).objs.size=s.heap.objs.size+1:=by rw[Heap.size_update,size_push']
 have hn:(((s.heap.push (seqObj "list" #[] 0)).update s.heap.objs.size (Obj.mapSeq (·++vs.toArray))).push (seqObj "list" vs.toArray 0)).get? (!13)=!(seqObj "list" vs.toArray 0):=by
  rw[<-e];exact Vf _ rfl
 have kp:∀b o,s.heap.get? b=!o->(((s.heap.push (seqObj "list" #[] 0)).update s.heap.objs.size (Obj.mapSeq (·++vs.toArray))).push (seqObj "list" vs.toArray 0)).get? b=!o:=λb o z=>by
  have lt:=Ve z;exact Vc _ (by rw[Heap.get?_update_ne _ _ _ _ (Nat.ne_of_lt lt)];exact Vc _ z)
 rw[e];refine Vb (wpAny_holding (wpAny_call_entry slot_list_sort ⟨_,hn,rfl⟩ entry_list_sort (Bq hn h64 (B _ kp) ⟨_,rfl,Vd ⟨_,rfl,h⟩⟩) (args_list_sort _)))
def vM:∀a:U4,HT.lexLt a a=false
 |[]=>rfl
 |x::a=>by rw[HT.lexLt_cons,if_pos rfl];exact vM a
def rG:∀a b:U4,HT.lexLt a b=true->HT.lexLt b a=false
 |[],[],_=>rfl
 |[],_::_,_=>rfl
 |_::_,[],h=>by cases h
 |x::a,y::b,h=>by
  rw[HT.lexLt_cons]at h⊢;by_cases q:x=y
  .rw[if_pos q]at h;rw[if_pos q.symm];exact rG a b h
  .rw[if_neg q]at h;rw[if_neg (Ne.symm q)];have:=Vk h;exact decide_eq_false (!1)
def n9:∀k j i:U4,HT.lexLt k j=true->HT.lexLt i j=false->HT.lexLt k i=true
 |[],[],_,h,_=>by cases h
 |_::_,[],_,h,_=>by cases h
 |_,_::_,[],_,h=>by cases h
 |[],_::_,_::_,_,_=>rfl
 |x::k,y::j,z::i,h,g=>by
  rw[HT.lexLt_cons]at h g⊢;by_cases q:x=y
  .rw[if_pos q]at h;by_cases r:z=y
   .rw[if_pos r]at g;rw[if_pos (q.trans r.symm)];exact n9 k j i h g
   .rw[if_neg r]at g;have:=of_decide_eq_false g;rw[if_neg (!1)];exact decide_eq_true (!1)
  .rw[if_neg q]at h;have h:=Vk h;by_cases r:z=y
   .rw[if_neg (!1)];exact decide_eq_true (!1)
   .rw[if_neg r]at g;have:=of_decide_eq_false g;rw[if_neg (!1)];exact decide_eq_true (!1)
def Jy(h:HT.lexLt a b=true)(g:HT.lexLt b c=true):HT.lexLt a c=true:=n9 a b c h (rG b c g)
def rH:∀a b:U4,HT.lexLt a b=false->HT.lexLt b a=false->a=b
 |[],[],_,_=>rfl
 |[],_::_,h,_=>by cases h
 |_::_,[],_,h=>by cases h
 |x::a,y::b,h,g=>by
  rw[HT.lexLt_cons]at h g;by_cases q:x=y
  .rw[if_pos q]at h;rw[if_pos q.symm]at g;rw[q,rH a b h g]
  .rw[if_neg q]at h;rw[if_neg (Ne.symm q)]at g;have:=of_decide_eq_false h;have:=of_decide_eq_false g;omega
def Jz{l:U2}(h:∀x,p x=true->q x=true)(g:y∈l)(h1:q y=true)(h2:p y=false):l.countP p<l.countP q:=by
 induction l with
 |nil=>cases g
 |cons a l j=>
  have m:l.countP p<=l.countP q:=List.countP_mono_left λx _ z=>h x z;rcases mem_cons.mp g with rfl|g
  .rw[List.countP_cons,List.countP_cons,h1,h2];simp;omega
  .have:=j g;rw[List.countP_cons,List.countP_cons];have z:(if p a=true then 1 else 0)<=(if q a=true then 1 else 0):=by
    cases e:p a with
    |true=>rw[h a e];simp
    |false=>simp
   omega
def  rk(n:Nat)(f:Nat->U4)(i:Nat):Int:=(((!19).countP λk=>HT.lexLt (f k) (f i):Nat):Int)
def Ho(hi:i<n):HT.lexLt (f i) (f j)=kC (rk n f) i j:=by
 unfold kC rk;cases e:HT.lexLt (f i) (f j)with
 |true=>
  refine(decide_eq_true ?_).symm;have:=Jz (λx h=>Jy h e) (Vw.mpr hi) e (vM _);omega
 |false=>
  refine(decide_eq_false ?_).symm;have:(!19).countP (λk=>HT.lexLt (f k) (f j))<=(!19).countP (λk=>HT.lexLt (f k) (f i)):=List.countP_mono_left λx _ h=>n9 _ _ _ h e;omega
def og(h:∀i j,i<n->j<n->c i j=c' i j):∀t:PySem.W.KasT α,kIn n (λ_=>True) t->kRun c t=kRun c' t
 |.ret _,_=>rfl
 |.ask i j k,z=>by
  show kRun c (k (c i j))=kRun c' (k (c' i j));rw[h i j z.1 z.2.1];exact og h _ (z.2.2 _)
def  pG(f:Nat->U4)(i j:Nat):Bool:=HT.lexLt (f i) (f j)
def dt(f:Nat->U4)(t:1<=n):(kRun (pG f) (PySem.W.kas_sort n)).toList.Perm (!19)/\(kRun (pG f) (PySem.W.kas_sort n)).toList.Pairwise (λa b=>HT.lexLt (f b) (f a)=false):=by
 rw[og (c:=pG f) (λi j hi o=>Ho hi) _ (rE t)];let⟨h1,h2⟩:=Fe t;generalize kRun (kC (rk n f)) (PySem.W.kas_sort n)=p at h1 h2;have l:p.toList.Perm (!19):=by simpa using h1.toList
 refine⟨l,List.pairwise_iff_getElem.mpr λi j hi o r=>?_⟩;have C:p.toList.length=n:=by rw[l.length_eq,length_range]
 have z:=h2 i j (Vu r) (!1);have e:∀k (g:k<p.toList.length),p.getD k 0=p.toList[k]:=λk g=>by
  have:k<p.size:=by omega
  simp[Array.getD,this]
 unfold kG at z;rw[e i hi,e j o]at z;have m:∀k (g:k<p.toList.length),p.toList[k]<n:=λk g=>Vw.mp (l.mem_iff.mp (List.getElem_mem g));rw[Ho (m j o)];exact decide_eq_false (!1)
def  ku:D->Option (Option Nat×List Int)
 |.int i=>!(none,[i])
 |.tup ds=>(a9 ds).bind λns=>!(!ns.length,ns)
 |_=>none
def  fU:U7->Option (List (Option Nat)×List Int)
 |[]=>!([],[])
 |d::ds=>(ku d).bind λa=>(fU ds).bind λr=>!(a.1::r.1,a.2++r.2)
def  qo:D->Option (List (Option Nat)×List Int)
 |.tup ds=>fU ds
 |_=>none
def dg:∀{ds:U7}{ns:U4},a9 ds=!ns->ds=ns.map D.int
 |[],ns,h=>by cases h;rfl
 |d::ds,ns,h=>by
  cases d with
  |int i=>
   let⟨ms,e1,e2⟩:=VA (show(a9 ds).bind (λxs=>!(i::xs))=some ns from h);cases e2;rw[dg e1];rfl
  |_=>cases h
def y7(h:ku d=!(a,f))(g:ku e=!(a,f)):d=e:=by
 cases d with
 |int i=>
  cases h;cases e with
  |int j=>cases g;rfl
  |tup es=>let⟨l,_,z⟩:=VA g;cases z
  |_=>cases g
 |tup ds=>
  let⟨l,h1,h2⟩:=VA h;cases h2;cases e with
  |int j=>cases g
  |tup es=>
   let⟨o,g1,g2⟩:=VA g;injection g2 with g2;injection g2 with g3 g4;subst g4;rw[dg h1,dg g1]
  |_=>cases g
 |_=>cases h
def  Uh:Option Nat->Nat
 |none=>1
 |some n=>n
def i9(h:ku d=!(a,f)):f.length=Uh a:=by
 cases d with
 |int i=>cases h;rfl
 |tup ds=>let⟨g,h1,h2⟩:=VA h;cases h2;rfl
 |_=>cases h
def oh:∀{ds es:U7}{sh:List (Option Nat)}{f:U4},fU ds=!(sh,f)->fU es=!(sh,f)->ds=es
 |[],[],_,_,_,_=>rfl
 |[],e::es,_,_,h,g=>by
  cases h;let⟨a,_,g⟩:=VA g;let⟨r,_,g⟩:=VA g;cases g
 |d::ds,[],_,_,h,g=>by
  cases g;let⟨a,_,h⟩:=VA h;let⟨r,_,h⟩:=VA h;cases h
 |d::ds,e::es,sh,f,h,g=>by
  let⟨⟨a,x⟩,h1,h⟩:=VA h;let⟨⟨r,y⟩,h2,h⟩:=VA h;cases h;let⟨⟨a',x'⟩,g1,g⟩:=VA g;let⟨⟨r',y'⟩,g2,g⟩:=VA g;injection g with g;injection g with ga gb;injection ga with ga1 ga2;dsimp only at ga1 ga2 gb;subst ga1 ga2;let⟨q1,q2⟩:=List.append_inj gb ((i9 g1).trans (i9 h1).symm);subst q1 q2;rw[y7 h1 g1,oh h2 g2]
def  flt(d:D):U4:=match qo d with
 |some (_,f)=>f
 |none=>[]
def  cL(ds:U7):Prop:=∃sh,sh≠[]/\∀d∈ds,∃f,qo d=!(sh,f)
instance (ds:U7):Decidable (cL ds):=Classical.propDecidable _
def  pH(ds:U7):U7:=ds.mergeSort λa b=>not (HT.lexLt (flt b) (flt a))
def  tT:U7->UY:=tq λd=>(lu d).bind λds=>if ds.length<64/\cL ds then !(pH ds)else none
def Br(h:cL ds)(o:a∈ds)(l:b∈ds)(e:flt a=flt b):a=b:=by
 let⟨sh,_,z⟩:=h;let⟨f,j⟩:=z a o;let⟨g,e2⟩:=z b l;unfold flt at e;rw[j,e2]at e;subst e;cases a with
 |tup as=>
  cases b with
  |tup p=>rw[oh (j) (e2)]
  |_=>cases e2
 |_=>cases j
def lC(ds:U7):(pH ds).Perm ds:=List.mergeSort_perm _ _
def tU(ds:U7):(pH ds).Pairwise λa b=>HT.lexLt (flt b) (flt a)=false:=by
 refine(List.pairwise_mergeSort (λa b c h1 h2=>?_) (λa b=>?_) ds).imp λh=>by simpa using h
 .simp only[Bool.not_eq_true']at h1 h2⊢;cases e:HT.lexLt (flt c) (flt a)with
  |false=>rfl
  |true=>rw[n9 _ _ _ e h1]at h2;cases h2
 .cases e:HT.lexLt (flt b) (flt a)with
  |false=>rfl
  |true=>rw[rG _ _ e];rfl
def rJ(h:cL ds)(h1:g.Perm ds)(h2:g.Pairwise λa b=>HT.lexLt (flt b) (flt a)=false):g=pH ds:=
 List.Perm.eq_of_pairwise (λa b l j x y=>Br h (h1.mem_iff.mp l) ((lC ds).mem_iff.mp j) (rH _ _ y x)) h2 (tU ds) (h1.trans (lC ds).symm)
def bM{α:Type}(x:α):∀l:List α,(List.range l.length).map (λi=>l.getD i x)=l:=λl=>by
 apply List.ext_getElem
 .simp
 grind
def tV(h:cL ds)(g:1<=ds.length):(kRun (pG λi=>flt (ds.getD i .non)) (PySem.W.kas_sort ds.length)).toList.map (λi=>ds.getD i .non)=pH ds:=by
 let⟨h1,h2⟩:=dt (λi=>flt (ds.getD i .non)) g;refine rJ h ?_ (List.pairwise_map.mpr h2);have:=h1.map λi=>ds.getD i .non;rwa [bM]at this
section
variable{X:Cx}{pins:UW}{σ:St}{H:Hp}{s:Shared}
def vN:∀{a b:U4}(x y:U4),a.length=b.length->HT.lexLt (a++x) (b++y)=if a=b then HT.lexLt x y else HT.lexLt a b
 |[],[],x,y,_=>by rw[if_pos rfl];rfl
 |[],_::_,_,_,h=>by cases h
 |_::_,[],_,_,h=>by cases h
 |u::a,v::b,x,y,h=>by
  rw[List.cons_append,List.cons_append,HT.lexLt_cons,HT.lexLt_cons,vN x y (Nat.succ.inj h)];by_cases q:u=v
  .rw[if_pos q,if_pos q];by_cases r:a=b
   .rw[if_pos r,if_pos (by rw[q,r])]
   .rw[if_neg r,if_neg (λz=>r (List.cons.inj z).2)]
  .rw[if_neg q,if_neg q,if_neg (λz=>q (List.cons.inj z).1)]
def tW:∀(a b:U4),tD (a.map D.int) (b.map D.int)=decide (a=b)
 |[],[]=>by simp[tD]
 |[],_::_=>by simp[tD]
 |_::_,[]=>by simp[tD]
 |x::a,y::b=>by
  show((x==y)&&tD (a.map D.int) (b.map D.int))=_;rw[tW a b];by_cases q:x=y
  .by_cases r:a=b
   .simp[q,r]
   .simp[q,r]
  .simp[q]
def oi(h:ku d=!z):lw d=true/\pv d<=1:=by
 cases d with
 |int i=>exact⟨rfl,Nat.zero_le _⟩
 |tup ds=>
  let⟨g,h1,_⟩:=VA h;rw[dg h1];have:∀g:U4,qi (g.map D.int)=true/\dN (g.map D.int)<=0:=λg=>by
   induction g with
   |nil=>exact⟨rfl,Vy _⟩
   |cons n g j=>
    refine⟨?_,?_⟩
    .show(lw (.int n)&&qi (g.map D.int))=true;rw[j.1];rfl
    .show max (pv (.int n)) (dN (g.map D.int))<=0;have:pv (.int n)=0:=rfl;omega
  exact⟨(this g).1,by have:=(this g).2;show dN _+1<=1;omega⟩
 |_=>cases h
def Bt(I:Inv X pins σ H s)(hu:A.units+1<cLine)(h1:ku d=!(a,f))(h2:ku e=!(a,g))(J:Is X.K H d x)(C:Is X.K H e y)(rx:RelV x p)(r:RelV y q):
  SeqAt.EqAt A s p q (decide (f=g))/\∀(b:Bool)(Q:Bool->Shared->Prop),(b=true->a=none)->Q (HT.lexLt f g) s->wpAny (!4) A (oneLt' b p q) Q (λ_ _=>False) s:=by
 have eq:=AE I 1 A d e x y p q (oi h1).2 (!1) (oi h1).1 (oi h2).1 J C rx r
 cases d with
 |int i=>
  cases h1;cases e with
  |int j=>
   cases h2;refine⟨?_,λb Q hb T=>?_⟩
   .have z:qh (.int i) (.int j)=decide ([i]=[j]):=by
     show(i==j)=_;by_cases c:i=j
     .simp[c]
     .simp[c]
    rw[<-z];exact eq
   .cases(J);cases(C);let⟨t,rfl⟩:=rx;let⟨u,rfl⟩:=r;have l:Q (decide (i<j)) s:=by
     have z:HT.lexLt [i] [j]=decide (i<j):=by
      rw[HT.lexLt_cons];by_cases c:i=j
      .rw[if_pos c];exact(decide_eq_false (!1)).symm
      .rw[if_neg c]
     rw[<-z];exact T
    cases b with
    |true=>exact oneLt_int l
    |false=>exact PySem.W.kat_one _ _ (lt_int l)
  |tup es=>let⟨ms,_,z⟩:=VA h2;cases z
  |_=>cases h2
 |tup ds=>
  let⟨ns,h3,o⟩:=VA h1;injection o with o;injection o with o h4';subst o h4';cases e with
  |int j=>cases h2
  |tup es=>
   let⟨ms,h5,U⟩:=VA h2;injection U with U;injection U with h7 h8;subst h8;refine⟨?_,λb Q hb T=>?_⟩
   .have z:qh (.tup ds) (.tup es)=decide (ns=ms):=by
     show tD ds es=_;rw[dg h3,dg h5,tW]
    rw[<-z];exact eq
   .cases b with
    |true=>cases hb rfl
    |false=>
     let⟨a1,xs,rfl,t1,l1⟩:=J;let⟨a2,ys,rfl,t2,l2⟩:=C;rw[bT h3 l1]at t1;rw[bT h5 l2]at t2;cases rx;cases r;let⟨its,r1,p1,_⟩:=I.tuple t1;let⟨its2,r2,p2,_⟩:=I.tuple t2;exact PySem.W.kat_one _ _ (HT.lt_tupInts p1 p2 (xm r1) (xm r2) (!1) T)
  |_=>cases h2
 |_=>cases h1
def qp(I:Inv X pins σ H s)(hu:A.units+1<cLine):∀{ds es:U7}{sh:List (Option Nat)}{f g:U4}{xs ys:List V}{ps qs:U0}(i:Nat),fU ds=!(sh,f)->fU es=!(sh,g)->IsL X.K H ds xs->IsL X.K H es ys->Vals xs ps->Vals ys qs->
  (b=true->i=0->sh.head?=!none)->fin=false->Q (HT.lexLt f g) s->PySem.W.KatLex X.prog X.w A b fin Q (ps.zip qs) i s
 |[],[],sh,f,g,xs,ys,ps,qs,i,h1,h2,l1,l2,r1,r2,hb,hf,hq=>by
  cases h1;cases h2;cases(show xs=[]from l1);cases(show ys=[]from l2);cases r1;cases r2;rw[hf];exact hq
 |[],e::es,sh,f,g,xs,ys,ps,qs,i,h1,h2,l1,l2,r1,r2,hb,hf,hq=>by
  cases h1;let⟨a,_,h2⟩:=VA h2;let⟨r,_,h2⟩:=VA h2;cases h2
 |d::ds,[],sh,f,g,xs,ys,ps,qs,i,h1,h2,l1,l2,r1,r2,hb,hf,hq=>by
  cases h2;let⟨a,_,h1⟩:=VA h1;let⟨r,_,h1⟩:=VA h1;cases h1
 |d::ds,e::es,sh,f,g,xs,ys,ps,qs,i,h1,h2,l1,l2,r1,r2,hb,hf,hq=>by
  let⟨⟨a,f1⟩,h3,h1⟩:=VA h1;let⟨⟨s1,f2⟩,h4,h1⟩:=VA h1;cases h1;let⟨⟨a',g1⟩,h5,h2⟩:=VA h2;let⟨⟨s2,g2⟩,h6,h2⟩:=VA h2;injection h2 with h2;injection h2 with h7 h8;injection h7 with h9 h10;dsimp only at h8 h9 h10;subst h8 h9 h10;let⟨x,xr,rfl,ix,l1⟩:=l1;let⟨y,yr,rfl,iy,l2⟩:=l2;cases r1 with
  |cons rx r1=>
   cases r2 with
   |cons ry r2=>
    let⟨c1,c2⟩:=Bt I hu h3 h5 ix iy rx ry;dsimp only at hq;rw[vN f2 g2 ((i9 h3).trans (i9 h5).symm)]at hq;rw[List.zip_cons_cons];refine PySem.W.kat_cons (c1 X.prog X.w _ _ ?_);by_cases q:f1=g1
    .rw[if_pos q]at hq;rw[decide_eq_true q];exact PySem.W.kat_yes (qp I hu (i+1) h4 h6 l1 l2 r1 r2 (λ_ z=>absurd z (!1)) hf hq)
    .rw[if_neg q]at hq;rw[decide_eq_false q];refine PySem.W.kat_no (c2 _ _ (λz=>?_) hq);rw[and_eq_true,beq_iff_eq]at z;have:=hb z.1 z.2;injection this
end
section
variable{X:Cx}{a:Expr}{p pos:Pos}
def gw{as:List α}{bs:List β}(h:Paired F as bs)(hi:i<as.length)(x:α)(y:β):F (as.getD i x) (bs.getD i y):=by
 let⟨z,e,f⟩:=gG h (getElem?_eq_getElem hi);grind
def dE{as:List α}{bs:List β}(h:Paired F as bs)(x:α)(y:β):∀{l:U2},(∀i∈l,i<as.length)->Paired F (l.map λi=>as.getD i x) (l.map λi=>bs.getD i y)
 |[],_=>.nil
 |i::l,z=>.cons (gw h (z i Vi) x y) (dE h x y λj hj=>z j (Vj _ hj))
def oj(h:qo d=!z):∃ds,d=.tup ds/\fU ds=!z:=by
 cases d with
 |tup ds=>exact⟨ds,rfl,h⟩
 |_=>cases h
def  kindT(sh:List (Option Nat)):Bool:=decide (sh.head?=!none)
def xt{σ:St}(I:Inv X pins σ H s)(hu:A.units+1<cLine)(p:IsL X.K H ds xs)(r:Vals xs T)(hne:sh≠[])(hs:∀d∈ds,∃f,qo d=!(sh,f)){a:Addr}(ha:s.heap.objs.size<=a)(h1:Heap)(k1:∀b o,s.heap.get? b=!o->h1.get? b=!o):SortBy X.prog X.w A {s with heap:=h1} a T (tuples' (kindT sh)) (pG λi=>flt (ds.getD i .non)):=by
 have keep:∀h',(∀b o,b≠a->h1.get? b=!o->h'.get? b=!o)->Inv X pins σ H {s with heap:=h'}:=λh' k=>I.kept λb o q=>k b o (Vo (Vl (Ve q) ha)) (k1 b o q);have len1:=p.len;have len2:=r.length;refine⟨λh' k h2 Q U=>?_,λh' k i j hi hj Q U=>?_⟩
 .have J:=keep h' k;-- the first items
  have first:∀{ds:U7}{xs:List V}{T:U0},IsL X.K H ds xs->Vals xs T->(∀d∈ds,∃f,qo d=!(sh,f))->∃fs,PySem.W.KatTups h' T fs/\fs.length=T.length/\∀v∈fs,∀M,PySem.W.Looks M h' (typeOf v) (if kindT sh then .type "int"else .type "tuple"):=by
   intro ds;induction ds with
   |nil=>
    intro xs T p r _;cases(p);cases r;exact⟨[],trivial,rfl,λ_ z=>nomatch z⟩
   |cons d ds ih=>
    intro xs T p r hs;let⟨x,xr,rfl,ix,p⟩:=p;cases r with
    |cons rx r=>
     let⟨fs,q1,q2,q3⟩:=ih p r λe he=>hs e (Vj _ he);let⟨f,e⟩:=hs d Vi;let⟨is,rfl,e⟩:=oj e;let⟨b,ys,rfl,t,l⟩:=ix;cases rx;let⟨its,rv,⟨o,p1,p2,n,p3⟩,_⟩:=J.tuple t;cases is with
     |nil=>cases e;exact absurd rfl hne
     |cons i0 is=>
      let⟨⟨a0,f1⟩,C,e⟩:=VA e;let⟨⟨s1,f2⟩,e2,e⟩:=VA e;cases e;let⟨y,yr,rfl,iy,l⟩:=l;cases rv with
      |@cons _ v _ vr ry rv=>
       refine⟨v::fs,⟨⟨b,o,_,n,rfl,p1,p2,p3,rfl⟩,q1⟩,by rw[length_cons,length_cons,q2],λv' hv M=>?_⟩;rcases mem_cons.mp hv with rfl|hv
       .cases i0 with
        |int i=>
         cases C;cases(iy);let⟨tk,rfl⟩:=ry;exact PySem.W.Looks.of_pure rfl
        |tup js=>
         let⟨ns,_,z⟩:=VA C;cases z;let⟨c,zs,rfl,t2,l2⟩:=iy;cases ry;let⟨its2,rv2,⟨o2,w1,w2,_⟩,_⟩:=J.tuple t2;rw[<-w2];exact(PySem.W.Looks.ld w1).andThen .now
        |_=>cases C
       .exact q3 v' hv M
  let⟨fs,q1,q2,q3⟩:=first p r hs
  refine PySem.W.kat_kind q1 (!1) (λv hv=>q3 v hv _) (by cases kindT sh<;>decide) ?_;have e:((if kindT sh then Value.type "int"else .type "tuple") !=Value.type "tuple")=kindT sh:=by cases kindT sh<;>decide
  rw[e];exact U
 .have J:=keep h' k;have hi':i<ds.length:=by omega
  have hj':j<ds.length:=by omega
  have ix:=gw p.paired hi' .non .non;have iy:=gw p.paired hj' .non .non;have rx:=gw r (i:=i) (!1) .non .none;have ry:=gw r (i:=j) (!1) .non .none;let⟨f,C⟩:=hs (ds.getD i .non) (by rw[List.getD_eq_getElem?_getD,getElem?_eq_getElem hi'];exact List.getElem_mem hi');let⟨g,e2⟩:=hs (ds.getD j .non) (by rw[List.getD_eq_getElem?_getD,getElem?_eq_getElem hj'];exact List.getElem_mem hj');have U:Q (HT.lexLt (flt (ds.getD i .non)) (flt (ds.getD j .non))) {s with heap:=h'}:=U;generalize ds.getD i .non=d at ix C U;generalize ds.getD j .non=e at iy e2 U;generalize xs.getD i .non=x at ix rx;generalize xs.getD j .non=y at iy ry;generalize T.getD i .none=u at rx;generalize T.getD j .none=v at ry;unfold flt at U;rw[C,e2]at U;let⟨as,rfl,C⟩:=oj C;let⟨bs,rfl,e2⟩:=oj e2;let⟨b1,x1,rfl,t1,l1⟩:=ix;let⟨b2,x2,rfl,t2,l2⟩:=iy;cases rx;cases ry;let⟨it1,rv1,⟨o1,p1,_,n1,p3⟩,_⟩:=J.tuple t1;let⟨it2,rv2,⟨o2,w1,_,n2,w3⟩,_⟩:=J.tuple t2;have sz:∀{ds:U7}{sh:List (Option Nat)}{f:U4},fU ds=!(sh,f)->ds.length=sh.length:=λ{ds}=>by
   induction ds with
   |nil=>intro sh f h;cases h;rfl
   |cons d ds ih=>
    intro sh f h;let⟨z,_,h⟩:=VA h;let⟨⟨r1,r2⟩,h2,h⟩:=VA h;cases h;rw[length_cons,length_cons,ih h2]
  have z1:it1.length=sh.length:=by rw[<-rv1.length,<-l1.len,sz C]
  have z2:it2.length=sh.length:=by rw[<-rv2.length,<-l2.len,sz e2]
  refine PySem.W.kat_lt p1 p3 w1 w3 (qp J hu 0 C e2 l1 l2 rv1 rv2 (λhb _=>Vk hb) (decide_eq_false ?_) U);show¬it1.length<it2.length;omega
def  JA(K:Frag):List V->Hp->VK->Prop:=λvs H Q=>∃l ds xs,vs=[.ref l]/\SqL K H l xs/\IsL K H ds xs/\ds.length<64/\cL ds/\
 ∀(q:Addr)(ls:U2),H q=none->(∀i∈ls,i<ds.length)->ls.map (λi=>ds.getD i .non)=pH ds->Q (.ref q) (upd H q (.lst (ls.map λi=>xs.getD i .non)))
def pw_1{α:Type}{R:α->α->Prop}:∀{l:List α},l.length<2->l.Pairwise R
 |[],_=>.nil
 |[_],_=>List.pairwise_singleton _ _
def vO{k:Nat}(hr:Room k X.A):eQ X (.builtin "sorted") (JA X.K):=by
 intro pins s σ H xs us Q I r h;let⟨l,ds,ys,rfl,hx,C,h64,p,q⟩:=h;let⟨u,rfl,T⟩:=fC r;cases T;let⟨g,rv,pl,hz⟩:=I.list hx;have hl:=rv.length;have hd:=C.len;let⟨sh,t,j⟩:=id p;refine y6 (κ:=tuples' (kindT sh)) (c:=pG λi=>flt (ds.getD i .non)) pl.isList (!1) (λh' U=>xt I (by have:=hr.un;show X.A.units+1+1+1<_;omega) C rv t j (Nat.le_succ _) h' U) ?_;obtain⟨ls,e1,e2,J⟩:∃ls:U2,gZ (pG λi=>flt (ds.getD i .non)) g=ls.map (λi=>g.getD i .none)/\(∀i∈ls,i<ds.length)/\ls.map (λi=>ds.getD i .non)=pH ds:=by
  unfold gZ;by_cases c:g.length<2
  .rw[if_pos c];refine⟨List.range g.length,(bM _ _).symm,λi hi=>by have:=Vw.mp hi;omega,?_⟩;rw[show g.length=ds.length by omega,bM];refine rJ p (.refl _) ?_;exact pw_1 (!1)
  .rw[if_neg c];refine⟨_,rfl,λi hi=>?_,?_⟩
   .have:=Vw.mp ((dt _ (!1)).1.mem_iff.mp hi);omega
   .rw[show g.length=ds.length by omega];exact tV p (!1)
 rw[e1];let⟨e,he⟩:=sortedAll_at s.heap g (ls.map λi=>g.getD i .none).toArray;have fr:H (!13)=none:=I.hok.fresh (Nat.le_succ _);have hln:(ls.map λi=>ys.getD i V.non).length<64:=by
  have:=congrArg List.length J;rw[length_map,(lC ds).length_eq]at this;rw[length_map];omega
 refine⟨.ref _,_,I.laid (t':=s.toks) (λb o q=>sortedAll_old q) (Nat.le_succ _) (o:=.lst (ls.map λi=>ys.getD i V.non)) ⟨?_,ls.map (λi=>g.getD i .none),e,dE rv .non .none (λi hi=>by have:=e2 i hi;omega),by simpa using he⟩,rfl,q _ ls fr e2 J⟩;have:(64:Nat)<=sizeLine:=by decide
 omega
def Bu(hr:Room k X.A)(hg:Gl X "sorted")(hm:X.mg "sorted"=none)(ha:PX X [a] fa)(g:starEach [a] X.env=[(false,eval a X.env)]):
  PF X (.Call (.Name "sorted" p) [a] [] pos) (λY=>(fa Y).bind tT):=λO Y=>(nr (vO hr) hg hm vJ (ha O Y) (!3) (!3) (by rw[g];rfl) rfl).imp λσ H Q ⟨E,ds,q,k⟩=>by
 let⟨as,e1,q⟩:=VA q
 refine⟨E,as,e1,λvs H1 C il=>?_⟩
 let⟨c,rfl,U⟩:=bd q
 let⟨xs,T,J⟩:=VA U
 let⟨⟨o,g⟩,I⟩:=aw J
 subst I
 let⟨v,rfl,h⟩:=uQ il
 let⟨l,ys,rfl,t,r⟩:=cH T h
 refine⟨l,xs,ys,rfl,msk_le.seq t,r.full,o,g,λb ls hb j e=>k b _ H1 C hb ?_⟩
 rw[<-e]
 exact IsL.of (dE r.paired .non .non j)
def  cM(ds:U7):UY:=match kt ds with
 |some r=>!r
 |none=>tT ds
def mY(h:kt ds=!r):cM ds=!r:=by unfold cM;rw[h]
def Ff(h:kt ds=none)(g:tT ds=!r):cM ds=!r:=by unfold cM;rw[h];exact g
def Bv(t:Room k X.A)(l:Gl X "sorted")(j:X.mg "sorted"=none)(o:PX X [a] fa)(g:starEach [a] X.env=[(false,eval a X.env)]):
  PF X (.Call (.Name "sorted" p) [a] [] pos) (λY=>(fa Y).bind cM):=λO Y=>by
 have h1:=Fd (p:=p) (pos:=pos) l j o g O Y
 have h2:=Bu (p:=p) (pos:=pos) t l j o g O Y
 dsimp only at h1 h2⊢
 cases e:fa Y with
 |none=>rw[e]at h1;exact h1
 |some ds=>
  rw[e]at h1 h2;cases e2:kt ds with
  |some r=>
   have z:(!ds).bind cM=(!ds).bind kt:=by show cM ds=kt ds;rw[mY e2,e2]
   rw[z];exact h1
  |none=>
   have z:(!ds).bind cM=(!ds).bind tT:=by show cM ds=tT ds;unfold cM;rw[e2]
   rw[z];exact h2
end
section
variable{X:Cx}{a:Expr}{p p2 pos pos2:Pos}
def om:∀(l:U0)(k:Int),(∀(i:Nat)(v:Value),l[i]?=!v->∃t,v=Value.int (k+(i:Int)) t)->Vals ((List.range l.length).map λ(i:Nat)=>V.int (k+(i:Int))) l
 |[],_,_=>.nil
 |v::l,k,h=>by
  rw[length_cons,List.range_succ_eq_map,List.map_cons,List.map_map];let⟨t,e⟩:=h 0 v rfl;refine .cons ⟨t,by simpa using e⟩ ?_;have:=om l (k+1) λi w q=>by
   let⟨t,e⟩:=h (i+1) w (by simpa using q);exact⟨t,by rw[e];congr 1;omega⟩
  have e2:((List.range l.length).map λ(i:Nat)=>V.int (k+1+(i:Int)))=(List.range l.length).map ((λ(i:Nat)=>V.int (k+(i:Int)))∘Nat.succ):=by
   apply List.map_congr_left;intro i _;show V.int _=V.int _;congr 1;simp;omega
  rw[<-e2];exact this
def  Ui(ta:TA):TE:=λσ H Q=>ta σ H λvs H1=>∃j:Int,vs=[.int j]/\Hg j/\j<1000000/\∀q,H1 q=none->Q (.ref q) (upd H1 q (.lst ((List.range j.toNat).map λ(i:Nat)=>V.int (i:Int))))
def Fg(hc:X.calm=true)(hg:Gl X "list")(hm:X.mg "list"=none)(U:Gl X "range")(J:X.mg "range"=none)(ha:PA X [a] ta)(hs:starEach [a] X.env=[(false,eval a X.env)]):
  PE X (.Call (.Name "list" p) [.Call (.Name "range" p2) [a] [] pos2] [] pos) (Ui ta):=by
 intro pins s σ H Q I h
 refine wpAny_Call_Name_kw (dI I hg hm M2 (PyProof.Rows.callWith_type1 ?_ rfl rfl))
 show wpAny _ _ (spliced ((false,eval (.Call (.Name "range" p2) [a] [] pos2) X.env)::[])) _ _ s
 refine Calls.spliced_cons ?_
 refine wpAny_Call_Name_kw (dI I U J boot_range (PyProof.Rows.callWith_type1 (bq (ha pos2 pins s σ H _ I h) λus l ⟨vs,H1,I1,r1,q1⟩=>?_) (by rw[hs];rfl) rfl))
 let⟨j,rfl,hj,hj2,q⟩:=q1
 let⟨u,rfl,ru⟩:=fC r1
 let⟨t,rfl⟩:=ru
 have r:=hj
 refine call_range_1 (Calls.spliced_nil ?_)
 have up:∀d o,l.heap.get? d=!o->(l.heap.push {cls:=.type "range",data:=.fields #[.int 0 l.toks,.int j t,.int 1 (l.toks+1)]}).get? d=!o:=λd o e=>Vc _ e
 have I2:Inv X pins σ H1 {l with heap:=l.heap.push {cls:=.type "range",data:=.fields #[.int 0 l.toks,.int j t,.int 1 _]},toks:=l.toks+1+1}:=I1.kept up
 have hn:Builtin.Range.rangeSize 0 j 1=(j.toNat:Nat):=by rw[rangeSize_one];split<;>omega
 refine call_list_range (I1.ok.hd hc) (IsRange.new ..) (small_one (!1) (!1) r.1 r.2) hn (!1) λg tk C c k T hi=>?_
 have fr:H1 (l.heap.push {cls:=.type "range",data:=.fields #[.int 0 l.toks,.int j t,.int 1 _]}).objs.size=none:=I2.hok.fresh (Vy _)
 refine⟨.ref _,_,I2.laid (o:=.lst ((List.range j.toNat).map λ(i:Nat)=>V.int (i:Int))) k (Vy _) ⟨?_,C.toList,c,?_,by simpa using T⟩,rfl,q _ fr⟩
 .rw[length_map,length_range,sizeLine_eq];omega
 .have:=om C.toList 0 λi v e=>by
   let⟨t,z⟩:=hi.2 i v (by rw[<-Array.getElem?_toList];exact e);exact⟨t,by rw[z];congr 1;omega⟩
  rw[Array.length_toList,hi.1]at this;simpa using this
def  Pp:U7->UY:=tq λd=>(nO d).bind λj=>if Hg j/\j<1000000 then !(mB 0 j.toNat)else none
def Fh(hc:X.calm=true)(U:Gl X "list")(T:X.mg "list"=none)(l:Gl X "range")(g:X.mg "range"=none)(ha:PX X [a] fa)(J:starEach [a] X.env=[(false,eval a X.env)]):
  PF X (.Call (.Name "list" p) [.Call (.Name "range" p2) [a] [] pos2] [] pos) (λY=>(fa Y).bind Pp):=λO Y=>(Fg hc U T l g (ha O Y) J).imp λσ H Q ⟨E,ds,q,k⟩=>by
 let⟨as,e1,q⟩:=VA q
 refine⟨E,as,e1,λvs H1 o I=>?_⟩
 let⟨c,rfl,C⟩:=bd q
 let⟨j,t,r⟩:=VA C
 let⟨h1,h2⟩:=aw r
 subst h2
 let⟨v,rfl,h⟩:=uQ I
 cases intD_some t
 refine⟨j,by rw[show v=.int j from h],h1.1,h1.2,λb hb=>k b _ H1 o hb ?_⟩
 have e:mB 0 j.toNat=((List.range j.toNat).map λ(i:Nat)=>(i:Int)).map D.int:=by unfold mB;rw[List.map_map];apply List.map_congr_left;intro i _;simp
 have e2:((List.range j.toNat).map λ(i:Nat)=>V.int (i:Int))=((List.range j.toNat).map λ(i:Nat)=>(i:Int)).map V.int:=by rw[List.map_map];rfl
 rw[e,e2]
 exact nX _
end
def  Hq:List V->Hp->VK->Prop:=λxs H Q=>∃b:Bool,xs=[.bl b]/\Q (.int (if b then 1 else 0)) H
def call_intB{X:Cx}:eQ X (.type "int") Hq:=by
 intro pins s σ H xs us Q I r h;let⟨b,rfl,q⟩:=h;let⟨u,rfl,ru⟩:=fC r;cases(ru);refine call_int_bool ?_;exact⟨.int _,H,I.kept λb o ho=>ho,⟨_,rfl⟩,q⟩
def  qq:U7->U9:=tq λd=>d.asB.bind λb=>!(.int (if b then 1 else 0))
def rn_intB{X:Cx}:Eh X.K Hq qq:=λO H xs ds d Q hd l e k=>by
 let⟨c,rfl,e⟩:=bd e;let⟨b,e1,e2⟩:=VA e;cases e2;cases asB_some e1;let⟨v,rfl,h⟩:=uQ l;cases(h);exact⟨b,rfl,k _ H (Same.refl _) rfl⟩
def  jn(k:Nat){α:Type}(l:List α)(x:α):List α:=l.take k++x::l.drop k
def DeepL.appR{K}(h2:DeepL K M H es ys C):∀{ds:U7}{xs:List V}{A:List Addr},DeepL K M H ds xs A->DeepL K M H (ds++es) (xs++ys) (A++C)
 |[],xs,A,h=>by let⟨rfl,rfl⟩:=h;exact h2
 |d::ds,xs,A,⟨x,r,A1,A2,e1,e2,g1,g2⟩=>by
  subst e1 e2;exact⟨x,r++ys,A1,A2++C,rfl,List.append_assoc ..,g1,DeepL.appR h2 g2⟩
def DeepL.cutAt{K}:∀{ds:U7}{xs:List V}{A:List Addr}(k:Nat),DeepL K M H ds xs A->∃A1 A2,A=A1++A2/\DeepL K M H (ds.take k) (xs.take k) A1/\DeepL K M H (ds.drop k) (xs.drop k) A2
 |ds,xs,A,0,h=>⟨[],A,rfl,⟨rfl,rfl⟩,h⟩
 |[],xs,A,k+1,h=>by let⟨rfl,rfl⟩:=h;exact⟨[],[],rfl,⟨rfl,rfl⟩,⟨rfl,rfl⟩⟩
 |d::ds,xs,A,k+1,⟨x,r,A1,A2,e1,e2,g1,g2⟩=>by
  subst e1 e2;let⟨B1,B2,e,q1,q2⟩:=DeepL.cutAt k g2;subst e;exact⟨A1++B1,B2,(List.append_assoc ..).symm,⟨x,_,A1,B1,rfl,rfl,g1,q1⟩,q2⟩
def Na(k:Nat):MV (jn k):=λ{K M H ds xs A j d v} h q t=>by
 let⟨r,g,rfl,p,o⟩:=DeepL.cutAt k h;have l:DeepL K M H (d::ds.drop k) (v::xs.drop k) (j++g):=⟨v,_,j,g,rfl,rfl,q,o⟩;refine⟨r++(j++g),DeepL.appR l p,?_,λb C=>?_⟩;all_goals grind
def IsL.takeD{K}:∀{ds:U7}{xs:List V}(k:Nat),IsL K M ds xs->IsL K M (ds.take k) (xs.take k)/\IsL K M (ds.drop k) (xs.drop k)
 |ds,xs,0,h=>⟨rfl,h⟩
 |[],xs,k+1,h=>by cases(show xs=[]from h);exact⟨rfl,rfl⟩
 |d::ds,xs,k+1,⟨x,r,e,g1,g2⟩=>by
  subst e;let⟨q1,q2⟩:=IsL.takeD k g2;exact⟨⟨x,_,rfl,g1,q1⟩,q2⟩
def Nb(k:Nat):MW (jn k):=λh q=>(IsL.takeD k h).1.app ⟨_,_,rfl,q,(IsL.takeD k h).2⟩
def Vals.ins(k:Nat)(r:Vals xs g)(j:RelV y u):Vals (jn k xs y) (jn k g u):=(r.take k).append (.cons j (r.drop k))
def  Fi:V->List V->Hp->VK->Prop:=λx vs H Q=>∃(l:Addr)(xs:List V)(i:Int)(k:Nat)(y:V),x=.ref l/\vs=[.int i,y]/\i=(k:Int)/\H l=!(.lst xs)/\k<=xs.length/\xs.length<sizeLine/\Q .non (upd H l (.lst (jn k xs y)))
def Fj(g:U0)(x:Int)(k:Nat)(u:Value)(j:x=(k:Int))(l:k<=g.length):(g.toArray.extract 0 (if x<0 then(x+((g.toArray.size:Nat):Int)).toNat else min x.toNat g.toArray.size)).push u++g.toArray.extract (if x<0 then(x+((g.toArray.size:Nat):Int)).toNat else min x.toNat g.toArray.size)=(jn k g u).toArray:=by grind [jn]
def y8:Mi X "list.insert" Fi:=by
 intro pins s σ H x T v U Q I rx rv h;let⟨l,xs,i,k,y,rfl,rfl,hi,j,hk,hz,q⟩:=h;cases rx;cases rv with
 |cons C p=>
 let⟨u,rfl,o⟩:=(show Vals [y] _ from p).one;let⟨t,rfl⟩:=C;let⟨z,g,n,r,hl,e⟩:=I.lstM j;have J:Builtin.List.listFitsIndex i=true:=by
  have:sizeLine<2^63:=by decide
  unfold Builtin.List.listFitsIndex;simp only[and_eq_true,decide_eq_true_eq];omega
 refine call_meets F.slot_list_insert ⟨_,e,rfl⟩ F.entry_list_insert (F.args_list_insert_3 _ _ _) (AutoSeq1.list_insert_list_int_val_1 l g.toArray n i t u (by simp[J]) (by rw[size_toArray];omega)) ⟨e,?_⟩;refine⟨.non,_,I.lset j e ?_ (r.ins k o) ?_,rfl,q⟩
 .exact Fj g i k u hi (!1)
 .unfold jn;rw[length_append,length_cons,List.length_take,List.length_drop];omega
noncomputable def  Fl(n:Nat)(d:D):Option Nat:=match d with
 |.int i=>if 0<=i/\i<=(n:Int)then !i.toNat else none
 |_=>none
def y9(h:Fl n d=!k):d=.int (k:Int)/\k<=n:=by
 unfold Fl at h;grind
def  Bw(i:Nat)(fk R:UR):US:=λY=>(ownL Y i).bind λw=>(fk (c9 Y)).bind λy=>(Fl w.2.length y).bind λk=>(sC (R (c9 Y))).bind λd=>
 if w.2.length+1<big then !(.nx (Y.set i (!(newCat w.1 (.deep,d),.lst (jn k w.2 d)))))else none
def za{X:Cx}{e:Expr}{pos:Pos}(i:Nat)(hk:PP X C fk)(h:PP X e R)(hN:X.N[i]?=!x)(hv:pQ X.env.scope x)(hd:(!6)=false)(t:(!14)=false)(l:starEach [C,e] X.env=(false,eval C X.env)::starEach [e] X.env)(g:starEach [e] X.env=(false,eval e X.env)::starEach [] X.env)(p:(apos.endLine==cpos.line)=true):
  PR X (.Expr (.Call (.Attribute (.Name x px) "insert" apos) [C,e] [] cpos) pos) (Bw i fk R):=λB O Y=>
 (ek (pY PySem.F.plainAttrs_list PySem.F.slot_list_insert PySem.F.type_list_insert y8 (bK hN hv hd t) (dm (hk O _) (dm (h O _) pa_nil g) l) rfl (by rw[l,g];rfl) p l (by rw[g];rfl))).imp λEn σ H ⟨E,o,q,k⟩=>by
 let⟨⟨c,ds⟩,q1,q⟩:=VA q
 let⟨y,q2,q⟩:=VA q
 let⟨j,q3,q⟩:=VA q
 let⟨d,q4,q⟩:=VA q
 let⟨hz,q⟩:=aw q
 subst q
 let⟨h0,r⟩:=bU q1
 let⟨I,p5,p6⟩:=VA q4
 let⟨lf,p7⟩:=aw p6
 subst p7
 let⟨ey,hj⟩:=y9 q3
 subst ey
 let⟨a,xs0,e1,r3,_⟩:=E.ownAt h0 r
 refine⟨.ref a,e1,.inl ⟨rfl,_,SqL.of r3⟩,E.viewS,_,q2,λyv H1 T iy=>?_⟩
 cases(iy)
 have E1:=E.grow T
 refine⟨E1.viewS,I,p5,λv H2 J iv=>?_⟩
 have E2:=E1.grow J
 have E3:=E2.moreS iv
 have ex:extS I=(.deep,I):=by unfold extS;rw[if_pos lf]
 rw[ex]at E3
 let⟨a',xs,e2,r4,U,O2,E4,s4⟩:=E3.change (jn j) (Na j) (Nb j) h0 r
 rw[e1]at e2
 cases e2
 exact⟨a,xs,_,j,v,rfl,rfl,rfl,r4,by rw[<-U];exact hj,by rw[iG,<-U];exact Nat.lt_of_succ_lt hz,k σ _ O2 (T.msk.trans (J.msk.trans s4)) E4⟩
def  revL{α:Type}(l:List α)(_:α):List α:=l.reverse
def DeepL.rev{K:Frag}{M H:Hp}:∀{ds:U7}{xs:List V}{A:List Addr},DeepL K M H ds xs A->∃A',DeepL K M H ds.reverse xs.reverse A'/\A'.Perm A
 |[],xs,A,h=>by let⟨rfl,rfl⟩:=h;exact⟨[],⟨rfl,rfl⟩,.refl _⟩
 |d::ds,xs,A,⟨x,r,A1,A2,e1,e2,g1,g2⟩=>by
  subst e1 e2;let⟨A',q,p⟩:=DeepL.rev g2;refine⟨A'++A1,?_,(p.append_right _).trans List.perm_append_comm⟩;rw[List.reverse_cons,List.reverse_cons];exact DeepL.snoc g1 q
def PS.ex{X:Cx}{e}{g:Type}{t:g->TS}(h:∀z,PS X e (t z)):PS X e (λD σ H=>∃z,t z D σ H):=λpins s σ H D I ⟨z,q⟩=>h z pins s σ H D I q
def JB{X:Cx}{st}(is:U2)(h:PR X st F):PR X st (λY=>F (frzS is Y)):=λB O Y=>(PS.ex λg=>h B g _).imp λl σ H ⟨E,out,q,k⟩=>by
 let⟨g,j,le⟩:=E.frzS is;exact⟨g,j,out,q,k.mono le⟩
def DeepL.subB{K:Frag}{M H:Hp}{ds2:U7}(f:{α:Type}->List α->α->List α){d:D}{v:V}(hf:∀{M H:Hp}{xs:List V}{A:List Addr},DeepL K M H ds2 xs A->Deep K M H d v []->DeepL K M H (f ds2 d) (f xs v) A)(lf:lfD d=true)(hi:Is K M d v):∀{ds:U7}{xs:List V}{A:List Addr}{j:Nat},DeepL K M H ds xs A->A.Nodup->ds[j]?=!(.lst ds2)->
  ∃a ys,xs[j]?=!(.ref a)/\a∈A/\H a=!(.lst ys)/\ds2.length=ys.length/\DeepL K M (upd H a (.lst (f ys v))) (ds.set j (.lst (f ds2 d))) xs A
 |[],xs,A,j,h,nd,e=>by simp at e
 |d0::ds,xs,A,0,⟨x,r,A1,A2,e1,e2,h1,h2⟩,nd,e=>by
  simp at e;subst e;let⟨a,ys,A',z1,z2,z3,l⟩:=h1;subst z1 e1 e2 z3;have n1:a ∉ A'/\a ∉ A2:=by
   have:=(List.nodup_cons.mp (show(a::(A'++A2)).Nodup from nd)).1;simp at this;exact this
  have fr:∀(L:List Addr),a ∉ L->∀b∈L,∀o,H b=!o->upd H a (.lst (f ys v)) b=!o:=λL n b hb o q=>by rw[ae (show b≠a fromλz=>n (z▸hb))];exact q
  refine⟨a,ys,rfl,by simp,z2,DeepL.len l,_,_,a::A',A2,rfl,rfl,⟨a,f ys v,A',rfl,ai,rfl,?_⟩,DeepL.frame (NL.of (Same.refl _)) _ _ _ (fr A2 n1.2) h2⟩;exact hf (DeepL.frame (NL.of (Same.refl _)) _ _ _ (fr A' n1.1) l) (Is.deep d v lf hi)
 |d0::ds,xs,A,j+1,⟨x,r,A1,A2,e1,e2,h1,h2⟩,nd,e=>by
  subst e1 e2;let⟨n1,n2,n3⟩:=List.nodup_append.mp nd;let⟨a,ys,f1,f2,f3,f4,f5⟩:=DeepL.subB f hf lf hi h2 n2 (show ds[j]?=some (.lst ds2)by simpa using e);have na:a ∉ A1:=λz=>n3 a z a f2 rfl;refine⟨a,ys,by simpa using f1,Vs _ f2,f3,f4,x,r,A1,A2,rfl,rfl,Deep.frame (NL.of (Same.refl _)) _ _ _ (λb hb o q=>?_) h1,f5⟩;rw[ae (show b≠a fromλz=>na (z▸hb))];exact q
def  Nc(b:Bool)(ds:U7):D:=if b then .lst ds else .tup ds
section
variable{K:Frag}{B:Bs}{O:U5}{σ:St}{H:Hp}{Y:Ev}
def EnvOk.forget(E:EnvOk K B O σ H Y)(i:Nat):EnvOk K B O σ H (Y.set i none) where
 same:=E.same
 bdom:=E.bdom
 sub:=E.sub
 lis:=E.lis
 len:=by rw[List.length_set];exact E.len
 fp:=by
  let⟨F,h1,h2,h3,h4⟩:=E.fp;refine⟨F,λj s q=>?_,h2,h3,h4⟩;rcases get_set_some q with⟨e,q'⟩|⟨e,q'⟩
  .cases q'
  .exact h1 j s q'
def xu{M:Hp}{b:Bool}{ds:U7}{v:V}{A:List Addr}(h:Deep K M H (Nc b ds) v A):∃a xs A',v=.ref a/\DeepL K M H ds xs A'/\(∀c∈A',c∈A)/\(A.Nodup->A'.Nodup/\(b=true->a ∉ A'))/\
  (∀H2:Hp,(b=true->H2 a=H a)->∀ds2,(cF ds=true->cF ds2=true)->DeepL K M H2 ds2 xs A'->Deep K M H2 (Nc b ds2) v A)/\(if b then H a=!(.lst xs)else(M a=!(.tup xs)\/(cF ds=true/\SqT K M a xs))):=by
 cases b with
 |true=>
  let⟨a,xs,A',e1,e2,e3,l⟩:=h;subst e3;exact⟨a,xs,A',e1,l,λc h=>Vj _ h,λn=>⟨(List.nodup_cons.mp n).2,λ_=>(List.nodup_cons.mp n).1⟩,λH2 hH ds2 _ l2=>⟨a,xs,A',e1,(hH rfl).trans e2,rfl,l2⟩,e2⟩
 |false=>
  let⟨a,xs,e1,e2,l⟩:=h;exact⟨a,xs,A,e1,l,λc h=>h,λn=>⟨n,λz=>by cases z⟩,λH2 _ ds2 hl l2=>⟨a,xs,e1,e2.imp id λz=>⟨hl z.1,z.2⟩,l2⟩,e2⟩
def Nd{d:D}(n:lfD d=false):∀{ds:U7}{j:Nat},ds[j]?=!d->cF ds=false:=by
 intro ds;induction ds with
 |nil=>intro j h;simp at h
 |cons x r ih=>
  intro j h;show(lfD x&&cF r)=false;cases j with
  |zero=>simp at h;subst h;rw[n,Bool.false_and]
  |succ j=>rw[ih (show r[j]?=some d by simpa using h),Bool.and_false]
end
section
variable{K:Frag}{B:Bs}{O:U5}{σ:St}{H:Hp}{Y:Ev}
def EnvOk.topB(E:EnvOk K B O σ H Y){b:Bool}{i:Nat}{ds:U7}(h:Y[i]?=!(!(.deep,Nc b ds))):∃a xs,σ[i]?=!(!(.ref a))/\(if b then H a=!(.lst xs)else SqT K H a xs)/\ds.length=xs.length:=by
 let⟨F,h1,h2,h3,h4⟩:=E.fp;let⟨v0,e0,o0⟩:=h1 i _ h;let⟨a,xs,A',z1,l,sb,nd,bk,ct⟩:=xu (show Deep K (msk O H) H (Nc b ds) v0 (F i)from o0);subst z1;refine⟨a,xs,e0,?_,DeepL.len l⟩;cases b with
 |true=>exact ct
 |false=>exact Hi (NL.of msk_le) ct
def  Pt(K:Frag)(b:Bool)(a:Addr):It:=if b then Pd K a else Pf K a
def JC{b:Bool}{a:Addr}{xs:List V}{i:Nat}{x:V}(h:if b then H a=!(.lst xs)else SqT K H a xs)(hx:xs[i]?=!x):(Pt K b a).go i H:=by
 cases b with
 |true=>exact⟨xs,x,SqL.of h,hx⟩
 |false=>exact⟨xs,x,h,hx⟩
def JD{b:Bool}{a:Addr}{xs:List V}{i:Nat}{x:V}{H':Hp}(h:if b then H a=!(.lst xs)else SqT K H a xs)(q:(Pt K b a).yld i H x H'):H'=H/\xs[i]?=!x:=by
 cases b with
 |true=>exact⟨q.1,q.2 xs (SqL.of h)⟩
 |false=>exact⟨q.1,q.2 xs h⟩
def JE{b:Bool}{a:Addr}{xs:List V}{i:Nat}(h:if b then H a=!(.lst xs)else SqT K H a xs)(hx:xs.length<=i):(Pt K b a).stop i H:=by
 cases b with
 |true=>exact⟨xs,SqL.of h,hx⟩
 |false=>exact⟨xs,h,hx⟩
end
def Bx{Y:Ev}{i:Nat}(h:Y[i]?=!none):Y.set i none=Y:=by
 apply List.ext_getElem?;intro j;by_cases hj:j=i
 .subst hj;rw[List.getElem?_set_self (List.getElem?_eq_some_iff.mp h).1,h]
 .rw[List.getElem?_set_ne (Ne.symm hj)]
def Fm{Y:Ev}{i j:Nat}{x y:UX}(h:i≠j):(Y.set i x).set j y=(Y.set j y).set i x:=List.set_comm _ _ h
def  QU(K:Frag)(b:Bool)(i:Nat):TI:=λσ H R=>∃v,σ[i]?=!(!v)/\∃a xs,v=.ref a/\(if b then H a=!(.lst xs)else SqT K H a xs)/\R (Pt K b a) H
def JF{X:Cx}{e:Expr}{tg:Expr}(b:Bool){i:Nat}(hl:PE X e (LK i)):PI X tg e (QU X.K b i):=(AB hl).imp λσ H R ⟨v,e0,a,xs,e1,ct,q⟩=>by
 refine⟨v,e0,a,e1,?_⟩;cases b with
 |true=>exact .inl ⟨⟨xs,SqL.of ct⟩,q⟩
 |false=>exact .inr ⟨⟨xs,ct⟩,q⟩
def EnvOk.changeC{K:Frag}{B:Bs}{O:U5}{σ:St}{H:Hp}{Y:Ev}(E:EnvOk K B O σ H Y)(f:{α:Type}->List α->α->List α){i j:Nat}{ds ds2:U7}(h:Y[i]?=!(!(.deep,.lst ds)))(hj:ds[j]?=!(.lst ds2)){d:D}{v:V}(hf:∀{M H:Hp}{xs:List V}{A:List Addr},DeepL K M H ds2 xs A->Deep K M H d v []->DeepL K M H (f ds2 d) (f xs v) A)(lf:lfD d=true)(hi:Is K (msk O H) d v):
  ∃a xs a2 ys,σ[i]?=!(!(.ref a))/\H a=!(.lst xs)/\ds.length=xs.length/\xs[j]?=!(.ref a2)/\H a2=!(.lst ys)/\ds2.length=ys.length/\a≠a2/\
   EnvOk K B O σ (upd H a2 (.lst (f ys v))) (Y.set i (!(.deep,.lst (ds.set j (.lst (f ds2 d))))))/\Same (msk O H) (msk O (upd H a2 (.lst (f ys v)))):=by
 let⟨F,h1,h2,h3,h4⟩:=E.fp
 let⟨v0,e0,o0⟩:=h1 i _ h
 let⟨a,xs,A',z1,l,sb,nd,bk,ct⟩:=xu (b:=true) (show Deep K (msk O H) H (Nc true ds) v0 (F i)from o0)
 subst z1
 let⟨ndA,nA⟩:=nd (h2 i)
 let⟨a2,ys,f1,f2,f3,f4,f5⟩:=DeepL.subB f hf lf hi l ndA hj
 have ha2:a2∈F i:=sb a2 f2
 let⟨o2,b2⟩:=h4 i a2 ha2
 have me:msk O (upd H a2 (.lst (f ys v)))=msk O H:=gH o2
 have le:Same (msk O H) (msk O (upd H a2 (.lst (f ys v)))):=by rw[me];exact Same.refl _
 refine⟨a,xs,a2,ys,e0,ct,DeepL.len l,f1,f3,f4,λz=>nA rfl (z▸f2),⟨λc o q=>?_,E.bdom,E.sub,λc hb=>?_,by rw[List.length_set];exact E.len,F,λk s q=>?_,h2,h3,h4⟩,le⟩
 .rw[ae (ak q b2)];exact E.same c o q
 .by_cases e:c=a2
  .subst e;exact .inl ⟨_,ai⟩
  .rw[ae e];exact E.lis c hb
 .rcases get_set_some q with⟨e,q'⟩|⟨e,q'⟩
  .cases q';subst e;refine⟨.ref a,e0,?_⟩;show Deep K _ _ _ _ _;rw[me];exact bk _ (λhb=>ae λz=>nA hb (z▸f2)) _ (λz=>by rw[Nd rfl hj]at z;cases z) f5
  .let⟨w,e1,o1⟩:=h1 k s q';refine⟨w,e1,o1.frame le λc hb o z=>?_⟩;have:c≠a2:=λz2=>e (h3 k i a2 (z2▸hb) ha2);rw[ae this];exact z
def  Nf(d:D):UY:=match d with
 |.lst r=>if cF r=true/\r.length+1<big then !r else none
 |_=>none
def By{d:D}{r:U7}(h:Nf d=!r):d=.lst r/\cF r=true/\r.length+1<big:=by
 unfold Nf at h;split at h
 .let⟨c,e⟩:=aw h;cases e;exact⟨rfl,c⟩
 .cases h
def  Fo(R:UR)(Y:Ev):U7->UY
 |[]=>![]
 |d::ds=>(Nf d).bind λr=>(sC (R (vw Y))).bind λv=>(Fo R Y ds).bind λy=>!(.lst (r++[v]).reverse::y)
def Bz{R:UR}{Y:Ev}{d:D}{ds z:U7}(h:Fo R Y (d::ds)=!z):∃r v rs,d=.lst r/\cF r=true/\r.length+1<big/\R (vw Y)=!v/\lfD v=true/\Fo R Y ds=!rs/\z=.lst (r++[v]).reverse::rs:=by
 unfold Fo at h;let⟨r,h0,h⟩:=VA h;let⟨v,h1,h⟩:=VA h;let⟨y,h2,h⟩:=VA h;cases h;let⟨e,l,b⟩:=By h0;let⟨v',hv1,hv2⟩:=VA h1;let⟨lv,hv3⟩:=aw hv2;subst hv3;exact⟨r,v',y,e,l,b,hv1,lv,h2,rfl⟩
def  JG(ih ip:Nat)(R:UR):US:=λY=>match Y[ih]? with
 |some (!(.deep,.lst ds))=>if ip<Y.length then(Fo R ((Y.set ih none).set ip none) ds).bind λy=>!(.nx (((Y.set ih none).set ip none).set ih (!(.deep,.lst y))))else none
 |_=>none
def QV{Y:Ev}{ih ip:Nat}{x p:UX}(n1:ih≠ip)(eh:Y[ih]?=!none)(ep:Y[ip]?=!none):(((Y.set ih x).set ip p).set ih none).set ip none=Y:=by
 rw[Fm n1.symm,List.set_set,List.set_set,Bx eh,Bx ep]
def tX:∀{r:U7}{v:D},cF r=true->lfD v=true->cF (snocL r v)=true
 |[],v,_,h=>by show(lfD v&&true)=true;rw[h];rfl
 |d::r,v,h,h2=>by
  have h':(lfD d&&cF r)=true:=h;rw[and_eq_true]at h';show(lfD d&&cF (snocL r v))=true;rw[h'.1,tX h'.2 h2];rfl
def QW{Y:Ev}{ih ip:Nat}{x x' x2 p:UX}(n1:ih≠ip)(ep:Y[ip]?=!none):((((Y.set ih x).set ip p).set ih x').set ih x2).set ip none=Y.set ih x2:=by
 rw[List.set_set,Fm n1.symm,List.set_set,List.set_set,Fm n1,Bx ep]
def BA{K:Frag}{M H:Hp}{r:U7}{xs:List V}{A:List Addr}{d:D}{v:V}(lf:cF r=true)(h:DeepL K M H r xs A)(q:Deep K M H d v []):DeepL K M H (revL r d) (revL xs v) A:=by
 have hA:=DeepL.lf r xs A lf h;let⟨A',l,p⟩:=DeepL.rev h;subst hA;cases p.eq_nil;exact l
def Fp{K:Frag}{M H:Hp}{r:U7}{xs:List V}{A:List Addr}{d:D}{v:V}(h:DeepL K M H r xs A)(q:Deep K M H d v []):DeepL K M H (snocL r d) (snocL xs v) A:=by
 have:=DeepL.snoc q h;rw[List.append_nil]at this;exact this
def Ng{X:Cx}{e:Expr}{pos:Pos}{ih ip:Nat}{h p:Str}{R}{p1 p2 p3 p4 a1 c1 a2' c2 s1 s2:Pos}(hp:PassesOwn (!4) X.A X.env X.xe)(hc:X.calm=true)(hN:X.N.Nodup)(n1:ih≠ip)
  (ih1:X.N[ih]?=!h) (ih2:pQ X.env.scope h) (ih3:(h==("__debug__":Str))=false) (ih4:(h==("__classdict__":Str))=false)
  (ip1:X.N[ip]?=!p) (ip2:DB X.env.scope p) (ip3:(p==("__debug__":Str))=false) (ip4:(p==("__classdict__":Str))=false) (ip5:X.fn p=true) (he:PP X e R)
  (hst:starEach [e] X.env=(false,eval e X.env)::starEach [] X.env) (hl1:(a1.endLine==c1.line)=true) (hl2:(a2'.endLine==c2.line)=true):
  PR X (.For (.Name p p1) (.Name h p2) [.Expr (.Call (.Attribute (.Name p p4) "append" a2') [e] [] c2) s2,.Expr (.Call (.Attribute (.Name p p3) "reverse" a1) [] [] c1) s1] [] pos) (JG ih ip R):=λB O Y=>by
 have vp:pQ X.env.scope p:=ip2.elim .inl λz=>.inr (.inl z)
 cases hY:JG ih ip R Y with
 |none=>exact tM B O Y
 |some out=>
 have q:=hY
 unfold JG at q
 split at q
 .rename_i ds hsl;by_cases hl2':ip<Y.length;case neg=>rw[if_neg hl2']at q;cases q
  rw[if_pos hl2']at q;let⟨ds',q2,qb⟩:=VA q;obtain⟨Y0,hY0⟩:∃Y0,Y0=(Y.set ih none).set ip none:=⟨_,rfl⟩;have hlh:ih<Y.length:=(Vh.mp hsl).1;have h1:Y0[ih]?=!none:=by rw[hY0,List.getElem?_set_ne n1.symm,List.getElem?_set_self hlh]
  have h2:Y0[ip]?=!none:=by rw[hY0,List.getElem?_set_self (by rw[List.length_set];exact hl2')]
  have e1:Y0.set ih (!(Cat.deep,.lst ds))=Y.set ip none:=by
   have e0:Y.set ih (!(Cat.deep,.lst ds))=Y:=by
    apply List.ext_getElem?;intro j;by_cases hj:j=ih
    .rw[hj,List.getElem?_set_self hlh,hsl]
    .rw[List.getElem?_set_ne (Ne.symm hj)]
   rw[hY0,Fm n1.symm,List.set_set,e0]
  rw[<-hY0]at q2 qb;clear q hY;cases qb;refine(uX hp hc (JF true (bK ih1 ih2 ih3 ih4)) (qM hN ip1 ip2 (.inl ip5)) (gi (ek (pY PySem.F.plainAttrs_list PySem.F.slot_list_append PySem.F.type_list_append pZ (bK ip1 vp ip3 ip4) (dm (PE.ex λz:Vv=>he mD z) pa_nil hst) rfl (by rw[hst];rfl) hl2 hst rfl))
   (gi (ek (Am PySem.F.plainAttrs_list PySem.F.slot_list_reverse PySem.F.type_list_reverse vf (bK ip1 vp ip3 ip4) rfl hl1)) pss_nil)) (by intro x;rfl)).imp λEn σ H ⟨E,out,q,kk⟩=>?_
  cases q;let⟨a,xs,e0,ct0,l0⟩:=E.topB (b:=true) hsl;refine⟨.ref a,e0,a,xs,rfl,ct0,λi m σ2 H2=>i<=ds.length/\m=ds.length-i/\∃(dn rs:U7),dn.length=i/\Same (msk O H) (msk O H2)/\EnvOk X.K B O σ2 H2 (Y0.set ih (!(.deep,.lst (dn++ds.drop i))))/\Fo R Y0 (ds.drop i)=!rs/\dn++rs=ds'/\σ2[ih]?=!(!(.ref a)),?_,?_⟩
  .refine⟨ds.length,Nat.zero_le _,rfl,[],ds',rfl,Same.refl _,?_,q2,rfl,e0⟩;show EnvOk X.K B O σ H (Y0.set ih (!(Cat.deep,.lst ds)));rw[e1];exact E.forget ip
  .rintro i m σ2 H2 ⟨hi,rfl,dn,rs,hdn,sm,E2,hal,hds,e2⟩;have hat:(Y0.set ih (!(.deep,.lst (dn++ds.drop i))))[ih]?=!(!(.deep,.lst (dn++ds.drop i))):=by
    rw[List.getElem?_set_self (List.getElem?_eq_some_iff.mp h1).1]
   let⟨a',xs2,e3,ct2,l2⟩:=E2.topB (b:=true) hat;rw[e2]at e3;cases e3;have hlen:(dn++ds.drop i).length=ds.length:=by rw[length_append,hdn,List.length_drop];omega
   by_cases hlt:i<ds.length
   .refine .inr ?_;rw[List.drop_eq_getElem_cons hlt]at hal;let⟨r,v',rs',hdi,lr,hb,hv1,lv,hal',hz⟩:=Bz hal;have hj:(dn++ds.drop i)[i]?=!(.lst r):=by
     rw[getElem?_append_right (!1),hdn,Nat.sub_self,List.drop_eq_getElem_cons hlt];exact congrArg some hdi
    let⟨a',xs3,a2,ys,f0,f1,f2,f3,f4,f5,f6,_,_⟩:=E2.changeC revL hat hj (d:=.non) (v:=.non) (λh q=>BA lr h q) rfl rfl;rw[e2]at f0;cases f0;refine⟨JC (b:=true) f1 f3,λσ' H'=>i+1<=ds.length/\∃(dn rs:U7),dn.length=i+1/\Same (msk O H) (msk O H')/\EnvOk X.K B O σ' H' (Y0.set ih (!(.deep,.lst (dn++ds.drop (i+1)))))/\Fo R Y0 (ds.drop (i+1))=!rs/\dn++rs=ds'/\σ'[ih]?=!(!(.ref a)),λσ' H' ⟨z1,z2⟩=>⟨ds.length-(i+1),by omega,z1,rfl,z2⟩,λxx H' hy=>?_⟩;let⟨rfl,hx⟩:=JD (b:=true) f1 hy;rw[f3]at hx;cases hx;have hip:ip<σ2.length:=by rw[E2.len,List.length_set];exact(Vh.mp h2).1
    have E3:=E2.setSh (i:=ip) (d:=.adr a2) (v:=.ref a2) rfl;obtain⟨σ3,hσ3⟩:∃σ3,σ3=σ2.set ip (!(.ref a2)):=⟨_,rfl⟩;have e7:σ3[ip]?=!(!(.ref a2)):=by rw[hσ3,List.getElem?_set_self hip]
    have e8:σ3[ih]?=!(!(.ref a)):=by rw[hσ3,List.getElem?_set_ne n1.symm];exact e2
    rw[<-hσ3]at E3;show LO _ _ _ (σ2.set ip (!(.ref a2))) _;rw[<-hσ3];have hl1:ih<Y0.length:=(Vh.mp h1).1;have gh3:((Y0.set ih (!(Cat.deep,.lst (dn++ds.drop i)))).set ip (!(.sh,.adr a2)))[ih]?=!(!(.deep,.lst (dn++ds.drop i))):=by
     rw[List.getElem?_set_ne n1.symm,List.getElem?_set_self hl1]
    have E5:=(E3.forget ih).forget ip;rw[QV n1 h1 h2]at E5;refine⟨.ref a2,e7,.inl ⟨rfl,_,SqL.of f4⟩,_,E5.view,v',hv1,λvv H5 s5 iv=>?_⟩;have E6:=E3.grow s5;rw[mV]at iv;have iv':=Is.nl E6.nl v' vv lv iv;let⟨b0,ys1,b2,zs,k0,k1,k2,k3,k4,k5,k6,E7,s7⟩:=E6.changeC snocL gh3 hj (λh q=>Fp h q) lv iv';rw[e8]at k0;cases k0;have w1:=s5 a _ f1;rw[k1]at w1;cases w1;rw[f3]at k3;cases k3;have hzs:zs.length<PySem.sizeLine:=by
     rw[iG,<-k5];exact Nat.lt_of_succ_lt hb
    refine⟨a2,zs,vv,rfl,rfl,k4,hzs,?_⟩;have gh7:(((Y0.set ih (!(Cat.deep,.lst (dn++ds.drop i)))).set ip (!(.sh,.adr a2))).set ih (!(.deep,.lst ((dn++ds.drop i).set i (.lst (snocL r v'))))))[ih]?=!(!(.deep,.lst ((dn++ds.drop i).set i (.lst (snocL r v'))))):=by
     rw[List.getElem?_set_self (by rw[List.length_set,List.length_set];exact hl1)]
    have hj7:((dn++ds.drop i).set i (.lst (snocL r v')))[i]?=!(.lst (snocL r v')):=by
     rw[List.getElem?_set_self (by rw[hlen];exact hlt)]
    have lr':cF (snocL r v')=true:=tX lr lv;let⟨b0,ys2,b2,ts,m0,m1,m2,m3,m4,m5,m6,E8,s8⟩:=E7.changeC revL gh7 hj7 (d:=.non) (v:=.non) (λh q=>BA lr' h q) rfl rfl;rw[e8]at m0;cases m0;rw[ae f6,k1]at m1;cases m1;rw[f3]at m3;cases m3;refine⟨.ref a2,e7,.inl ⟨rfl,_,SqL.of m4⟩,a2,ts,rfl,rfl,m4,?_⟩;have es:((dn++ds.drop i).set i (.lst (snocL r v'))).set i (.lst (revL (snocL r v') .non))=(dn++[.lst (r++[v']).reverse])++ds.drop (i+1):=by
     rw[List.set_set,List.drop_eq_getElem_cons hlt,List.set_append_right _ _ (!1),hdn,Nat.sub_self,set_cons_zero,List.append_assoc];rfl
    have E9:=E8.forget ip;rw[QW n1 h2,es]at E9;exact⟨hlt,dn++[D.lst (r++[v']).reverse],rs',by rw[length_append,hdn];rfl,sm.trans (s5.msk.trans (s7.trans s8)),E9,hal',by rw[<-hds,hz,List.append_assoc];rfl,e8⟩
   .have hie:i=ds.length:=by omega
    refine .inl ⟨JE (b:=true) ct2 (!1),?_⟩;subst hie;rw[List.drop_of_length_le (le_refl _)]at hal E2;cases hal;rw[List.append_nil]at hds E2;subst hds;exact kk σ2 H2 O sm E2
 .cases q
def  JH{α:Type}(_:List α)(_:α):List α:=[]
def Nh:MV JH:=λh q nd=>⟨[],⟨rfl,rfl⟩,List.nodup_nil,λb hb=>nomatch hb⟩
def Ni:MW JH:=λh _=>rfl
def  Fq(i:Nat):US:=λY=>(ownL Y i).bind λw=>!(.nx (Y.set i (!(newCat w.1 (.deep,.non),.lst []))))
def BB{X:Cx}(i:Nat){x:Str}{px apos cpos:Pos}(hN:X.N[i]?=!x)(hv:pQ X.env.scope x)(hd:(!6)=false)
  (hcd:(!14)=false) (hline:(apos.endLine==cpos.line)=true):PR X (.Expr (.Call (.Attribute (.Name x px) "clear" apos) [] [] cpos) pos) (Fq i):=λB O Y=>
 (ek (Am PySem.F.plainAttrs_list PySem.F.slot_list_clear PySem.F.type_list_clear Ap (bK hN hv hd hcd) rfl hline)).imp λEn σ H ⟨E,o,q,k⟩=>by
 let⟨⟨c,ds⟩,q1,q⟩:=VA q
 cases q
 let⟨h0,hc0⟩:=bU q1
 have E3:=E.moreS (d:=.non) (v:=.non) rfl
 have ex:extS .non=(.deep,.non):=rfl
 rw[ex]at E3
 let⟨a,xs,e1,r4,hl,O2,E4,s4⟩:=E3.change JH Nh Ni h0 hc0
 exact⟨.ref a,e1,.inl ⟨rfl,_,SqL.of r4⟩,a,xs,rfl,rfl,r4,k σ _ O2 s4 E4⟩
end L2
namespace L2
open PySem PySem.Spec PyProof.Rows
end L2
namespace L2
open PySem PySem.Spec PyProof.Rows
def EnvOk.lastSh{K}(E:EnvOk K B O (σ++[!v]) H (Y++[!s])):∃O',EnvOk K B O' σ H Y/\Same (msk O H) (msk O' H)/\Is K (msk O' H) s.2 v:=by
 have hlen:σ.length=Y.length:=by have:=E.len;rw[length_append,length_append]at this;exact Nat.add_right_cancel this
 let⟨O',E',le⟩:=E.frz1 Y.length;have e:L2.frz1 Y.length (Y++[!s])=Y++[!(.sh,s.2)]:=by
  unfold L2.frz1;rw[getElem?_append_right (le_refl _),Nat.sub_self];show(Y++[!s]).set Y.length (!(.sh,s.2))=_;rw[List.set_append_right _ _ (le_refl _),Nat.sub_self];rfl
 rw[e]at E';refine⟨O',E'.drop,le,?_⟩;let⟨v',e1,i1⟩:=E'.viewS.sh Y.length s.2 (by
  unfold c9;rw[List.map_append,getElem?_append_right (by rw[length_map];exact Vy _),length_map,Nat.sub_self];rfl)
 grind
def  Nj(i:Nat)(g:UU):US:=λY=>(ownL Y i).bind λ_=>(g Y).bind λz=>(ownL z.2 i).bind λw=>(lu z.1.2).bind λes=>if w.2.length+es.length<big then !(.nx (z.2.set i (!(extC w.1 es,.lst (w.2++es)))))else none
def vP(i:Nat)(h:pE X e g)(hN:X.N[i]?=!x)(hv:pQ X.env.scope x)(hd:(!6)=false)(r:(!14)=false)(j:starEach [e] X.env=(false,eval e X.env)::starEach [] X.env)(p:(apos.endLine==cpos.line)=true):PR X (.Expr (.Call (.Attribute (.Name x px) "extend" apos) [e] [] cpos) pos) (Nj i g):=λB O Y=>
 (ek (pY PySem.F.plainAttrs_list PySem.F.slot_list_extend PySem.F.type_list_extend rA (bK hN hv hd r) (dm (h B O Y).1 pa_nil j) rfl (by rw[j];rfl) p j rfl)).imp λEn σ H ⟨E,o,q,k⟩=>by
 let⟨⟨c0,ds0⟩,q1,q⟩:=VA q;let⟨⟨s,Y'⟩,q2,q⟩:=VA q;let⟨⟨c,ds⟩,q3,q⟩:=VA q;let⟨es,q4,q⟩:=VA q;let⟨hz,q⟩:=aw q;subst q;let⟨h0,I⟩:=bU q1;let⟨h1,C⟩:=bU q3;let⟨a,T,J,r3,_⟩:=E.ownAt h0 I;refine⟨.ref a,J,.inl ⟨rfl,_,SqL.of r3⟩,E,s,Y',q2,λv H1 O1 s1 E1=>?_⟩;let⟨O2,E2,le,is⟩:=E1.lastSh;let⟨m,zs,rfl,t,l⟩:=cH q4 is;let⟨a',xs,e2,r4,hl,O3,E3,U⟩:=E2.extend h1 C l;rw[J]at e2;cases e2;exact⟨a,m,xs,zs,rfl,rfl,r4,msk_le.seq t,by rw[<-hl,<-l.len,iG];exact Vu hz,k σ _ O3 ((s1.trans le).trans U) E3⟩
end L2
namespace L2
open PySem PySem.Spec PyProof.Rows
def  xv:U4->Int
 |[]=>0
 |a::r=>r.foldl (λm y=>if y<m then y else m) a
def SH:∀(r:U4)(a:Int),let m:=r.foldl (λm y=>if y<m then y else m) a;(m=a\/m∈r)/\m<=a/\∀y∈r,m<=y
 |[],a=>⟨.inl rfl,Int.le_refl _,λy h=>nomatch h⟩
 |b::r,a=>by
  let⟨h1,h2,h3⟩:=SH r (if b<a then b else a);refine⟨?_,?_,λy hy=>?_⟩
  .rcases h1 with h|h
   .rw[List.foldl_cons,h];split
    .exact .inr Vi
    .exact .inl rfl
   .exact .inr (Vj _ h)
  .rw[List.foldl_cons];split at h2<;>split<;>omega
  .rcases mem_cons.mp hy with rfl|hy
   .rw[List.foldl_cons];split at h2<;>split<;>omega
   .exact h3 y hy
def BC{ns:U4}(h:ns≠[]):xv ns∈ns/\∀y∈ns,xv ns<=y:=by
 cases ns with
 |nil=>exact absurd rfl h
 |cons a r=>
  let⟨h1,h2,h3⟩:=SH r a;refine⟨?_,λy hy=>?_⟩
  .rcases h1 with h|h
   .exact mem_cons.mpr (.inl h)
   .exact Vj _ h
  .rcases mem_cons.mp hy with rfl|hy
   .exact h2
   .exact h3 y hy
def JI{ns:U4}{m:Int}(h1:m∈ns)(h2:∀y∈ns,m<=y):m=xv ns:=by
 let⟨a,b⟩:=BC (ns:=ns) (λz=>by subst z;cases h1);have:=h2 _ a;have:=b _ h1;omega
def BD{ns:U4}(hn:ns≠[]):ns.getD (argBest (λi j=>decide (ns.getD i 0<ns.getD j 0)) (ns.length-1)) 0=xv ns:=by
 have hp:=List.length_pos_iff.mpr hn;have hnum:∀i,(h:i<ns.length)->ns.getD i 0=ns[i]:=λi h=>by rw[List.getD_eq_getElem?_getD,getElem?_eq_getElem h];rfl
 let⟨b1,b2⟩:=argBest_lt (λi=>ns.getD i 0) (ns.length-1);refine JI ?_ λy hy=>?_
 .rw[hnum _ (!1)];exact List.getElem_mem _
 .let⟨j,hj,rfl⟩:=List.getElem_of_mem hy;have:=b2 j (!1);rw[hnum j hj]at this;exact this
section
variable{X:Cx}
def  SI(K:Frag):List V->Hp->VK->Prop:=λxs H Q=>(∃i j,xs=[.int i,.int j]/\Q (.int (if j<i then j else i)) H)\/∃l ns,xs=[.ref l]/\SqL K H l (ns.map V.int)/\ns≠[]/\Q (.int (xv ns)) H
def tY:∀{ns:U4}{us:U0},Vals (ns.map V.int) us->us.length=ns.length/\∀i,(h:i<ns.length)->∃t,us[i]?=!(.int ns[i] t)
 |[],us,r=>by cases r;exact⟨rfl,λi h=>by cases h⟩
 |n::ns,us,r=>by
  cases r with
  |cons r1 r2=>
   let⟨t,rfl⟩:=r1;let⟨l,h⟩:=tY r2;refine⟨by rw[length_cons,length_cons,l],λi hi=>?_⟩;cases i with
   |zero=>exact⟨t,rfl⟩
   |succ i=>exact h i (by rw[length_cons]at hi;omega)
def Nk{h:Heap}{o:Obj}{a b:Addr}(hlt:a<h.objs.size)(hb:b∈[h.objs.size,a]):b<(h.push o).objs.size:=by
 rw[Heap.size_push];rcases mem_cons.mp hb with rfl|hb
 .exact Nat.lt_succ_self _
 .rw[mem_singleton.mp hb];exact Nat.lt_succ_of_lt hlt
def BE{ns:U4}{us:U0}(len:us.length=ns.length)(at_:∀i,(h:i<ns.length)->∃t,us[i]?=!(.int ns[i] t)){i:Nat}{v:Value}(h:us[i]?=!v):∃t,v=.int (ns.getD i 0) t:=by
 have hi:i<ns.length:=by rw[<-len];exact(Vh.mp h).1
 let⟨t,e⟩:=at_ i hi;rw[h]at e;cases e;exact⟨t,by rw[List.getD_eq_getElem?_getD,getElem?_eq_getElem hi];rfl⟩
def BF{h h':Heap}{ob:Obj}{b:Addr}{o:Obj}(kp:∀b o,b ∉ [h.objs.size]->(h.push ob).get? b=!o->h'.get? b=!o)(e:h.get? b=!o):h'.get? b=!o:=
 kp b o (λhm=>by rw[mem_singleton.mp hm]at e;exact absurd (Ve e) (Vt _)) (Vc _ e)
def call_minA(hc:X.calm=true):eQ X (.builtin "min") (SI X.K):=by
 intro pins s σ H xs us Q I r h;rcases h with⟨i,j,rfl,q⟩|⟨l,ns,rfl,hl,hn,q⟩
 .exact yy hc pins s σ H _ us Q I r ⟨i,j,rfl,q⟩
 .let⟨u,rfl,ru⟩:=fC r;cases ru;let⟨its,rv,pl,hz⟩:=I.list hl;let⟨len,at_⟩:=tY rv;have hlt:l<s.heap.objs.size:=by let⟨_,e,_⟩:=pl.isList;exact Ve e
  have hp:=List.length_pos_iff.mpr hn;refine call_min_walk (wpAny_pyIter_list pl.isList ?_);refine⟨_,_,_,_,_,_,_,rfl,Walks.list (A:=X.A.in1) (I.ok.hd hc) s.heap.objs.size l (Vo hlt) its.toArray,⟨⟨_,Vf _ rfl,rfl,rfl⟩,pl.isList.push _⟩,λb hb=>?_,by rw[size_toArray,len];exact hp,CmpOf.ints_lt (λi=>ns.getD i 0) (λi v hv=>?_),λv h' tk hP kp=>?_⟩
  .exact Nk hlt hb
  .rw[List.getElem?_toArray]at hv;exact BE len at_ hv
  .rw[List.getElem?_toArray,size_toArray,len]at hP;let⟨t,e⟩:=BE len at_ hP;rw[BD hn]at e;exact⟨.int (xv ns),H,I.kept λb o e=>BF kp e,⟨t,e⟩,q⟩
def  minD':U7->U9
 |[.int i,.int j]=>!(.int (if j<i then j else i))
 |[.lst ds]=>(a9 ds).bind λns=>if ns.isEmpty then none else !(.int (xv ns))
 |_=>none
def rn_minA:Eh X.K (SI X.K) minD':=λO H xs ds d Q hd l e k=>by
 unfold minD' at e;split at e
 .cases e;let⟨u,v,rfl,iu,iv⟩:=QE l;cases(show u=.int _ from iu);cases(show v=.int _ from iv);exact .inl ⟨_,_,rfl,k _ H (Same.refl _) rfl⟩
 .let⟨ns,e1,e2⟩:=VA e;let⟨u,rfl,p,ys,rfl,hq,il⟩:=uQ l;split at e2
  .cases e2
  .rename_i hn;cases e2;have z:=bT e1 il;subst z;exact .inr ⟨p,ns,rfl,msk_le.seq hq,λz=>hn (by rw[z];rfl),k _ H (Same.refl _) rfl⟩
 .cases e
end
def  Fs(c:UT)(F:US):Nat->US
 |0,_=>none
 |n+1,Y=>(c (vw Y)).bind λb=>if b=true then(F Y).bind λo=>match o with
  |.nx Y'=>Fs c F n Y'
  |.ct Y'=>Fs c F n Y'
  |.bk Y'=>!(.nx Y')
  |.rt s=>!(.rt s)else !(.nx Y)
def  Lv(c:UT)(F:US):US:=Fs c F 400
section
variable{X:Cx}{pos:Pos}
def PT.ex{c:Expr}{ι:Type}{t:ι->TT}(h:∀z,PT X c (t z)):PT X c (λσ H Q=>∃z,t z σ H Q):=λpins s σ H D I ⟨z,q⟩=>h z pins s σ H D I q
def BG{c:Expr}{body:List Stmt}{fc F}(hp:PassesOwn (!4) X.A X.env X.xe)(hc:PQ X c fc)(hb:zD X body F):PR X (.While c body [] pos) (Lv fc F):=λB O Y=>
 (zQ hp (PT.ex λz:Vv=>hc mD z) (PSs.ex λz:(U5)×Ev=>hb B z.1 z.2)).imp λEn σ H ⟨E,o,q,k⟩=>by
 refine⟨λm σ' H'=>∃O' Y',Fs fc F m Y'=!o/\EnvOk X.K B O' σ' H' Y'/\Same _ (msk O' H'),⟨400,O,Y,q,E,Same.refl _⟩,?_⟩;rintro m σ1 H1 ⟨O1,Y1,q1,E1,s1⟩;cases m with
 |zero=>cases q1
 |succ n=>
  let⟨b,q2,q3⟩:=VA (show((fc (vw Y1)).bind λb=>if b=true then(F Y1).bind λo=>match o with
   |.nx Y'=>Fs fc F n Y'
   |.ct Y'=>Fs fc F n Y'
   |.bk Y'=>!_
   |.rt s=>!(.rt s)else !_)=some o from q1)
  refine⟨vw Y1,E1.view,b,q2,λH2 s2=>?_⟩;cases b with
  |false=>
   cases q3;exact k σ1 H2 O1 (s1.trans s2.msk) (E1.grow s2)
  |true=>
   let⟨o1,q4,q5⟩:=VA q3;refine⟨λσ' H'=>∃O' Y',Fs fc F n Y'=!o/\EnvOk X.K B O' σ' H' Y'/\Same _ _,λσ' H' h=>⟨n,Nat.lt_succ_self n,h⟩,(O1,Y1),E1.grow s2,o1,q4,?_⟩;have s3:=s1.trans s2.msk;cases o1 with
   |nx Y2=>exactλσ' H' O' s' E'=>⟨O',Y2,q5,E',s3.trans s'⟩
   |ct Y2=>exactλσ' H' O' s' E'=>⟨O',Y2,q5,E',s3.trans s'⟩
   |bk Y2=>
    cases q5;exactλσ' H' O' s' E'=>k σ' H' O' (s3.trans s') E'
   |rt s=>
    cases q5;exactλv H' r=>k v H' r
end
section
variable{X:Cx}{a b:Expr}{pos:Pos}
def  BH(K:Frag):R2:=λx y H Q=>∃a b ys,x=.ref a/\y=.ref b/\SqT K H a []/\SqT K H b ys/\Q (.ref b) H
def BI:OpR X (binaryOp .Add) (BH X.K):=by
 intro pins s σ H x y v u Q I rx T h;let⟨a,b,ys,rfl,rfl,ha,hb,q⟩:=h;cases rx;cases T;let⟨its,U,p1,_⟩:=I.tuple ha;let⟨r,r2,p2,_⟩:=I.tuple hb;have hn:=U.nil_iff.mpr rfl;subst hn;let⟨⟨cls,dd,data,J⟩,t,hc,n,hd⟩:=id p1;let⟨⟨C,p,data2,j⟩,g,o,n2,l⟩:=id p2;subst hc hd o l;exact concat_meets ⟨_,t,rfl⟩ ⟨_,g,rfl⟩ noFill_tuple_add seq_tuple_add PySem.F.slot_tuple_add PySem.F.entry_tuple_add (PySem.F.args_tuple_add_2 _ _) (tuple_addW0 a b _ _ n n2 dd p J j rfl) ⟨t,g,.ref b,H,I,rfl,q⟩
def  SJ(K:Frag):R2:=λx y H Q=>Hc K x y H Q\/BH K x y H Q
def Nl:OpR X (binaryOp .Add) (SJ X.K):=λpins s σ H x y v u Q I rx g h=>h.elim (D1 pins s σ H x y v u Q I rx g) (BI pins s σ H x y v u Q I rx g)
def  QX:D->D->U9
 |.tup a,.tup b=>if a.length+b.length<big then !(.tup (a++b))else none
 |_,_=>none
def QY{K}:jF K (SJ K) QX:=λO H x y dx dy d Q hd ix iy e k=>by
 cases dx with
 |tup as=>
  cases dy with
  |tup bs=>
   let⟨hz,e⟩:=aw (e);subst e;let⟨p,l,rfl,t,I⟩:=ix;let⟨q,j,rfl,r,C⟩:=iy;have g:=I.len;have o:=C.len;cases as with
   |nil=>
    have J:=List.length_eq_zero_iff.mp (by rw[<-g];rfl);subst J;exact .inr ⟨p,q,j,rfl,rfl,msk_le.seqT t,msk_le.seqT r,k _ H (Same.refl _) ⟨q,j,rfl,r,C⟩⟩
   |cons a as=>
    have J:l≠[]:=λz=>by rw[z]at g;cases g
    refine .inl ⟨p,q,l,j,rfl,rfl,msk_le.seqT t,msk_le.seqT r,J,by rw[<-g,<-o];exact Vu hz,λz=>?_,λz c T=>?_⟩
    .subst z;have hb:=List.length_eq_zero_iff.mp (by rw[o];rfl);subst hb;rw[List.append_nil]at k;exact k _ H (Same.refl _) ⟨p,l,rfl,t,I⟩
    .have U:=gk hd T;have le:Same (msk O H) (msk O (upd H c (.tup (l++j)))):=by rw[mR U];exact Same.new (by rw[aN U];exact T)
     exact k _ _ (Same.new T) ⟨c,l++j,rfl,.of (by rw[aN U,ai]),IsL.mono le _ _ (I.app C)⟩
  |_=>cases e
 |_=>cases e
def  aC:D->D->U9
 |.int i,.int j=>!(.int (i+j))
 |.tup a,.tup b=>if a.length+b.length<big then !(.tup (a++b))else none
 |_,_=>none
def JJ(p:PP X a fa)(o:PP X b j):PP X (.BinOp a .Add b pos) (aa aC fa j):=λO Y=>(Ed p o O Y).by2 (nH Nl QY p o O Y) λσ H Q ⟨E,d,q,k⟩=>by
 let⟨x,r,q⟩:=VA q;let⟨y,e2,q⟩:=VA q;have l:∀g:D->D->U9,aa g fa j Y=g x y:=λg=>by show(fa Y).bind _=_;rw[r];show(j Y).bind _=_;rw[e2];rfl
 cases x<;>cases y<;>first
  |exact .inl ⟨E,d,by rw[l];exact q,k⟩
  |exact .inr ⟨E,d,by rw[l];exact q,k⟩
end
end L2
namespace L2
open PySem PySem.Spec PyProof.Rows
structure Gb where
 fn:Str->Option (Nat×(xx))
 cn:Str->U9
 no:Str->Bool
 fl:Str->Str->Bool
 mt:Str->MT
 ini:Str->Option (Nat×(U7->Option (List (Str×D))))
structure Sn where
 N:U3
 nm:List (Str×NameKind)
 k:Nat
 G:Gb
structure GbOk(P:Program)(w:World)(K:Frag)(mg:Str->U1)(base:Heap)(G:Gb):Prop where
 fn:∀x k f,G.fn x=!(k,f)->Df P w K mg base x k f
 cn:∀x d,G.cn x=!d->Cn K mg x d
 no:∀x,G.no x=true->mg x=none
 fl:∀C m Ca,G.fl C m=true->nsIn K mainGlobals C=!(!(.ref Ca))->Cls K Ca/\NoAttr K Ca m
 mt:∀m C k f,G.mt m C=!(k,f)->Mf P w K mg base C m k f
 ini:∀C k g,G.ini C=!(k,g)->Mkf P w K mg base C k g
structure SnOk(X:Cx)(S:Sn):Prop where
 g:GbOk X.prog X.w X.K X.mg X.base S.G
 N:X.N=S.N
 nd:S.N.Nodup
 calm:X.calm=true
 room:Room S.k X.A
 loc:∀x,S.nm.lookup x=some .local->X.env.scope.names.lookup x=some .local
 cel:∀x,S.nm.lookup x=some .cell->X.env.scope.names.lookup x=some .cell
 fre:∀x,S.nm.lookup x=some .free->X.env.scope.names.lookup x=some .cell\/X.env.scope.names.lookup x=some .free
 glo:∀x,S.nm.lookup x=some .globalImplicit->X.env.kindOf x=some .globalImplicit
def  cA(S:Sn)(x:Str):Option Nat:=if fS x&&xh (S.nm.lookup x)then rh S.N x else none
def  qr(S:Sn)(x:Str):Bool:=fS x&&decide (S.nm.lookup x=some .globalImplicit)
def  Nm(S:Sn)(x:Str):UR:=match cA S x with
 |some i=>λY=>bF Y i
 |none=>if qr S x then(match S.G.cn x with
  |some d=>λ_=>!d
  |none=>if S.G.no x then(match rp x with|some n=>λ_=>!(.ty n)|none=>λ_=>none)elseλ_=>none)elseλ_=>none
def pp_no:PP X e (λ_=>none):=λO Y=>(re O Y).1
def SnOk.vis(o:SnOk X S)(h:xh (S.nm.lookup x)=true):pQ X.env.scope x:=by
 cases e:S.nm.lookup x with
 |none=>rw[e]at h;cases h
 |some k=>
  rw[e]at h;cases k with
  |«local»=>exact .inl (o.loc x e)
  |cell=>exact .inr (.inl (o.cel x e))
  |free=>
   rcases o.fre x e with q|q
   .exact .inr (.inl q)
   .exact .inr (.inr q)
  |globalExplicit=>cases h
  |globalImplicit=>cases h
def bu(o:SnOk X S)(h:cA S x=!i):fS x=true/\pQ X.env.scope x/\X.N[i]?=!x/\xh (S.nm.lookup x)=true:=by
 unfold cA at h;split at h
 .rename_i c;rw[and_eq_true]at c;exact⟨c.1,o.vis c.2,by rw[o.N];exact gt h,c.2⟩
 .cases h
def aX(o:SnOk X S)(h:qr S x=true):fS x=true/\Gl X x:=by
 unfold qr at h;rw[and_eq_true]at h;exact⟨h.1,o.glo x (Vk h.2)⟩
def vQ{X:Cx}{S:Sn}{pos:Pos}(o:SnOk X S)(x:Str):PP X (.Name x pos) (Nm S x):=by
 unfold Nm;split
 .rename_i i e;let⟨h1,h2,p,_⟩:=bu o e;let⟨a,b,c⟩:=df h1;exact nF i p h2 a b
 .split
  .rename_i e;let⟨h1,h2⟩:=aX o e;let⟨a,b,c⟩:=df h1;split
   .rename_i d hd;exact AH (o.g.cn x d hd) h2 a
   .split
    .rename_i j;split
     .rename_i n l;exact Mp h2 (o.g.no x j) (vD l) c a
     .exact pp_no
    .exact pp_no
  .exact pp_no
noncomputable def  aG:Expr->Bool
 |.Starred _ _=>false
 |_=>true
def star1(h:aG e=true):starEach (e::es) env=(false,eval e env)::starEach es env:=by
 cases e<;>first|rfl|cases h
def BJ:∀{es:U8},es.all aG=true->(backTo pos (starEach es env)).any (·.1)=false
 |[],_=>rfl
 |e::es,h=>by
  rw[List.all_cons,and_eq_true]at h;rw[star1 h.1];show(false||(backTo pos (starEach es env)).any (·.1))=false;rw[BJ h.2];rfl
def  QZ:Operator->Option (D->D->U9)
 |.Add=>!aC
 |.Sub=>!fQ
 |.Mult=>!aJ
 |.FloorDiv=>!c6
 |.Mod=>!aV
 |.Pow=>!vi
 |_=>none
def  Nn(op:Operator)(fa fb:UR):UR:=match QZ op with
 |some g=>aa g fa fb
 |none=>λ_=>none
def  kx:Expr->Bool
 |.Set _ _ _=>false
 |_=>true
def noSet_mark(h:kx b=true):behindInMarks op b=false:=by
 cases b<;>first|rfl|cases h
def gK(h:kx iter=true):∀x,foldedSetIterable iter env x=pure x:=by
 intro x;cases iter<;>first|rfl|cases h
def  cmpG:CmpOp->Option (D->D->U9)
 |.Lt=>!nI
 |.LtE=>!nJ
 |.Gt=>!Aw
 |.GtE=>!Lr
 |.Eq=>!(aK false)
 |.NotEq=>!(aK true)
 |.In=>!Pm
 |.NotIn=>!vo
 |.Is=>!(tI false)
 |.IsNot=>!(tI true)
def  zb(op:CmpOp)(b:Expr)(fa fb:UR):UR:=match cmpG op with
 |some g=>if kx b then aa g fa fb elseλ_=>none
 |none=>λ_=>none
section
variable{X:Cx}{S:Sn}{a b c:Expr}{pos:Pos}
def No(op:Operator){fa fb}(ha:PP X a fa)(hb:PP X b fb):PP X (.BinOp a op b pos) (Nn op fa fb):=by
 cases op<;>first
  |exact JJ ha hb
  |exact Ix ha hb
  |exact Iy ha hb
  |exact Iz ha hb
  |exact IA ha hb
  |exact IB ha hb
  |exact pp_no
def Np(o:SnOk X S)(op:CmpOp){fa fb}(ha:PP X a fa)(hb:PP X b fb):PP X (.Compare a [op] [b] pos) (zb op b fa fb):=by
 unfold zb;cases op<;>dsimp only[cmpG]<;>(try split)<;>first
  |exact pp_no
  |exact MA (Vm (Nat.le_add_right _ _) (iJ o.room)) ha hb
  |exact MB ha hb
  |exact MC (Vm (Nat.le_add_right _ _) (iJ o.room)) ha hb
  |exact MD ha hb
  |exact ML o.room ha hb
  |exact MM o.room ha hb
  |(rename_i h;exact pp_cmp op_in_seq r_in ha hb (noSet_mark h))
  |(rename_i h;exact pp_cmp op_notIn_seq r_notIn ha hb (noSet_mark h))
  |(rename_i h;exact pp_cmp op_isN r_isN ha hb (noSet_mark h))
  |(rename_i h;exact pp_cmp op_notN r_notN ha hb (noSet_mark h))
def JK(o:SnOk X S)(op:CmpOp){fa fb}(ha:PP X a fa)(hb:PP X b fb):PQ X (.Compare a [op] [b] pos) (al (zb op b fa fb)):=by
 have no:PQ X (.Compare a [op] [b] pos) (al λ_=>none):=λO Y pins s σ H Q I ⟨_,_,q,_⟩=>by cases q
 unfold zb;cases op<;>dsimp only[cmpG]<;>(try split)<;>first
  |exact no
  |exact ME (Vm (Nat.le_add_right _ _) (iJ o.room)) ha hb
  |exact MF ha hb
  |exact MG (Vm (Nat.le_add_right _ _) (iJ o.room)) ha hb
  |exact MH ha hb
  |exact MN o.room ha hb
  |exact MO o.room ha hb
  |(rename_i h;exact pq_cmp op_in_seq r_in ha hb (noSet_mark h))
  |(rename_i h;exact pq_cmp op_notIn_seq r_notIn ha hb (noSet_mark h))
  |(rename_i h;exact pq_cmp op_isN r_isN ha hb (noSet_mark h))
  |(rename_i h;exact pq_cmp op_notN r_notN ha hb (noSet_mark h))
end
def  BK(x:Str):Option (U7->U9):=if x=("len":Str)then !dM else if x=("isinstance":Str)then !c8 else if x=("all":Str)then !fy else if x=("tuple":Str)then !cG else if x=("sum":Str)then !vm else if x=("min":Str)then !minD' else if x=("int":Str)then !qq else none
def  BL(S:Sn)(x:Str):U7->U9:=if qr S x then(match S.G.fn x with
 |some (k,g)=>if k<=S.k thenλds=>b7 (g ds)elseλ_=>none
 |none=>match S.G.ini x with
  |some (k,g)=>if k+1<=S.k thenλds=>EQ x (g ds)elseλ_=>none
  |none=>if S.G.no x then(match BK x with|some g=>g|none=>λ_=>none)elseλ_=>none)elseλ_=>none
def  BM(S:Sn)(x:Str):U7->U9:=if qr S x then(match S.G.fn x with
 |some (k,g)=>if k<=S.k thenλds=>nT (g ds)elseλ_=>none
 |none=>λ_=>none)elseλ_=>none
section
variable{X:Cx}{S:Sn}{e:Expr}{es:U8}{p pos:Pos}
def xw{α g:Type}(o:Option α):(o.bind λ_=>(none:Option g))=none:=by cases o<;>rfl
def eW{fa:UQ}:PP X e (λY=>(fa Y).bind λ_=>none):=λO Y pins s σ H Q I ⟨_,_,q,_⟩=>by dsimp only at q;rw[xw]at q;cases q
def k_call(o:SnOk X S)(x:Str){fa}(ha:PX X (e::es) fa)(hst:(e::es).all aG=true):PP X (!18) (λY=>(fa Y).bind (BL S x)):=by
 rw[List.all_cons,and_eq_true]at hst;have h1:starEach (e::es) X.env=(false,eval e X.env)::starEach es X.env:=star1 hst.1;have h2:∀pos,(!17).any (·.1)=false:=λpos=>BJ hst.2;unfold BL;split
 .rename_i hg;let⟨ok,gl⟩:=aX o hg;let⟨n1,n2,n3⟩:=df ok;split
  .rename_i k g hf;split
   .rename_i hk;exact EM (o.g.fn x k g hf) (o.room.mono hk) gl ha n1 h1 (h2 _)
   .exact eW
  .split
   .rename_i k g hf;split
    .rename_i hk;exact ER (o.g.ini x k g hf) (o.room.mono hk) gl ha n1 h1 (h2 _)
    .exact eW
   .split
    .rename_i hn;have hm:=o.g.no x hn;split
     .rename_i g hb;unfold BK at hb;split at hb
      .rename_i q;cases hb;subst q;exact pp_callB call_len_seq rn_len gl hm PySem.boot_len ha n3 n1 h1 (h2 _)
      .split at hb
       .rename_i q;cases hb;subst q;exact pp_callB call_isi rn_isi gl hm (!16) ha n3 n1 h1 (h2 _)
       .split at hb
        .rename_i q;cases hb;subst q;exact pp_callB (call_all o.calm) rn_all gl hm (!16) ha n3 n1 h1 (h2 _)
        .split at hb
         .rename_i q;cases hb;subst q;exact pp_callTy call_tuple_of rn_tuple gl hm (!16) ha n3 n1 h1 (h2 _)
         .split at hb
          .rename_i q;cases hb;subst q;exact pp_callB (call_sumL o.calm) rn_sum gl hm b_sum ha n3 n1 h1 (h2 _)
          .split at hb
           .rename_i q;cases hb;subst q;exact pp_callB (call_minA o.calm) rn_minA gl hm b_min ha n3 n1 h1 (h2 _)
           .split at hb
            .rename_i q;cases hb;subst q;exact pp_callTy call_intB rn_intB gl hm (!16) ha n3 n1 h1 (h2 _)
            .cases hb
     .exact eW
    .exact eW
 .exact eW
def k_callR(o:SnOk X S)(x:Str)(I:PX X (e::es) fa)(j:(e::es).all aG=true):tK X (!18) (λY=>(fa Y).bind (BM S x)):=by
 rw[List.all_cons,and_eq_true]at j;have h1:starEach (e::es) X.env=(false,eval e X.env)::starEach es X.env:=star1 j.1;have h2:∀pos,(!17).any (·.1)=false:=λpos=>BJ j.2;have no:tK X (!18) (λY=>(fa Y).bind λ_=>none):=λY=>by dsimp only;rw[xw];exact tL Y
 unfold BM;split
 .rename_i t;let⟨ok,J⟩:=aX o t;let⟨l,U,T⟩:=df ok;split
  .rename_i k g C;split
   .rename_i r;exact EN (o.g.fn x k g C) (o.room.mono r) J I l h1 (h2 _)
   .exact no
  .exact no
 .exact no
end
def tZ(e a:Expr)(f:Str)(p:Pos)(l:Nat)(env:Env):swapsWith e (!(.Attribute a f p)) l env=pure false:=by
 cases e<;>rfl
def t4{K}:∀{fd:List (Str×D)}{fs:List (Str×V)},fs.map (·.1)=fd.map (·.1)->IsL K M (fd.map (·.2)) (fs.map (·.2))->fd.lookup h=!d->∃v,fs.lookup h=!v/\Is K M d v
 |[],_,_,_,q=>by cases q
 |_::_,[],e,_,_=>by simp at e
 |(g,c)::fd,(g',u)::fs,e,⟨x,r,z,i,l⟩,q=>by
  have e1:g'=g:=by simp at e;exact e.1
  have e2:fs.map (·.1)=fd.map (·.1):=by simp at e;simpa using e.2
  subst e1;have z':u::fs.map (·.2)=x::r:=z;cases z';rw[List.lookup_cons]at q;cases hb:h==g' with
  |true=>
   rw[hb]at q;cases q;exact⟨u,by rw[List.lookup_cons,hb],i⟩
  |false=>
   rw[hb]at q;let⟨v,h1,h2⟩:=t4 e2 l q;exact⟨v,by rw[List.lookup_cons,hb];exact h1,h2⟩
def  BN(x:Addr)(i:Nat)(g h:Str)(ff:xx)(G:uR):uR:=λY fs=>match gJ Y i with
 |some (.sh,.adr a)=>if a=x/\fs.length<900 then((fs.lookup h).bind λd=>(ff [d]).bind λs=>G Y (nV g s.2 fs))else none
 |_=>none
section
variable{X:Cx}{Ca x:Addr}{rest:List Stmt}{pos:Pos}
def Ft(i:Nat)(F:Df X.prog X.w X.K X.mg X.base fn k ff)(hr:Room k X.A)(hg:Gl X fn)(T:(fn==("__debug__":Str))=false)(h2:DD X Ca x rest G)(hN:X.N[i]?=!self)(l:pQ X.env.scope self)(hd:(self==("__debug__":Str))=false)(t:(self==("__classdict__":Str))=false)(c:Cls X.K Ca)(na:NoAttr X.K Ca g)(nb:NoAttr X.K Ca h):DD X Ca x (.Assign [.Attribute (.Name self px) g pos'] (.Call (.Name fn p) [.Attribute (.Name self px2) h apos] [] cpos) pos::rest) (BN x i g h ff G):=λB O Y dx fd=>by
 let⟨fa,fdt,ps,hm,hk,I,Gf⟩:=F.ex;refine(gi (z9 (bK hN l hd t) (qP Gf hr hg hm hk I .nil sY (dm (z0 (bK hN l hd t) rfl) pa_nil) T rfl rfl) (tZ _ _ _ _ _ _)) (PSs.ex λz:Bs×(U5)×Ev×List _=>h2 z.1 z.2.1 z.2.2.1 dx z.2.2.2)).imp λEn σ H ⟨E,hx,⟨fs,a1,U,a3⟩,C,q,k⟩=>?_;have j:(match gJ Y i with|some (.sh,.adr a)=>if a=x/\fd.length<900 then((fd.lookup h).bind λd=>(ff [d]).bind λs=>G Y _)else none|_=>none)=!C:=q;split at j
 .rename_i a ha;split at j
  .rename_i hc;let⟨rfl,hl⟩:=hc;let⟨d,q1,j⟩:=VA j;let⟨s,q2,j⟩:=VA j;let⟨v,hv,iv⟩:=t4 U a3 q1;let⟨F1,f1,_⟩:=E.fp;let⟨w,ew,ow⟩:=f1 i _ (de ha);cases(ow.2);refine⟨.ref a,ew,a,Ca,dx,fs,v,rfl,E.same a _ a1,c,nb,hv,?_⟩;refine⟨O,[d],s,E.lis,⟨v,[],rfl,iv,rfl⟩,q2,λy H1 r=>?_⟩;let⟨s1,iy⟩:=r.is E.lis;have E1:=E.grow s1;have hlen:fs.length=fd.length:=by have:=congrArg List.length U;simpa using this
   refine⟨.ref a,ew,a,Ca,dx,fs,rfl,E1.same a _ a1,c,na,by omega,?_⟩;let⟨E3,me⟩:=E1.store hx a1;let⟨b1,b2⟩:=rr iy U (IsL.mono s1.msk _ _ a3);refine⟨⟨⟨upd B.H a (.ins Ca dx _),B.O⟩,O,Y,nV g s.2 fd⟩,E3,hx,⟨_,ai,b1,by rw[me];exact b2⟩,C,j,λJ H' O' fs' k1 k2 k3 k4 k5=>k J H' O' fs' (λb o I h=>k1 b o I (by show upd B.H a _ b=!o;rw[ae I];exact h)) k2 k3 k4 k5⟩
  .cases j
 .cases j
end
noncomputable def  vR(N:U3)(nm:List (Str×NameKind)):U2:=(List.range N.length).filter λi=>match N[i]? with|some x=>decide (nm.lookup x=some .local)|none=>false
def t5(h:N[i]?=!x)(h2:nm.lookup x=some .local):i∈vR N nm:=by grind [vR]
def  BO(S:Sn)(x:Str):Option Nat:=if S.nm.lookup x=some .local then rh S.N x else none
mutual
noncomputable def  Nq(S:Sn):Nat->Expr->D->Vv->Option Vv
 |0=>λ_ _ _=>none
 |n+1=>λe=>match e with
  |.Name x _=>(match BO S x with|some i=>gNm i|none=>λ_ _=>none)
  |.Tuple ts _ _=>if ts.all aG then l7 ts.length (Fu S n ts)elseλ_ _=>none
  |_=>λ_ _=>none
noncomputable def  Fu(S:Sn):Nat->U8->U7->Vv->Option Vv
 |0=>λ_ _ _=>none
 |n+1=>λes=>match es with
  |[]=>bt
  |t::ts=>if aG t then au (Nq S n t) (Fu S n ts)elseλ_ _=>none
end
def  rK(S:Sn)(x:Str):Option Nat:=if S.nm.lookup x=some .local\/S.nm.lookup x=some .cell then rh S.N x else none
mutual
noncomputable def  DF(S:Sn):Nat->Expr->D->Ev->Option Ev
 |0=>λ_ _ _=>none
 |n+1=>λe=>match e with
  |.Name x _=>(match rK S x with|some i=>dq i|none=>λ_ _=>none)
  |.Tuple ts _ _=>if ts.all aG then zE ts.length (Fw S n ts)elseλ_ _=>none
  |_=>λ_ _=>none
noncomputable def  Fw(S:Sn):Nat->U8->U7->Ev->Option Ev
 |0=>λ_ _ _=>none
 |n+1=>λes=>match es with
  |[]=>mF
  |t::ts=>if aG t then cz (DF S n t) (Fw S n ts)elseλ_ _=>none
end
section
variable{X:Cx}{S:Sn}
def asg1(h:aG t=true):(assignEach (t::g) env).map (·.2)=assign t env::(assignEach g env).map (·.2):=by
 cases t<;>first|rfl|cases h
def asgLen:∀{ts:U8},(assignEach ts env).length=ts.length
 |[]=>rfl
 |t::ts=>by cases t<;>exact congrArg (·+1) (asgLen (ts:=ts))
def BP:∀{ts:U8},ts.all aG=true->(assignEach ts env).findIdx? (·.1)=none
 |[],_=>rfl
 |t::ts,h=>by
  rw[List.all_cons,and_eq_true]at h;have ih:=BP (env:=env) h.2;have:assignEach (t::ts) env=(false,assign t env)::assignEach ts env:=by
   have h1:=h.1;cases t<;>first|rfl|cases h1
  rw[this,List.findIdx?_cons];simp[ih]
def xy:IK X ks e (λ_ _=>none):=λO Y d pins s σ H v u Q I r ⟨_,_,_,q,_⟩=>by cases q
def BQ:yK X ks e (λ_ _=>none):=λO Y d pins s σ H v u Q I r ⟨_,_,_,q,_⟩=>by cases q
def xz:ED X e (λ_ _=>none):=λB O Y d pins s σ H v u Q I r ⟨_,_,_,q,_⟩=>by cases q
def BR:yP X e (λ_ _=>none):=λB O Y d pins s σ H v u Q I r ⟨_,_,_,q,_⟩=>by cases q
def vS(h:BO S x=!i):S.nm.lookup x=some .local/\S.N[i]?=!x:=by
 unfold BO at h;split at h
 .exact⟨by assumption,gt h⟩
 .cases h
def t6(h:rK S x=!i):(S.nm.lookup x=some .local\/S.nm.lookup x=some .cell)/\S.N[i]?=!x:=by
 unfold rK at h;split at h
 .exact⟨by assumption,gt h⟩
 .cases h
def Hr(o:SnOk X S):∀n,(∀e,IK X (vR S.N S.nm) e (Nq S n e))/\∀es,yK X (vR S.N S.nm) es (Fu S n es):=by
 intro n;induction n with
 |zero=>exact⟨λe=>xy,λes=>BQ⟩
 |succ n g=>
  refine⟨λe=>?_,λes=>?_⟩
  .unfold Nq;split
   .split
    .rename_i i hi;let⟨h1,h2⟩:=vS hi;exact Em (by rw[o.N];exact o.nd) (by rw[o.N];exact h2) (.inl (o.loc _ h1)) (t5 h2 h1) (.inr (o.loc _ h1))
    .exact xy
   .split
    .rename_i h;exact IL o.calm (g.2 _) asgLen (BP h)
    .exact xy
   .exact xy
  .unfold Fu;split
   .exact Eo
   .split
    .rename_i h;exact gsd_cons (g.1 _) (g.2 _) (asg1 h)
    .exact BQ
def xA(o:SnOk X S)(l:∀x,X.fn x=true):∀n,(∀e,ED X e (DF S n e))/\∀es,yP X es (Fw S n es):=by
 intro n;induction n with
 |zero=>exact⟨λe=>xz,λes=>BR⟩
 |succ n g=>
  refine⟨λe=>?_,λes=>?_⟩
  .unfold DF;split
   .split
    .rename_i i hi;let⟨h1,h2⟩:=t6 hi;have j:DB X.env.scope _:=h1.elim (λh=>.inl (o.loc _ h)) (λh=>.inr (o.cel _ h));exact EF (by rw[o.N];exact o.nd) (by rw[o.N];exact h2) j (.inl (l _))
    .exact xz
   .split
    .rename_i h;exact Ja o.calm (g.2 _) asgLen (BP h)
    .exact xz
   .exact xz
  .unfold Fw;split
   .exact EG
   .split
    .rename_i h;exact gse_cons (g.1 _) (g.2 _) (asg1 h)
    .exact BR
noncomputable def  kz(S:Sn)(sc:Scope):Bool:=decide (sc.kind=.function)&&sc.names.all λy=>not (decide (y.2=.cell))&&(not (decide (y.2=.local))||decide (sc.names.lookup y.1=some .local))&&
 (not (decide (y.2=.free))||decide (S.nm.lookup y.1=some .cell)||decide (S.nm.lookup y.1=some .free))
def vT(o:SnOk X S)(h:kz S l=true):CSc X l (vR S.N l.names):=by
 unfold kz at h;rw[and_eq_true]at h;have t:=Vk h.1;have j:=List.all_eq_true.mp h.2;refine⟨t,λy g z=>?_,λy g z=>?_,λy g z=>?_,λi x p r=>t5 (by rw[<-o.N];exact p) r⟩
 .have:=j y g;simp[z]at this
 .have:=j y g;simp[z]at this;exact this
 .have:=j y g;simp[z]at this;rcases this with q|q
  .exact .inl (o.cel _ q)
  .exact o.fre _ q
def mf{f:Str → NameKind → NameKind}:∀{l:List (Str × NameKind)},(l.map fun y=>(y.1,f y.1 y.2)).lookup x = (l.lookup x).map (f x)
  | []=>rfl
  | (n,k) :: l=>by
    rw [List.map_cons,List.lookup_cons,List.lookup_cons]
    cases h:x == n with
    | true => have : x = n := by simpa using h
              subst this; rfl
    | false=>exact mf
def gL:(relabel g env).names.lookup x=(g.names.lookup x).map λk=>if(k==NameKind.free&&env.scope.kind==.function&&env.kindOf x==some .cell)then NameKind.cell else k:=by
 have e:(relabel g env).names=g.names.map λy=>(y.1,if(y.2==NameKind.free&&env.scope.kind==ScopeKind.function&&env.kindOf y.1==!NameKind.cell)then NameKind.cell else y.2):=by
  apply List.map_congr_left;rintro⟨n,k⟩ _;dsimp only;split<;>rfl
 rw[e];exact mf (f:=λn k=>if(k==NameKind.free&&env.scope.kind==ScopeKind.function&&env.kindOf n==!NameKind.cell)then NameKind.cell else k)
def t9(o:SnOk X S){j:Scope}(h:kz S j=true)(C:Addr)(s:Shared)(H:Hp)(fp:List Addr):SnOk (nz X j C s H fp) {S with nm:=j.names} where
 g:=o.g
 N:=o.N
 nd:=o.nd
 calm:=o.calm
 room:=o.room
 loc:=λx q=>by
  show(relabel j X.env).names.lookup x=_;rw[gL,show j.names.lookup x=some .local from q];rfl
 cel:=λx q=>by
  exfalso;have l:=q;exact(vT o h).nocell _ (PySem.mem_of_lookup l) rfl
 fre:=λx q=>by
  show(relabel j X.env).names.lookup x=_\/(relabel j X.env).names.lookup x=_;rw[gL,show j.names.lookup x=some .free from q];dsimp only[Option.map];split
  .exact .inl rfl
  .exact .inr rfl
 glo:=λx q=>by
  show(relabel j X.env).names.lookup x=_;rw[gL,show j.names.lookup x=some .globalImplicit from q];rfl
end
noncomputable def  BS:Const->UR
 |.int i=>λ_=>!(.int i)
 |.bool b=>λ_=>!(.bl b)
 |.none=>λ_=>some .non
 |.str x=>λ_=>!(.str x)
 |_=>λ_=>none
def  ag{α:Type}:Vv->Option α:=λ_=>none
noncomputable def  BU:Expr->Bool
 |.UnaryOp .Not _ _=>false
 |.BoolOp _ _ _=>false
 |.IfExp _ _ _ _=>false
 |.Compare _ _ _ _=>false
 |_=>true
def plainT_ok(h:BU e=true):∀whole,isTrue e env whole=(do let v<-whole;standAt e.pos;holding [v] (truthy v)):=by
 intro whole;cases e with
 |UnaryOp op a pos=>cases op<;>first|rfl|cases h
 |BoolOp _ _ _=>cases h
 |IfExp _ _ _ _=>cases h
 |Compare _ _ _ _=>cases h
 |_=>rfl
noncomputable def  BV:Expr->Bool
 |.Slice _ _ _ _=>false
 |_=>true
def noSl_ok(h:BV b=true):qR b:=by
 intro o i;cases b<;>first|rfl|cases h
def  Nr:Expr->Bool
 |.BinOp _ _ _ _=>true
 |_=>false
def  Uj:Expr->Bool
 |.ListComp _ _ _ _=>true
 |.List (.List _ _::_) _=>true
 |.Subscript _ k _=>not (BV k)
 |_=>false
def  Uk:Expr->Bool
 |.BinOp _ op b _=>(match op with
  |.Add=>Uj b
  |_=>false)
 |_=>false
def  Nt:Expr->Bool
 |.Tuple _ _ _=>true
 |_=>false
def  Hs(S:Sn)(m:Str)(apos pos:Pos)(args:U8):Bool:=args.all aG&&decide (args.length<30)&&(apos.endLine==pos.line)
noncomputable def  BW:Expr->Option (Str×Expr)
 |.Call f as ks _=>(match f,as,ks with
  |.Name g _,[b],[]=>!(g,b)
  |_,_,_=>none)
 |_=>none
def vU(h:BW e=!(g,b)):∃p q,e=.Call (.Name g p) [b] [] q:=by
 unfold BW at h;grind
def  JL(S:Sn)(f:Str):U8->Option Expr
 |[a]=>(match BW a with
  |some (g,b)=>if f=("tuple":Str)/\g=("reversed":Str)/\qr S f=true/\S.G.no f=true/\qr S g=true/\S.G.no g=true/\aG b=true then !b else none
  |none=>none)
 |_=>none
def zc(h:JL S f as=!b):∃p q,as=[.Call (.Name "reversed" p) [b] [] q]/\f=("tuple":Str)/\qr S "tuple"=true/\S.G.no "tuple"=true/\qr S "reversed"=true/\S.G.no "reversed"=true/\aG b=true:=by
 unfold JL at h;split at h
 .split at h
  .rename_i g l j;split at h
   .rename_i k;cases h;let⟨p,q,rfl⟩:=vU j;let⟨rfl,rfl,k⟩:=k;exact⟨p,q,rfl,rfl,k⟩
   .cases h
  .cases h
 .cases h
mutual
noncomputable def  rd:Nat->Sn->Expr->UR
 |0=>λ_ _=>ag
 |n+1=>λS e=>match e with
  |.Constant c _ _=>BS c
  |.Name x _=>Nm S x
  |.BinOp a op b _=>if Uk e thenλY=>(rf n S e Y).map D.lst else Nn op (rd n S a) (rd n S b)
  |.UnaryOp op a _=>(match op with
   |.Not=>Ax (rd n S a)
   |.USub=>λY=>(rd n S a Y).bind AO
   |_=>ag)
  |.BoolOp op vs p=>rl n S op vs p
  |.Compare a ops bs _=>(match ops,bs with
   |[op],[b]=>zb op b (rd n S a) (rd n S b)
   |[.LtE,.LtE],[b,c]=>if kx c then dL nJ nJ (rd n S a) (rd n S b) (rd n S c)else ag
   |_,_=>ag)
  |.IfExp c a b _=>Ef (rq n S c) (rd n S a) (rd n S b)
  |.Tuple es _ _=>λY=>(bJ (rx n S es Y)).bind λds=>!(.tup ds)
  |.Attribute o m _=>(match o with
   |.Name x _=>λY=>(Nm S x Y).bind (mG S.G.fl m)
   |_=>ag)
  |.Subscript a b _=>(match b with
   |.Slice lo hi none _=>a8 (ra (rd n S a) (ro n S lo) (ro n S hi)) λY=>(mC (rd n S a) (ro n S lo) (ro n S hi) Y).map D.lst
   |b=>if BV b then aa am (rd n S a) (rd n S b)else ag)
  |.Call f as ks pos=>(match ks with
   |[]=>(match f with
    |.Name f _=>(match as with
     |[]=>ag
     |a::as=>match JL S f (a::as)with
      |some b=>λY=>(rx n S [b] Y).bind Jt
      |none=>a8 (if(a::as).all aG thenλY=>(rx n S (a::as) Y).bind (BL S f)else ag) λY=>(rf n S e Y).map D.lst)
    |.Attribute o m apos=>(match o with
     |.Name x _=>(match as with
      |[]=>if Hs S m apos pos []thenλY=>b7 (km (Nm S x) (λ_=>![]) (S.G.mt m) S.k m Y)else ag
      |_=>ag)
     |_=>ag)
    |_=>ag)
   |_=>ag)
  |_=>λY=>(rf n S e Y).map D.lst
noncomputable def  rl:Nat->Sn->BoolOp->U8->Pos->UR
 |0=>λ_ _ _ _=>ag
 |n+1=>λS op vs p=>match op,vs with
  |_,[a]=>rd n S a
  |.And,a::b::r=>pC (rd n S a) (rl n S .And (b::r) p)
  |.Or,a::b::r=>QC (rd n S a) (rl n S .Or (b::r) p)
  |_,_=>ag
noncomputable def  rq:Nat->Sn->Expr->UT
 |0=>λ_ _=>ag
 |n+1=>λS e=>match e with
  |.UnaryOp op a _=>(match op with
   |.Not=>bB (rq n S a)
   |_=>ag)
  |.BoolOp op vs p=>rb n S op vs p
  |.Compare a ops bs _=>(match ops,bs with
   |[op],[b]=>al (zb op b (rd n S a) (rd n S b))
   |[.LtE,.LtE],[b,c]=>if kx c then al (dL nJ nJ (rd n S a) (rd n S b) (rd n S c))else ag
   |_,_=>ag)
  |e=>if BU e thenλY=>(rd n S e Y).bind pD else ag
noncomputable def  rb:Nat->Sn->BoolOp->U8->Pos->UT
 |0=>λ_ _ _ _=>ag
 |n+1=>λS op vs p=>match op,vs with
  |.And,[a]=>rq n S a
  |.Or,[a]=>rq n S a
  |.And,a::b::r=>Ee (rq n S a) (rb n S .And (b::r) p)
  |.Or,a::b::r=>nK (rq n S a) (rb n S .Or (b::r) p)
  |_,_=>ag
noncomputable def  rx:Nat->Sn->U8->UQ
 |0=>λ_ _=>ag
 |n+1=>λS es=>match es with
  |[]=>λ_=>![]
  |a::as=>if aG a then ac (rd n S a) (rx n S as)else ag
noncomputable def  ro:Nat->Sn->Option Expr->Vv->Option (Va)
 |0=>λ_ _=>ag
 |n+1=>λS e=>match e with
  |none=>λ_=>!none
  |some e=>aR (rd n S e)
noncomputable def  rf:Nat->Sn->Expr->UQ
 |0=>λ_ _=>ag
 |n+1=>λS e=>match e with
  |.List es _=>λY=>bJ (rx n S es Y)
  |.ListComp elt gs sc _=>(match gs with
   |[g]=>if kz S sc&&kx g.iter&&decide (g.is_async=0)then
    af (vR S.N sc.names) (rj n S g.target g.iter) (Nq {S with nm:=sc.names} n g.target) (rqs n {S with nm:=sc.names} g.ifs) (rd n {S with nm:=sc.names} elt)else ag
   |_=>ag)
  |.Subscript a b _=>(match b with
   |.Slice lo hi none _=>mC (rd n S a) (ro n S lo) (ro n S hi)
   |_=>ag)
  |.BinOp a op b _=>(match op with
   |.Add=>nW (if Nr a then a8 (rd n S a) (λY=>(rf n S a Y).map D.lst)else rd n S a) (rd n S b)
   |_=>ag)
  |.Call f as ks _=>(match ks with
   |[]=>(match f with
    |.Name f _=>(match as with
     |[a]=>if f=("list":Str)/\qr S f=true/\S.G.no f=true/\aG a=true then a8 (rv n S a) (λY=>(rx n S [a] Y).bind l6)
   else if f=("sorted":Str)/\qr S f=true/\S.G.no f=true/\aG a=true thenλY=>(rx n S [a] Y).bind cM else ag
     |_=>ag)
    |_=>ag)
   |_=>ag)
  |_=>ag
noncomputable def  rv:Nat->Sn->Expr->UQ
 |0=>λ_ _=>ag
 |n+1=>λS e=>match e with
  |.Call (.Name f _) [a] [] _=>if f=("range":Str)/\qr S f=true/\S.G.no f=true/\qr S "list"=true/\S.G.no "list"=true/\aG a=true thenλY=>(rx n S [a] Y).bind Pp else ag
  |_=>ag
noncomputable def  rqs:Nat->Sn->U8->UT
 |0=>λ_ _=>ag
 |n+1=>λS es=>match es with
  |[]=>λ_=>!true
  |[c]=>rq n S c
  |_=>ag
noncomputable def  rj:Nat->Sn->Expr->Expr->UQ
 |0=>λ_ _ _=>ag
 |n+1=>λS tg e=>a8 (match e with
  |.Call (.Name f _) [a] [] _=>if f=("range":Str)/\qr S f=true/\S.G.no f=true/\aG a=true thenλY=>(rx n S [a] Y).bind jU
   else if f=("enumerate":Str)/\qr S f=true/\S.G.no f=true/\aG a=true/\Nt tg=true thenλY=>(rx n S [a] Y).bind xi
   else if f=("reversed":Str)/\qr S f=true/\S.G.no f=true/\aG a=true thenλY=>(rx n S [a] Y).bind Pn else ag
  |.Call (.Name f _) [a,b] [] _=>if f=("zip":Str)/\qr S f=true/\S.G.no f=true/\aG a=true/\aG b=true/\Nt tg=true thenλY=>(rx n S [a,b] Y).bind yN else ag
  |_=>ag) λY=>(rd n S e Y).bind seqD
end
section
variable{X:Cx}{S:Sn}{e:Expr}{es:U8}{pos:Pos}
def PP.u(h:PP X e f)(g:iK e=false):PPu X e f:=λO Y=>(h O Y).pu g
def PPu.p(h:PPu X e f):PP X e f:=λO Y=>(h O Y).1
def PF.u(h:PF X e f)(g:iK e=false):PFu X e f:=λO Y=>(h O Y).pu g
def ua:PQ X e ag:=λO Y pins s σ H Q I ⟨_,_,q,_⟩=>by cases q
def BX:PWQ X e ag:=λO Y g pins s σ H Q I ⟨_,_,q,_⟩=>by cases q
def Ht:PX X es ag:=λO Y pos pins s σ H Q I ⟨_,_,q,_⟩=>by cases q
def BY:IM X es ag:=λO Y pins s σ H Q I ⟨_,_,q,_⟩=>by cases q
def xB:PJ X tg e ag:=λO Y pins s σ H R I ⟨_,_,q,_⟩=>by cases q
def JM{e}:Eu X e ag:=λO Y pins s σ H Q I ⟨_,_,q,_⟩=>by cases q
def Nu(h1:PJ X tg e f)(h2:PJ X tg e g):PJ X tg e (a8 f g):=λO Y pins s σ H R I ⟨E,ds,q,k⟩=>by
 rcases or_some q with q|q
 .exact h1 O Y pins s σ H R I ⟨E,ds,q,k⟩
 .exact h2 O Y pins s σ H R I ⟨E,ds,q,k⟩
def Fy{K}(h:tP K O Y (o.map D.lst) σ H Q):Mn K O Y o σ H Q:=by
 let⟨E,d,e,k⟩:=h;cases o with
 |none=>cases e
 |some ds=>
  cases e;refine⟨E,ds,rfl,λp xs H' s g l=>?_⟩;have j:=(E.grow s).fresh g;exact k _ _ (s.trans (Same.new g)) ⟨p,xs,rfl,.of (by rw[aN j,ai]),IsL.mono (Same.new g).msk _ _ l⟩
def PFu.pp(h:PFu X e f):PPu X e (λY=>(f Y).map D.lst):=λO Y=>(h O Y).imp λσ H Q q=>Fy q
def JN(h1:PFu X e f)(h2:PFu X e g):PFu X e (a8 f g):=λO Y=>(h1 O Y).by2 (h2 O Y) λσ H Q ⟨E,ds,q,k⟩=>by
 rcases or_some q with q|q;all_goals grind
def BZ(r:X.calm=true)(C:CSc X scope ks)(hi:PJ X tg iter I)(o:∀C s H fp,IK (!12) ks tg g)(j:∀C s H fp,IM (!12) ifs t)(p:∀C s H fp,PP (!12) elt J)(l:∀x,foldedSetIterable iter X.env x=pure x):PFu X (!9) (af ks I g t J):=λO Y=>
 (w9 r C (hi O Y) (λC s H fp=>PG.ex λz:(U5)×Vv×D=>o C s H fp z.1 z.2.1 z.2.2) (λC s H fp=>PTs.ex λz:(U5)×Vv=>j C s H fp z.1 z.2) (λC s H fp=>PE.ex λz:(U5)×Vv=>p C s H fp z.1 z.2) l).imp λσ H Q h=>AD h
def Fz(r:X.calm=true)(C:CSc X scope ks)(hi:PJ X tg iter I)(o:∀C s H fp,IK (!12) ks tg g)(j:∀C s H fp,IM (!12) ifs t)(p:∀C s H fp,tK (!12) elt J)(l:∀x,foldedSetIterable iter X.env x=pure x):tK X (!9) (λY=>(af ks I g t J Y).bind λds=>!(.lst ds)):=λY=>
 (w9 r C (hi mD Y) (λC s H fp=>PG.ex λz:(U5)×Vv×D=>o C s H fp z.1 z.2.1 z.2.2) (λC s H fp=>PTs.ex λz:(U5)×Vv=>j C s H fp z.1 z.2) (λC s H fp=>PE.ex λz:Vv=>(p C s H fp z).1) l).imp λσ H Q h=>vx h
def FA(c:Const):PP X (.Constant c j pos) (BS c):=by
 cases c<;>first|exact pp_int|exact pp_bl|exact pp_non|exact pp_str|exact pp_no
structure Snd(n:Nat):Prop where
 rd:∀X S,SnOk X S->∀e,PPu X e (rd n S e)
 rl:∀X S,SnOk X S->∀op vs p,PP X (.BoolOp op vs p) (rl n S op vs p)
 rq:∀X S,SnOk X S->∀e,PQ X e (rq n S e)
 rb:∀X S,SnOk X S->∀op vs p,PWQ X (.BoolOp op vs p) (rb n S op vs p)
 rx:∀X S,SnOk X S->∀es,PX X es (rx n S es)
 ro:∀X S,SnOk X S->∀e,Eu X e (ro n S e)
 rf:∀X S,SnOk X S->∀e,PFu X e (rf n S e)
 rv:∀X S,SnOk X S->∀e p q,PFu X (.Call (.Name "list" p) [e] [] q) (rv n S e)
 rqs:∀X S,SnOk X S->∀es,IM X es (rqs n S es)
 rj:∀X S,SnOk X S->∀tg e,PJ X tg e (rj n S tg e)
def lastM(h:kx c=true):lastMarks [.LtE,.LtE] [b,c]=false:=noSet_mark h
def Q0(n:Nat)(I:Snd n)(o:SnOk X S)(e:Expr):PPu X e (rd (n+1) S e):=by
 have P:=λe=>(I.rd X S o e).p;have no:PPu X e ag:=re;unfold L2.rd;split
 .exact(FA _).u rfl
 .exact(vQ o _).u rfl
 .split
  .exact(I.rf X S o _).pp
  .exact(No _ (P _) (P _)).u rfl
 .split
  .exact(IE (P _)).u rfl
  .exact(IS (P _)).u rfl
  .exact no
 .exact(I.rl X S o _ _ _).u rfl
 .split
  .exact(Np o _ (P _) (P _)).u rfl
  .split
   .rename_i h;exact(pp_lele (P _) (P _) (P _) (lastM h)).u rfl
   .exact no
  .exact no
 .exact(MJ (I.rq X S o _) (P _) (P _)).u rfl
 .exact(Ay (I.rx X S o _)).u rfl
 .split
  .exact(Ji (vQ o _) (λC Ca h1 h2=>o.g.fl C _ Ca h1 h2) rfl).u rfl
  .exact no
 .split
  .exact vt ((IU (P _) (I.ro X S o _) (I.ro X S o _)).u rfl) ((AT (P _) (I.ro X S o _) (I.ro X S o _)).u rfl).pp
  .split
   .rename_i h;exact(pp_ix (P _) (P _) (noSl_ok h)).u rfl
   .exact no
 .split
  .split
   .split
    .exact no
    .split
     .rename_i b hb;let⟨_,_,he,rfl,h1,h2,h3,h4,h5⟩:=zc hb;cases he;let⟨ok,gl⟩:=aX o h1;let⟨ok2,gl2⟩:=aX o h3;exact(Ju o.calm gl (o.g.no _ h2) gl2 (o.g.no _ h4) (I.rx X S o _) (star1 h5)).u rfl
     .refine vt ?_ (I.rf X S o _).pp;split
      .rename_i h;exact(k_call o _ (I.rx X S o _) h).u rfl
      .exact re
   .split
    .split
     .split
      .rename_i h;unfold Hs at h;rw[and_eq_true,and_eq_true]at h;exactλO Y=>(Jk (yR (vQ o _) (λC k f q=>o.g.mt _ C k f q) o.room h.2 O Y)).pu rfl
      .exact no
     .exact no
    .exact no
   .exact no
  .exact no
 .exact(I.rf X S o _).pp
def Q1(n:Nat)(I:Snd n)(o:SnOk X S)(op:BoolOp)(vs:U8)(p:Pos):PP X (.BoolOp op vs p) (rl (n+1) S op vs p):=by
 have P:=λe=>(I.rd X S o e).p;unfold L2.rl;split
 .exact IC (P _)
 .exact ID (P _) (I.rl X S o _ _ _)
 .exact MI (P _) (I.rl X S o _ _ _)
 .exact pp_no
def Q2(n:Nat)(I:Snd n)(o:SnOk X S)(e:Expr):PQ X e (rq (n+1) S e):=by
 have P:=λe=>(I.rd X S o e).p;unfold L2.rq;split
 .split
  .exact IF (I.rq X S o _)
  .exact ua
 .exact(I.rb X S o _ _ _).pq
 .split
  .exact JK o _ (P _) (P _)
  .split
   .rename_i h;exact pq_lele (P _) (P _) (P _) (lastM h)
   .exact ua
  .exact ua
 .split
  .rename_i h;exact pq_val (P _) (plainT_ok h)
  .exact ua
def Q3(n:Nat)(I:Snd n)(o:SnOk X S)(op:BoolOp)(g:U8)(p:Pos):PWQ X (.BoolOp op g p) (rb (n+1) S op g p):=by
 unfold L2.rb;split
 .exact pw_and1D (I.rq X S o _)
 .exact pw_or1D (I.rq X S o _)
 .exact pw_andD (I.rq X S o _) (I.rb X S o _ _ _)
 .exact pw_orD (I.rq X S o _) (I.rb X S o _ _ _)
 .exact BX
def Q4(n:Nat)(I:Snd n)(o:SnOk X S)(es:U8):PX X es (rx (n+1) S es):=by
 unfold L2.rx;split
 .exact vj
 .split
  .rename_i h;exact px_cons (I.rd X S o _).p (I.rx X S o _) (star1 h)
  .exact Ht
def Q5(n:Nat)(I:Snd n)(o:SnOk X S)(e:Option Expr):Eu X e (ro (n+1) S e):=by
 unfold L2.ro;split
 .exact AR
 .exact AS (I.rd X S o _).p
def Nv(n:Nat)(I:Snd n)(o:SnOk X S)(es:U8):IM X es (rqs (n+1) S es):=by
 unfold L2.rqs;split
 .exact Ep
 .exact Er (I.rq X S o _)
 .exact BY
def JO:bootBuiltins "list"=!(.type "list"):=by decide+kernel
def Q6(n:Nat)(I:Snd n)(o:SnOk X S)(e:Expr):PFu X e (rf (n+1) S e):=by
 have P:=λe=>(I.rd X S o e).p;unfold L2.rf;split
 .exact(IG (I.rx X S o _)).u rfl
 .split
  .rename_i g;split
   .rename_i h;rw[and_eq_true,and_eq_true]at h;let⟨tg,iter,ifs,as⟩:=g;have t:as=0:=Vk h.2;subst t;have j:=t9 o h.1.1;exact BZ o.calm (vT o h.1.1) (I.rj X S o _ _) (λC s H fp=>(Hr (j C s H fp) n).1 tg) (λC s H fp=>I.rqs _ _ (j C s H fp) _) (λC s H fp=>(I.rd _ _ (j C s H fp) _).p) (gK h.1.2)
   .exact dc
  .exact dc
 .split
  .exact(AT (P _) (I.ro X S o _) (I.ro X S o _)).u rfl
  .exact dc
 .split
  .refine(Jq ?_ (P _)).u rfl;split
   .exact(vt (I.rd X S o _) (I.rf X S o _).pp).p
   .exact P _
  .exact dc
 .split
  .split
   .split
    .split
     .rename_i h;let⟨rfl,h1,h2,l⟩:=h;let⟨ok,r⟩:=aX o h1;exact JN (I.rv X S o _ _ _) ((Ei r (o.g.no _ h2) JO (I.rx X S o _) (star1 l)).u rfl)
     .split
      .rename_i h;let⟨rfl,h1,h2,l⟩:=h;let⟨ok,r⟩:=aX o h1;exact(Bv o.room r (o.g.no _ h2) (I.rx X S o _) (star1 l)).u rfl
      .exact dc
    .exact dc
   .exact dc
  .exact dc
 .exact dc
def Q7(n:Nat)(I:Snd n)(o:SnOk X S)(e:Expr)(p q:Pos):PFu X (.Call (.Name "list" p) [e] [] q) (rv (n+1) S e):=by
 unfold L2.rv;split
 .split
  .rename_i h;let⟨rfl,h1,h2,C,t,r⟩:=h;let⟨ok,J⟩:=aX o h1;let⟨l,j⟩:=aX o C;exact(Fh o.calm j (o.g.no _ t) J (o.g.no _ h2) (I.rx X S o _) (star1 r)).u rfl
  .exact dc
 .exact dc
def Q8(n:Nat)(I:Snd n)(o:SnOk X S)(tg e:Expr):PJ X tg e (rj (n+1) S tg e):=by
 unfold L2.rj;refine Nu ?_ (IJ (I.rd X S o _).p);split
 .split
  .rename_i h;let⟨rfl,h1,h2,h3⟩:=h;let⟨ok,gl⟩:=aX o h1;exact yJ gl (o.g.no _ h2) (I.rx X S o _) (star1 h3)
  .split
   .rename_i h;let⟨rfl,h1,h2,h3,h4⟩:=h;let⟨ok,gl⟩:=aX o h1;cases tg<;>first
     |exact Jp gl (o.g.no _ h2) (I.rx X S o _) (star1 h3)
     |cases h4
   .split
    .rename_i h;let⟨rfl,h1,h2,h3⟩:=h;let⟨ok,gl⟩:=aX o h1;exact M6 gl (o.g.no _ h2) (I.rx X S o _) (star1 h3)
    .exact xB
 .split
  .rename_i h;let⟨rfl,h1,h2,h3,h4,h5⟩:=h;let⟨ok,gl⟩:=aX o h1;cases tg<;>first
    |exact IR gl (o.g.no _ h2) (I.rx X S o _) (by rw[star1 h3,star1 h4];rfl) (star1 h4)
    |cases h5
  .exact xB
 .exact xB
def sound:∀n,Snd n
 |0=>⟨λ_ _ _ _=>re,λ_ _ _ _ _ _=>pp_no,λ_ _ _ _=>ua,λ_ _ _ _ _ _=>BX,λ_ _ _ _=>Ht,λ_ _ _ _=>JM,λ_ _ _ _=>dc,λ_ _ _ _ _ _=>dc,λ_ _ _ _=>BY,λ_ _ _ _ _=>xB⟩
 |n+1=>⟨λX S o e=>Q0 n (sound n) o e,λX S o op vs p=>Q1 n (sound n) o op vs p,λX S o e=>Q2 n (sound n) o e,λX S o op vs p=>Q3 n (sound n) o op vs p,λX S o es=>Q4 n (sound n) o es,λX S o e=>Q5 n (sound n) o e,
  λX S o e=>Q6 n (sound n) o e,λX S o e p q=>Q7 n (sound n) o e p q,λX S o es=>Nv n (sound n) o es,λX S o tg e=>Q8 n (sound n) o tg e⟩
end
mutual
noncomputable def  fr:Nat->Sn->Expr->UR
 |0=>λ_ _=>ag
 |n+1=>λS e=>a8 (λY=>sC (rd n S e Y)) (a8 (λY=>jm (rf n S e Y)) (match e with
  |.List es _=>λY=>(bJ (Nw n S es Y)).bind λds=>!(.lst ds)
  |.Tuple es _ _=>λY=>(bJ (Nw n S es Y)).bind λds=>!(.tup ds)
  |.Dict [] [] _=>λ_=>!(.dct [] [])
  |.ListComp elt [g] sc _=>if kz S sc&&kx g.iter&&decide (g.is_async=0)then
   λY=>(af (vR S.N sc.names) (rj n S g.target g.iter) (Nq {S with nm:=sc.names} n g.target) (rqs n {S with nm:=sc.names} g.ifs) (fr n {S with nm:=sc.names} elt) Y).bind λds=>!(.lst ds)else ag
  |.Call (.Name f _) (a::as) [] _=>if(a::as).all aG thenλY=>(rx n S (a::as) Y).bind (BM S f)else ag
  |_=>ag))
noncomputable def  Nw:Nat->Sn->U8->UQ
 |0=>λ_ _=>ag
 |n+1=>λS es=>match es with
  |[]=>λ_=>![]
  |a::as=>if aG a then ac (fr n S a) (Nw n S as)else ag
end
def B0:vq X es ag:=λY pos pins s σ H Q I ⟨_,_,q,_⟩=>by cases q
def Q9:∀n,(∀X S,SnOk X S->∀e,tK X e (fr n S e))/\∀X S,SnOk X S->∀es,vq X es (Nw n S es):=by
 intro n;induction n with
 |zero=>exact⟨λX S o e=>tL,λX S o es=>B0⟩
 |succ n j=>
  refine⟨λX S o e=>?_,λX S o es=>?_⟩
  .unfold fr;refine Hj (MR ((sound n).rd X S o e)) (Hj (AU ((sound n).rf X S o e)) ?_);split
   .exact IX (j.2 X S o _)
   .exact IY (j.2 X S o _)
   .exact Jw
   .rename_i elt g t p;split
    .rename_i h;rw[and_eq_true,and_eq_true]at h;let⟨tg,iter,ifs,as⟩:=g;have r:=Vk h.2;subst r;have l:=t9 o h.1.1;exact Fz o.calm (vT o h.1.1) ((sound n).rj X S o _ _) (λC s H fp=>(Hr (l C s H fp) n).1 tg) (λC s H fp=>(sound n).rqs _ _ (l C s H fp) _) (λC s H fp=>j.1 _ _ (l C s H fp) _) (gK h.1.2)
    .exact tL
   .split
    .rename_i h;exact k_callR o _ ((sound n).rx X S o _) h
    .exact tL
   .exact tL
  .unfold Nw;split
   .exact Ey
   .split
    .rename_i h;exact frs_cons (j.1 X S o _) (j.2 X S o _) (star1 h)
    .exact B0
def  ev(n:Nat)(S:Sn)(e:Expr):UU:=a8 (mE (fr n S e)) (a8 (qk (rf n S e)) (a8 (vz (rd n S e)) (Ez (rd n S e))))
def s_ev(n:Nat)(o:SnOk X S)(e:Expr):pE X e (ev n S e):=xa (Hk ((Q9 n).1 X S o e)) (xa (AV ((sound n).rf X S o e)) (xa (Hl ((sound n).rd X S o e)) (MS ((sound n).rd X S o e))))
structure TnOk(X:Cx)(S:Sn):Prop where
 s:SnOk X S
 fn:∀x,X.fn x=true
 nox:X.xe=λ_ _=>False
 nm:X.env.scope.names=S.nm
def  ub(S:Sn)(x:Str):Option Nat:=if fS x&&(decide (S.nm.lookup x=some .local)||decide (S.nm.lookup x=some .cell))then rh S.N x else none
def  noO':US:=λ_=>none
def  Hu:Expr->Bool
 |.Constant (.str _) _ _=>true
 |_=>false
noncomputable def  eX:Expr->Option Str
 |.Name x _=>!x
 |_=>none
noncomputable def  vV:Expr->Bool
 |.Call _ _ _ _=>true
 |.Name _ _=>true
 |.Subscript _ _ _=>true
 |_=>false
def  Ra(n:Nat)(S:Sn):Option Expr->US
 |none=>λ_=>!(.rt (.deep,.non))
 |some e=>match eX e with
  |some x=>(match cA S x with|some i=>λY=>(gJ Y i).bind λs=>!(.rt s)|none=>dO (ev n S e))
  |none=>dO (ev n S e)
def  B3(n:Nat)(S:Sn)(t e:Expr):US:=match t with
 |.Name x _=>(match ub S x with|some i=>av i (ev n S e)|none=>noO')
 |.Subscript o k _=>(match eX o with
  |some x=>if BV k&&not (iK e) then(match cA S x with|some i=>a8 (jY i (rd n S k) (ev n S e)) (Bj i (rd n S k) (rd n S e))|none=>noO')else noO'
  |none=>noO')
 |.Tuple ts k p=>if vV e then a8 (EJ (rd n S e) (DF S n (.Tuple ts k p))) (Jc (rd n S e) (DF S n (.Tuple ts k p)))else noO'
 |_=>noO'
def  SK(n:Nat)(S:Sn)(ts:U8)(e:Expr):US:=match ts with
 |[t]=>B3 n S t e
 |_=>noO'
def  mH(i j:Nat)(g:UU)(R:UR):US:=a8 (gq i g) (gq i λY=>vz R (frzS [j] Y))
def  Ul:Expr->Bool
 |.ListComp (.List _ _) _ _ _=>true
 |_=>false
def  Pu:Expr->Option (Expr×Expr×Expr)
 |.IfExp c a b _=>!(c,a,b)
 |_=>none
def  Pv(n:Nat)(S:Sn)(e:Expr):UU:=match(eX e).bind (cA S)with
 |some j=>Jh j
 |none=>ev n S e
def  Rb(ts:U8):Option Str:=match ts with
 |[_,b]=>(eX b).bind λy=>if y=("part":Str)then !y else none
 |_=>none
def  Nx:Expr->Option Str
 |.Tuple ts _ _=>Rb ts
 |e=>eX e
def  JP(n:Nat)(S:Sn)(i:Nat)(m:Str)(e:Expr):US:=if m=("append":Str)then(match(Nx e).bind (cA S)with
 |some j=>mH i j (ev n S e) (rd n S e)
 |none=>match Pu e with
  |some (c,a,b)=>gq i (A4 (rq n S c) (Pv n S a) (Pv n S b))
  |none=>gq i (ev n S e))else if m=("extend":Str)then(if Ul e then a8 (lB i (rd n S e)) (Nj i (ev n S e))else lB i (rd n S e))else noO'
def  Rc(n:Nat)(S:Sn)(o:Expr)(m:Str)(e:Expr):US:=match o with
 |.Name x _=>(match cA S x with|some i=>JP n S i m e|none=>noO')
 |_=>noO'
noncomputable def  xC:Expr->Option (Expr×Str×Pos×Expr×Pos)
 |.Call (.Attribute o m apos) [e] [] cpos=>!(o,m,apos,e,cpos)
 |_=>none
noncomputable def  FC:Expr->Option (Expr×Pos×Expr×Expr×Pos)
 |.Call (.Attribute o m apos) [a,b] [] cpos=>if m=("insert":Str)then !(o,apos,a,b,cpos)else none
 |_=>none
noncomputable def  JQ:Expr->Option Str
 |.Call (.Attribute (.Name x _) m apos) [] [] cpos=>if m=("clear":Str)/\(apos.endLine==cpos.line)=true then !x else none
 |_=>none
def  Re(n:Nat)(S:Sn)(o a b:Expr):US:=match o with
 |.Name x _=>(match cA S x with|some i=>Bw i (rd n S a) (rd n S b)|none=>noO')
 |_=>noO'
def  Rf(n:Nat)(S:Sn)(e:Expr):US:=match FC e with
 |some (o,apos,a,b,cpos)=>if aG a&&aG b&&(apos.endLine==cpos.line)then Re n S o a b else noO'
 |none=>match(JQ e).bind (cA S)with
  |some i=>Fq i
  |none=>if iK e then noO' else jH (rd n S e)
def  Rg(n:Nat)(S:Sn)(e:Expr):US:=if Hu e thenλY=>!(.nx Y)else match xC e with
 |some (o,m,apos,a,cpos)=>if aG a&&(apos.endLine==cpos.line)then Rc n S o m a else noO'
 |none=>Rf n S e
noncomputable def  Ny:List Stmt->Bool
 |.Assign [.Name _ _] (.Subscript _ _ _) _::_=>true
 |[.Expr (.Call (.Attribute (.Name _ _) _ _) [_] [] _) _]=>true
 |[.For _ _ _ _ _]=>true
 |_=>false
def  Rh(S:Sn)(iter:Expr)(body:List Stmt):Option Nat:=if Ny body then(eX iter).bind (cA S)else none
def  SL(tg iter:Expr)(body:List Stmt):Option (Str×Str×Expr):=match tg,iter,body with
 |.Name p _,.Name h _,[.Expr (.Call (.Attribute (.Name p2 _) m2 a2) [e] [] c2) _,.Expr (.Call (.Attribute (.Name p1 _) m1 a1) [] [] c1) _]=>if p1=p/\p2=p/\m1=("reverse":Str)/\m2=("append":Str)/\(a1.endLine==c1.line)=true/\(a2.endLine==c2.line)=true/\aG e=true then !(h,p,e)else none
 |_,_,_=>none
def  JR(S:Sn)(tg iter:Expr)(body:List Stmt):Option (Nat×Nat×Expr):=(SL tg iter body).bind λz=>(cA S z.1).bind λih=>(ub S z.2.1).bind λip=>if ih≠ip then !(ih,ip,z.2.2)else none
mutual
noncomputable def  ex:Nat->Sn->Stmt->US
 |0=>λ_ _=>noO'
 |n+1=>λS st=>match st with
  |.Return v _=>Ra n S v
  |.Assign ts e _=>SK n S ts e
  |.If c a b _=>eV (rq n S c) (zF n S a) (zF n S b)
  |.For tg iter body els _=>if els.isEmpty&&kx iter then(match JR S tg iter body with
   |some z=>JG z.1 z.2.1 (rd n S z.2.2)
   |none=>match Rh S iter body with
   |some i=>a8 (iL (rj n S tg iter) (DF S n tg) (zF n S body)) (a8 (λY=>iL (rj n S tg iter) (DF S n tg) (zF n S body) (frzS [i] Y)) (AY (rj n S tg iter) (DF S n tg) (zF n S body)))
   |none=>a8 (iL (rj n S tg iter) (DF S n tg) (zF n S body)) (AY (rj n S tg iter) (DF S n tg) (zF n S body)))else noO'
  |.While c body els _=>if els.isEmpty then Lv (rq n S c) (zF n S body)else noO'
  |.Pass _=>λY=>!(.nx Y)
  |.Expr e _=>Rg n S e
  |_=>noO'
noncomputable def  zF:Nat->Sn->List Stmt->US
 |0=>λ_ _=>noO'
 |n+1=>λS st=>match st with
  |[]=>λY=>!(.nx Y)
  |s::r=>ab (ex n S s) (zF n S r)
end
section
variable{X:Cx}{S:Sn}
def oq(o:TnOk X S)(h:ub S x=!i):fS x=true/\DB X.env.scope x/\X.N[i]?=!x:=by
 unfold ub at h;split at h
 .rename_i c;rw[and_eq_true,Bool.or_eq_true]at c;refine⟨c.1,?_,by rw[o.s.N];exact gt h⟩;rcases c.2 with c|c
  .exact .inl (o.s.loc _ (Vk c))
  .exact .inr (o.s.cel _ (Vk c))
 .cases h
def swaps_name(e:Expr)(x:Str)(p:Pos)(l:Nat)(env:Env):swapsWith e (!(.Name x p)) l env=pure false\/(swapsWith e (!(.Name x p)) l env=pure true/\env.scope.names.lookup x=some .local):=by
 have key:∀(g o j:Bool),(pure (g&&(env.kindOf x==some .local)&&o&&j):Sem Bool)=pure false\/((pure (g&&(env.kindOf x==some .local)&&o&&j):Sem Bool)=pure true/\env.scope.names.lookup x=some .local):=λg o j=>by
  cases C:(env.kindOf x==!NameKind.local)with
  |false=>left;cases g<;>rfl
  |true=>
   have t:env.scope.names.lookup x=some .local:=by
    have r:env.kindOf x=some .local:=by simpa using C
    exact r
   cases g<;>cases o<;>cases j<;>first|exact .inl rfl|exact .inr ⟨rfl,t⟩
 cases e<;>first
  |exact .inl rfl
  |exact key _ _ _
def cC{st}:PR X st noO':=tM
def eY(h:fS x=true):(!6)=false/\(!14)=false:=⟨(df h).1,(df h).2.1⟩
def B4(h:BV o=true):∀v,assign (.Subscript (.Name x p) o g) env v=(do
  let j<-holding [v] (eval (.Name x p) env)
  let l<-holding [v,j] (eval o env)
  standAt g
  holding [v,j,l] (setItem j l v)
  release [v,j,l] []):=by
 intro v
 cases o<;>first|rfl|cases h
def mZ(h:iK e=false):swapsWithSole [t] e l env=pure false:=by
 exact nR h _ _ _
def xD:swappedStores [.Subscript (.Name x j) l g] e env=pure none:=by
 cases e<;>rfl
def uc(h:vV e=true):swappedStores [t] e env=pure none:=by
 cases e<;>first|rfl|(cases t<;>rfl)|cases h
def ot(h:vV e=true):iK e=false:=by
 cases e<;>first|rfl|cases h
def fE(h:eX e=!x):∃p,e=.Name x p:=by
 cases e<;>first|(cases h;exact⟨_,rfl⟩)|cases h
def vW(h:Hu e=true):∃x k p,e=.Constant (.str x) k p:=by
 cases e with
 |Constant c k p=>cases c<;>first|exact⟨_,_,_,rfl⟩|cases h
 |_=>cases h
def vX(h:xC e=!(o,m,ap,a,cp)):e=.Call (.Attribute o m ap) [a] [] cp:=by
 unfold xC at h;grind
def Nz(n:Nat)(o:TnOk X S)(v:Option Expr){pos:Pos}:PR X (.Return v pos) (Ra n S v):=by
 cases v with
 |none=>exact EB
 |some e=>
  unfold Ra;dsimp only;cases h:eX e with
  |none=>exact vA (s_ev n o.s _)
  |some x=>
   let⟨p,rfl⟩:=fE h;dsimp only;cases hi:cA S x with
   |none=>exact vA (s_ev n o.s _)
   |some i=>
    let⟨h1,h2,h3,_⟩:=bu o.s hi;let⟨a,b⟩:=eY h1;exact vB i h3 h2 a b
def JS(n:Nat)(o:TnOk X S)(t e:Expr){pos:Pos}:PR X (.Assign [t] e pos) (B3 n S t e):=by
 have P:=λe=>((sound n).rd X S o.s e).p;cases t with
 |Name x p=>
  unfold B3;dsimp only;cases hi:ub S x with
  |none=>exact cC
  |some i=>
   let⟨h1,h2,g⟩:=oq o hi;exact I0 (by rw[o.s.N];exact o.s.nd) g h2 (s_ev n o.s _) (.inl (o.fn _)) (swaps_name _ _ _ _ _)
 |Subscript j k p=>
  unfold B3;dsimp only;cases l:eX j with
  |none=>exact cC
  |some x=>
   let⟨C,rfl⟩:=fE l;dsimp only;split
   .rename_i h;rw[and_eq_true]at h;cases hi:cA S x with
    |none=>exact cC
    |some i=>
     let⟨h1,h2,g,_⟩:=bu o.s hi;let⟨a,b⟩:=eY h1;exact l9 (Je i (s_ev n o.s _) (P _) g h2 a b (B4 h.1) (mZ (by simpa using h.2)) xD (asg1 rfl)) (Jx i (P _) (P _) g h2 a b (B4 h.1) (mZ (by simpa using h.2)) xD (asg1 rfl))
   .exact cC
 |Tuple r k p=>
  unfold B3;dsimp only;split
  .rename_i h;exact l9 (EK (P _) ((xA o.s o.fn n).1 _) (mZ (ot h)) (uc h) (asg1 rfl)) (EL (P _) ((xA o.s o.fn n).1 _) (mZ (ot h)) (uc h) (asg1 rfl))
  .exact cC
 |_=>exact cC
def NA(n:Nat)(o:TnOk X S)(g:U8)(e:Expr):PR X (.Assign g e pos) (SK n S g e):=by
 cases g with
 |nil=>exact cC
 |cons t r=>cases r with
  |nil=>exact JS n o t e
  |cons _ _=>exact cC
def B5{e c a b:Expr}(h:Pu e=!(c,a,b)):∃p,e=.IfExp c a b p:=by
 unfold Pu at h;split at h
 .cases h;exact⟨_,rfl⟩
 .cases h
def Hv(n:Nat)(o:TnOk X S)(e:Expr):pE X e (Pv n S e):=by
 unfold Pv;cases hn:(eX e).bind (cA S)with
 |none=>exact s_ev n o.s e
 |some j=>
  let⟨x,e1,hi⟩:=VA hn;let⟨px,rfl⟩:=fE e1;let⟨h1,h2,h3,_⟩:=bu o.s hi;let⟨a,b⟩:=eY h1;exact MZ j h3 h2 a b
def JT(n:Nat)(o:TnOk X S){i:Nat}{x:Str}{px ap cp pos:Pos}(m:Str)(e:Expr)(hi:cA S x=!i)(hs:aG e=true)(hl:(ap.endLine==cp.line)=true):PR X (.Expr (.Call (.Attribute (.Name x px) m ap) [e] [] cp) pos) (JP n S i m e):=by
 let⟨h1,h2,h3,_⟩:=bu o.s hi;let⟨a,b⟩:=eY h1;unfold JP;split
 .rename_i hm;subst hm;split
  .exact l9 (i6 i (s_ev n o.s _) h3 h2 a b (star1 hs) hl) (i6 i (Jv _ (Hl ((sound n).rd X S o.s e))) h3 h2 a b (star1 hs) hl)
  .cases hi:Pu e with
   |none=>exact i6 i (s_ev n o.s _) h3 h2 a b (star1 hs) hl
   |some z=>
    let⟨c,u,v⟩:=z;let⟨_,rfl⟩:=B5 hi;exact i6 i (M0 ((sound n).rq X S o.s _) (Hv n o u) (Hv n o v)) h3 h2 a b (star1 hs) hl
 .split
  .rename_i hm;subst hm;have F:=yV (pos:=pos) (px:=px) i ((sound n).rd X S o.s e).p h3 h2 a b (star1 hs) hl;split
   .exact l9 F (vP i (s_ev n o.s _) h3 h2 a b (star1 hs) hl)
   .exact F
  .exact cC
def NB(n:Nat)(o:TnOk X S){ap cp pos:Pos}(ob:Expr)(m:Str)(e:Expr)(hs:aG e=true)(hl:(ap.endLine==cp.line)=true):PR X (.Expr (.Call (.Attribute ob m ap) [e] [] cp) pos) (Rc n S ob m e):=by
 cases ob with
 |Name x p=>
  unfold Rc;dsimp only;cases hi:cA S x with
  |none=>exact cC
  |some i=>exact JT n o m e hi hs hl
 |_=>exact cC
def zd(h:FC e=!(o,ap,a,b,cp)):e=.Call (.Attribute o "insert" ap) [a,b] [] cp:=by
 unfold FC at h;grind
def NC(n:Nat)(o:TnOk X S)(g a b:Expr)(r:aG a=true)(l:aG b=true)(j:(ap.endLine==C.line)=true):PR X (.Expr (.Call (.Attribute g "insert" ap) [a,b] [] C) pos) (Re n S g a b):=by
 have P:=λe=>((sound n).rd X S o.s e).p;cases g with
 |Name x p=>
  unfold Re;dsimp only;cases hi:cA S x with
  |none=>exact cC
  |some i=>
   let⟨h1,h2,t,_⟩:=bu o.s hi;let⟨c,d⟩:=eY h1;exact za i (P _) (P _) t h2 c d (star1 r) (star1 l) j
 |_=>exact cC
def ND(n:Nat)(o:TnOk X S)(e:Expr){pos:Pos}:PR X (.Expr e pos) (Rf n S e):=by
 unfold Rf;cases hm:FC e with
 |some z=>
  let⟨ob,ap,a,b,cp⟩:=z;have:=zd hm;subst this;dsimp only;split
  .rename_i h;rw[and_eq_true,and_eq_true]at h;exact NC n o ob a b h.1.1 h.1.2 h.2
  .exact cC
 |none=>
  dsimp only;cases hc:(JQ e).bind (cA S)with
  |some i=>
   let⟨x,e1,hi⟩:=VA hc;unfold JQ at e1;split at e1
   .let⟨⟨g1,g2⟩,e2⟩:=aw e1;subst g1 e2;let⟨f1,f2,f3,_⟩:=bu o.s hi;let⟨c,d⟩:=eY f1;exact BB i f3 f2 c d g2
   .cases e1
  |none=>
  dsimp only;split
  .exact cC
  .rename_i h;exact EC ((sound n).rd X S o.s e).p (nR (by simpa using h) _ _ _)
def NE(n:Nat)(o:TnOk X S)(e:Expr):PR X (.Expr e pos) (Rg n S e):=by
 unfold Rg;split
 .rename_i h;let⟨x,k,p,rfl⟩:=vW h;exact IZ
 .cases j:xC e with
  |some z=>
   let⟨g,m,ap,a,l⟩:=z;have:=vX j;subst this;dsimp only;split
   .rename_i h;rw[and_eq_true]at h;exact NB n o g m a h.1 h.2
   .exact cC
  |none=>exact ND n o e
def Ri(o:TnOk X S){tg iter:Expr}{body:List Stmt}{z:Nat×Nat×Expr}{pos:Pos}(hz:JR S tg iter body=!z)(pass:PassesOwn (!4) X.A X.env X.xe){R:UR}(he:PP X z.2.2 R):PR X (.For tg iter body [] pos) (JG z.1 z.2.1 R):=by
 unfold JR at hz;let⟨⟨h,p,e⟩,q0,hz⟩:=VA hz;let⟨ih,q1,hz⟩:=VA hz;let⟨ip,q2,hz⟩:=VA hz;let⟨n1,hz⟩:=aw hz;cases hz;unfold SL at q0;split at q0
 .let⟨⟨g1,g2,g3,g4,l1,l2,hs⟩,q9⟩:=aw q0;clear q0;cases q9;subst g1 g2 g3 g4;let⟨a1,a2,a3,_⟩:=bu o.s q1;let⟨b1,b2,b3⟩:=oq o q2;exact Ng pass o.s.calm (by rw[o.s.N];exact o.s.nd) n1 a3 a2 (eY a1).1 (eY a1).2 b3 b2 (eY b1).1 (eY b1).2 (o.fn _) he (star1 hs) l1 l2
 .cases q0
def FD:∀n,(∀X S,TnOk X S->∀st,PR X st (ex n S st))/\∀X S,TnOk X S->∀st,zD X st (zF n S st):=by
 intro n;induction n with
 |zero=>exact⟨λX S o e=>cC,λX S o es=>AX⟩
 |succ n ih=>
  refine⟨λX S o st=>?_,λX S o st=>?_⟩
  .have pass:PassesOwn (!4) X.A X.env X.xe:=by rw[o.nox];exact PassesOwn.never
   unfold ex;cases st with
   |Return v p=>exact Nz n o v
   |Assign ts e p=>exact NA n o ts e
   |If c a b p=>exact MU ((sound n).rq X S o.s _) (ih.2 X S o _) (ih.2 X S o _)
   |For tg iter body els p=>
    dsimp only;split
    .rename_i h;rw[and_eq_true]at h;cases els with
     |nil=>
      have F1:=Jb (pos:=p) pass o.s.calm ((sound n).rj X S o.s tg iter) ((xA o.s o.fn n).1 _) (ih.2 X S o body) (gK h.2);have F2:=EI (pos:=p) pass o.s.calm ((sound n).rj X S o.s tg iter) ((xA o.s o.fn n).1 _) (ih.2 X S o body) (gK h.2);split
      .rename_i z hz;exact Ri o hz pass ((sound n).rd X S o.s _).p
      split
      .exact l9 F1 (l9 (JB _ F1) F2)
      .exact l9 F1 F2
     |cons _ _=>cases h.1
    .exact cC
   |While c body els p=>
    dsimp only;split
    .rename_i h;cases els with
     |nil=>exact BG pass ((sound n).rq X S o.s _) (ih.2 X S o body)
     |cons _ _=>cases h
    .exact cC
   |Pass p=>exact EA
   |Expr e p=>exact NE n o e
   |_=>exact cC
  .unfold zF;cases st with
   |nil=>exact AW
   |cons s r=>exact xc (ih.1 X S o _) (ih.2 X S o _)
end
def  B6:Expr->Option (Str×Str×Str)
 |.Call (.Name f _) [a] [] _=>(match a with|.Attribute o h _=>(eX o).bind λy=>!(f,y,h)|_=>none)
 |_=>none
def vZ(q:B6 e=!(f,y,h)):∃p g ap j,e=.Call (.Name f p) [.Attribute (.Name y g) h ap] [] j:=by
 unfold B6 at q;split at q
 .split at q
  .let⟨z,h1,h2⟩:=VA q;let⟨p,rfl⟩:=fE h1;cases h2;exact⟨_,_,_,_,rfl⟩
  .cases q
 .cases q
def  JU:uR:=λ_ _=>none
def  NF(S:Sn)(x:Addr)(i:Nat)(fl:Str->Bool)(y g f y2 h:Str)(G:uR):uR:=if y2=y/\fl h=true/\qr S f=true then(match S.G.fn f with
 |some (k,ff)=>if k<=S.k then BN x i g h ff G else JU
 |none=>JU)else JU
def  DG:Nat->Sn->Addr->(Str->Bool)->List Stmt->uR
 |0=>λ_ _ _ _=>JU
 |n+1=>λS x fl st=>match st with
  |[]=>A5
  |.Assign [.Attribute (.Name y _) f _] e _::r=>if fl f then(match cA S y with
   |some i=>(match B6 e with
    |some (g,y2,h)=>NF S x i fl y f g y2 h (DG n S x fl r)
    |none=>tN x i f (ev n S e) (DG n S x fl r))
   |none=>JU)else JU
  |s::r=>stI (ex n S s) (DG n S x fl r)
def NG(o:TnOk X S)(c:Cls X.K Ca)(j:∀f,fl f=true->NoAttr X.K Ca f):∀n st,DD X Ca x st (DG n S x fl st):=by
 have no:∀st,DD X Ca x st JU:=λst B O Y dx fd pins s σ H D I ⟨_,_,_,_,q,_⟩=>by cases q
 intro n;induction n with
 |zero=>exactλst=>no st
 |succ n l=>
  intro st;unfold DG;split
  .exact Jl
  .split
   .rename_i h;split
    .rename_i i hi;let⟨h1,h2,r,_⟩:=bu o.s hi;let⟨a,b⟩:=eY h1;split
     .rename_i g y2 hh C;let⟨p,px,ap,cp,rfl⟩:=vZ C;unfold NF;split
      .rename_i U;let⟨rfl,c2,c3⟩:=U;let⟨ok,gl⟩:=aX o.s c3;let⟨t,n2,n3⟩:=df ok;split
       .rename_i k ff T;split
        .rename_i J;exact Ft i (o.s.g.fn _ k ff T) (o.s.room.mono J) gl t (l _) r h2 a b c (j _ h) (j _ c2)
        .exact no _
       .exact no _
      .exact no _
     .exact Jm i (s_ev n o.s _) (l _) r h2 a b (tZ _ _ _ _ _ _) c (j _ h)
    .exact no _
   .exact no _
  .exact ES ((FD n).1 X S o _) (l _)
mutual
noncomputable def  Um(S:Sn)(i0:Nat):Nat->Expr->D->Ev->Option Ev
 |0=>λ_ _ _=>none
 |n+1=>λe=>match e with
  |.Name x _=>(match rK S x with|some i=>if i=i0 thenλ_ _=>none else dq i|none=>λ_ _=>none)
  |.Tuple ts _ _=>if ts.all aG then zE ts.length (NH S i0 n ts)elseλ_ _=>none
  |_=>λ_ _=>none
noncomputable def  NH(S:Sn)(i0:Nat):Nat->U8->U7->Ev->Option Ev
 |0=>λ_ _ _=>none
 |n+1=>λes=>match es with
  |[]=>mF
  |t::ts=>if aG t then cz (Um S i0 n t) (NH S i0 n ts)elseλ_ _=>none
end
end L2
namespace L2
open PySem PySem.Spec PyProof.Rows
def  cI(i:Int):UR:=λ_=>!(.int i)
def  cB(b:Bool):UR:=λ_=>!(.bl b)
def  cN:UR:=λ_=>some .non
def  cS(x:Str):UR:=λ_=>!(.str x)
def  cD(d:D):UR:=λ_=>!d
def  cT(n:String):UR:=λ_=>!(.ty n)
def  va(i:Nat):UR:=λY=>bF Y i
def  FE(a:UR):UR:=λY=>(a Y).bind AO
def  ax:UQ:=λ_=>![]
def  cu(xs:UQ):UR:=λY=>(bJ (xs Y)).bind λds=>!(.tup ds)
def  j8(fl:Str->Str->Bool)(m:Str)(o:UR):UR:=λY=>(o Y).bind (mG fl m)
def  iO(a:UR)(lo hi:Vv->Option (Va)):UR:=a8 (ra a lo hi) λY=>(mC a lo hi Y).map D.lst
def  lj:Vv->Option (Va):=λ_=>!none
def  a6(L:UQ):UR:=λY=>(L Y).map D.lst
def  bf(f:xx)(xs:UQ):UR:=a8 (λY=>(xs Y).bind λds=>b7 (f ds)) (a6 ag)
def  a7(f:U7->U9)(xs:UQ):UR:=a8 (λY=>(xs Y).bind f) (a6 ag)
noncomputable def  ou:U7->U9:=λ_=>none
def  NI(C:Str)(g:U7->Option (List (Str×D)))(xs:UQ):UR:=a8 (λY=>(xs Y).bind λds=>EQ C (g ds)) (a6 ag)
def  wa(o:UR)(xs:UQ)(mt:MT)(k:Nat)(m:Str):UR:=λY=>b7 (km o xs mt k m Y)
def  fV(xs:UQ):UQ:=λY=>bJ (xs Y)
def  l1F(xs:UQ):UQ:=λY=>(xs Y).bind l6
def  liF(xs:UQ):UR:=a8 (λY=>(xs Y).bind ou) (a6 (l1F xs))
def  wb(xs:UQ):UQ:=λY=>(xs Y).bind cM
def  Pw(xs:UQ):UQ:=λY=>(xs Y).bind Pp
def  NJ(xs:UQ):UQ:=λY=>(xs Y).bind Pn
def  Uo(xs:UQ):UR:=λY=>(xs Y).bind Jt
def  Lw(xs:UQ):UQ:=λY=>(xs Y).bind xi
def  DH(xs:UQ)(L:UQ):UR:=a8 (λY=>(xs Y).bind ou) (a6 L)
def  iP(a:UR):UT:=λY=>(a Y).bind pD
def  tQ:UT:=λ_=>!true
def  jX(sp:UQ)(R:UR):UQ:=a8 sp λY=>(R Y).bind seqD
def  NK(xs:UQ):UQ:=λY=>(xs Y).bind jU
def  JV(xs:UQ):UQ:=λY=>(xs Y).bind yN
def  frX(R:UR)(L:UQ)(Sp:UR):UR:=a8 (λY=>sC (R Y)) (a8 (λY=>jm (L Y)) Sp)
def  bi(R:UR)(L:UQ)(Sp:UR):UU:=a8 (mE (frX R L Sp)) (a8 (qk L) (a8 (vz R) (Ez R)))
def  B7(F:UQ):UR:=λY=>(bJ (F Y)).bind λds=>!(.lst ds)
def  uS(F:UQ):UR:=λY=>(bJ (F Y)).bind λds=>!(.tup ds)
def  fCo(ks:U2)(J:UQ)(tg:D->Vv->Option Vv)(t:UT)(F:UR):UR:=λY=>(af ks J tg t F Y).bind λds=>!(.lst ds)
def  Hw(f:xx)(xs:UQ):UR:=λY=>(xs Y).bind λds=>nT (f ds)
def  fNo(xs:UQ):UR:=λY=>(xs Y).bind ou
def  we(i:Nat):US:=λY=>(gJ Y i).bind λs=>!(.rt s)
def  aH:US:=λY=>!(.nx Y)
def  Rj(R:UR)(g:D->Ev->Option Ev):US:=a8 (EJ R g) (Jc R g)
def  iQ(J:UQ)(tg:D->Ev->Option Ev)(F:US):US:=a8 (iL J tg F) (AY J tg F)
def  B8(i:Nat)(J:UQ)(tg:D->Ev->Option Ev)(F:US):US:=a8 (iL J tg F) (a8 (λY=>iL J tg F (frzS [i] Y)) (AY J tg F))
def  Uq:UR:=λ_=>!(.dct [] [])
def  ud(i:Nat)(k:UR)(g:UU)(R:UR):US:=a8 (jY i k g) (Bj i k R)
def  aP(K:Frag)(x:Str)(st:Stmt):Prop:=∃(f:Addr)(oc:Value)(od an:Option Addr)(osl:Array (U1))(kV doc pm cdv ct:Value),nsIn K mainGlobals x=!(!(.ref f))/\
 K.lookup f=!⟨oc,od,.func (PySem.W.fnOf x x (bG st) (aL st) (ah st) .none kV doc pm an cdv ct),osl⟩/\PySem.W.codeIn K cdv x=true/\PySem.W.keepIn K (.ref f)=true
def  jo(K:Frag)(C m qual:Str)(st:Stmt):Prop:=∃(Ca f:Addr)(oc:Value)(od an:Option Addr)(osl:Array (U1))(kV doc pm cdv ct:Value),nsIn K mainGlobals C=!(!(.ref Ca))/\findIn K (.ref Ca) m=!(!(.ref f))/\PySem.W.isFn K (.ref f)=true/\
 K.lookup f=!⟨oc,od,.func (PySem.W.fnOf m qual (bG st) (aL st) (ah st) .none kV doc pm an cdv ct),osl⟩/\PySem.W.codeIn K cdv qual=true/\PySem.W.keepIn K (.ref f)=true
structure TCls(K:Frag)(C:Str):Prop where
 ex:∃Ca:Addr,nsIn K mainGlobals C=!(!(.ref Ca))/\Cls K Ca/\PySem.W.makesIn K Ca=true/\PySem.W.keepIn K (.ref Ca)=true
section
variable{P:Program}{w:World}{K:Frag}{mg:Str->U1}{base:Heap}
abbrev rL(N:U3)(st:Stmt)(k:Nat)(G:Gb):Sn:=⟨N,(ah st).names,k,G⟩
def ue{G:Gb}(g:GbOk P w K mg base G){N ps:U3}{st:Stmt}{k:Nat}{j:Str}{f:Addr}(S:FnScope N ps (ah st))(o:Value)(A:Around)(l:List Env)(s:Shared)(H:Hp)(E:XK)(p:Room k (A.deeper (envOfC j (ah st) s.heap.objs.size f o))):
  TnOk (nq qV P w K mg base N j (ah st) f o A l s H E).nox (rL N st k G) where
 s:=⟨g,rfl,S.nd,rfl,p,λ_ h=>h,λ_ h=>h,λ_ h=>.inr h,λ_ h=>h⟩
 fn:=λ_=>rfl
 nox:=rfl
 nm:=rfl
def  DI(n k:Nat)(N ps:U3)(st:Stmt)(G:Gb):xx:=aI ps.length N.length (zF n (rL N st k G) (aL st))
def  bp(x:Str)(st:Stmt)(ps:U3):Prop:=∀(qual:Str)(kV doc pm:Value)(an:Option Addr)(cdv ct:Value)(us:U0),us.length=ps.length->bindArgs (PySem.W.fnOf x qual (bG st) (aL st) (ah st) .none kV doc pm an cdv ct) ⟨us,[]⟩=pure (ps.zip us)
def NM(g:GbOk P w K mg base G)(KX:K.In h)(U:h.Ns mainGlobals mg){st}(n k:Nat)(S:FnScope N ps (ah st))(b:bp x st ps)(t:aP K x st):Df P w K mg base x (k+1) (DI n k N ps st G):=by
 let⟨f,oc,od,r,I,kV,o,pm,j,ct,h1,h2,h3,p⟩:=t;have Fn:=nu h2 h3 p;refine⟨f,_,ps,PySem.W.mg_of KX U h1,p,Fn.binds λkV o pm r j ct C T=>b x kV o pm r j ct C T,Jg Fn S λj A l s H E J=>?_⟩;exact(FD n).2 _ _ (ue g S j A l s H E J) _
def xF(g:GbOk P w K mg base G){st}(n k:Nat)(S:FnScope N ps (ah st))(b:bp m st ps)(c:TCls K C)(t:jo K C m o st):Mf P w K mg base C m (k+1) (DI n k N ps st G):=by
 let⟨Ca,f,oc,od,J,U,kV,p,pm,j,ct,h0,hf,hi,h2,h3,r⟩:=t;let⟨Cb,I,cl,_,_⟩:=c.ex;rw[h0]at I;cases I;have Fn:=nu h2 h3 r;refine⟨Ca,f,_,ps,h0,cl,⟨hf,hi,r⟩,Fn.binds λkV p pm J j ct T hl=>b o kV p pm J j ct T hl,Jg Fn S λj A l s H E hr=>?_⟩;exact(FD n).2 _ _ (ue g S j A l s H E hr) _
def Hx(g:GbOk P w K mg base G)(KX:K.In h)(hN:h.Ns mainGlobals mg){st}(n k:Nat)(J:Str->Bool)(S:FnScope N ps (ah st))(b:bp "__init__" st ps)(c:TCls K C)(t:jo K C "__init__" o st)(I:∀f,J f=true->∀Ca,nsIn K mainGlobals C=!(!(.ref Ca))->NoAttr K Ca f)(hg:∀ds r,gg ds=!r->∀y,rz ps.length N.length (λy=>DG n (rL N st k G) y J (aL st)) y ds=!r):Mkf P w K mg base C (k+1) gg:=by
 let⟨Ca,f,oc,od,U,osl,kV,p,pm,j,ct,h0,hf,hi,h2,h3,h4⟩:=t;let⟨Cb,T,cl,mk,kp⟩:=c.ex;rw[h0]at T;cases T;have Fn:=nu h2 h3 h4;refine⟨Ca,f,_,ps,PySem.W.mg_of KX hN h0,h0,⟨mk,hf,hi,kp⟩,Fn.binds λkV p pm U j ct us hl=>b o kV p pm U j ct us hl,QN Fn S hg λy j A l s H E hr=>?_⟩;exact NG (ue g S j A l s H E hr) cl (λf q=>I f q Ca h0) n _
end
def  Px(K:Frag):Sp:=λvs H Q _=>∃(a:Addr)(ns:U4),vs=[.ref a]/\SqL K H a (ns.map V.int)/\ns.length<=63/\∀H',Q (.bl true) H'
def xH{K}:∀(ns:U4),IsL K H (ns.map D.int) (ns.map V.int)
 |[]=>rfl
 |n::ns=>⟨_,_,rfl,rfl,xH ns⟩
def JW{K}(F:FnOk P w K mg base qV k a fd ps (Jf K f))(p:∀g:U4,g.length<=63->b7 (f [.lst (g.map D.int)])=!(.bl true)):
  FnOk P w K mg base qV k a fd ps (Px K):=F.imp λC H Q E ⟨b,g,e,h,o,q⟩=>by
 let⟨⟨c,d⟩,t,e2⟩:=VA (p g o)
 cases e2
 refine⟨mD,[.lst _],_,λ_ h=>(nomatch h),?_,t,λv H' r=>?_⟩
 .rw[e,mV];exact⟨_,[],rfl,⟨b,_,rfl,h,xH g⟩,rfl⟩
 .let⟨I,A,_,_,_,_,_,j⟩:=r;have l:v=.bl true:=by
   cases c with
   |sh=>exact j.2
   |top=>let⟨_,_,_,z,_⟩:=j;cases z
   |deep=>exact j.1
  rw[l];exact q H'
def walkL{l:PySem.W.OpenLaw}{K:Params->Frag}(t:l.most=some 63)(g:d.params.defaults=[])(r:Room k callerA)(I:∀(w:World)(h:Heap),j w h->(K w.params).In h)(T:∀(w:World)(h:Heap),j w h->qU (K w.params) h)(F:∀(w:World)(mg:Str->U1)(fa:Addr)(h:Heap),(K w.params).In h->h.Ns mainGlobals mg->mg d.name=!(.ref fa)->
   ∃fd:FuncData,(∀(s:Shared)(u:Value),BindsTo s fd ⟨[u],[]⟩ [("script",u)])/\∀base:Heap,(K w.params).In base->base.Ns mainGlobals mg->FnOk l.prog w (K w.params) mg base qV k fa fd ["script"] (Px (K w.params))):
  PySem.W.WalkO q J XP j l.row.toRowW d [] (λf o=>PySem.call f o):=
 L2.walk_of t (!3) g r I T F (λ_ _ a p C U=>⟨a,p,rfl,U,C,λ_=>rfl⟩) λ_ _ _ _ _ z=>z
noncomputable def  addF(G:Gb)(x:Str)(k:Nat)(f:xx):Gb:={G with fn:=λy=>if y=x then !(k,f)else G.fn y}
def  addM(G:Gb)(m C:Str)(k:Nat)(f:xx):Gb:={G with mt:=λa b=>if a=m/\b=C then !(k,f)else G.mt a b}
def  addI(G:Gb)(C:Str)(k:Nat)(g:U7->Option (List (Str×D))):Gb:={G with ini:=λy=>if y=C then !(k,g)else G.ini y}
section
variable{P:Program}{w:World}{K:Frag}{mg:Str->U1}{base:Heap}{G:Gb}
def GbOk.addF(g:GbOk P w K mg base G)(d:Df P w K mg base x k f):GbOk P w K mg base (addF G x k f):=⟨λy j h e=>by
 have l:(if y=x then !(k,f)else G.fn y)=!(j,h):=e;split at l
 .rename_i z;cases l;rw[z];exact d
 .exact g.fn y j h l,g.cn,g.no,g.fl,g.mt,g.ini⟩
def GbOk.addM(g:GbOk P w K mg base G)(d:Mf P w K mg base C m k f):GbOk P w K mg base (addM G m C k f):=⟨g.fn,g.cn,g.no,g.fl,λa b j h e=>by
 have l:(if a=m/\b=C then !(k,f)else G.mt a b)=!(j,h):=e;split at l
 .rename_i z;cases l;rw[z.1,z.2];exact d
 .exact g.mt a b j h l,g.ini⟩
def GbOk.addI(g:GbOk P w K mg base G)(d:Mkf P w K mg base C k o):GbOk P w K mg base (addI G C k o):=⟨g.fn,g.cn,g.no,g.fl,g.mt,λy j h e=>by
 have l:(if y=C then !(k,o)else G.ini y)=!(j,h):=e;split at l
 .rename_i z;cases l;rw[z];exact d
 .exact g.ini y j h l⟩
end
def evX_lf{R L Sp}(h:R (vw Y)=!d)(f:lfD d=true):bi R L Sp Y=!((.deep,d),Y):=by
 unfold bi a8 mE frX a8 sC;simp[h,f]
def evX_lfs{R L Sp}(h:R (vw Y)=!d)(f:lfD d=false)(g:L (vw Y)=!ds)(j:cF ds=true):bi R L Sp Y=!((.deep,.lst ds),Y):=by
 unfold bi a8 mE frX a8 sC jm;simp[h,g,f,j]
def evX_call{R L Sp}(h:R (vw Y)=!d)(f:lfD d=false)(j:L (vw Y)=none)(g:Sp (vw Y)=!e):bi R L Sp Y=!((.deep,e),Y):=by
 unfold bi a8 mE frX a8 sC jm;simp[h,j,f,g]
def ox{R L Sp}(h:R (vw Y)=!d)(f:lfD d=false)(l:L (vw Y)=none)(j:Sp (vw Y)=none)(g:L (c9 Y)=none)(h2:R (c9 Y)=!d):bi R L Sp Y=!((.sh,d),Y):=by
 unfold bi a8 mE qk vz frX a8 sC jm;grind
def ar(h:F Y=!(.nx Y')):ab F G Y=G Y':=by unfold ab;rw[h];rfl
def aO(h:F Y=!(.rt s)):ab F G Y=!(.rt s):=by unfold ab;rw[h];rfl
def ca(h:g Y=!(s,Y')):av i g Y=!(.nx (Y'.set i (!s))):=by unfold av;rw[h];rfl
def bj(h:g Y=!(s,Y')):dO g Y=!(.rt s):=by unfold dO;rw[h];rfl
def ifS_t(h:c (vw Y)=!true):eV c F G Y=F Y:=by unfold eV;rw[h];rfl
def eZ(h:c (vw Y)=!false):eV c F G Y=G Y:=by unfold eV;rw[h];rfl
def iR{step}:∀(ds:U7)(I:Nat->Ev->Prop)(Y:Ev),I 0 Y->(∀(i:Nat)(d:D)(Y:Ev),ds[i]?=!d->I i Y->∃Y',step d Y=!(.nx Y')/\I (i+1) Y')->∃Y',rg step ds Y=!(.nx Y')/\I ds.length Y'
 |[],I,Y,h0,_=>⟨Y,rfl,h0⟩
 |d::ds,I,Y,h0,hs=>by
  let⟨Y1,e1,i1⟩:=hs 0 d Y rfl h0;let⟨Y2,e2,i2⟩:=iR ds (λi=>I (i+1)) Y1 i1 λi d' Y' h hi=>hs (i+1) d' Y' (by simpa using h) hi;refine⟨Y2,?_,i2⟩;unfold rg;rw[e1];exact e2
def ja(I:Nat->Ev->Prop)(j:J (c9 Y)=!ds)(h0:I 0 Y)(g:∀(i:Nat)(d:D)(Y:Ev),ds[i]?=!d->I i Y->∃Y',(tg d Y).bind F=!(.nx Y')/\I (i+1) Y'):
  ∃Y',iQ J tg F Y=!(.nx Y')/\I ds.length Y':=by
 let⟨Y',e,i⟩:=iR (step:=EH tg F) ds I Y h0 g
 refine⟨Y',?_,i⟩
 unfold iQ a8 iL
 grind
section
variable{Y:Vv}{a b c:UR}{xs:UQ}{i:Int}{n:Nat}
@[simp]def cI_a:cI i Y=!(.int i):=rfl
@[simp]def Ur{b}:cB b Y=!(.bl b):=rfl
@[simp]def Us:cN Y=some .non:=rfl
@[simp]def cS_a{x:Str}:cS x Y=!(.str x):=rfl
@[simp]def Ut:cD d Y=!d:=rfl
@[simp]def JY{n}:cT n Y=!(.ty n):=rfl
@[simp]def SM:(ag Y:Option α)=none:=rfl
@[simp]def va_a:va n Y=bF Y n:=rfl
@[simp]def shAt_0{d:U9}{r:Vv}:bF (d::r) 0=d:=by cases d<;>rfl
@[simp]def shAt_s{d:U9}{r:Vv}{n:Nat}:bF (d::r) (n+1)=bF r n:=by unfold bF;simp
@[simp]def shAt_1{d e:U9}{r:Vv}:bF (d::e::r) 1=e:=by cases e<;>rfl
@[simp]def bin2_a{g}:aa g a b Y=(a Y).bind λx=>(b Y).bind λy=>g x y:=rfl
@[simp]def SN:FE a Y=(a Y).bind AO:=rfl
@[simp]def nilX_a:ax Y=![]:=rfl
@[simp]def consX_a:ac a xs Y=(a Y).bind λd=>(xs Y).bind λr=>!(d::r):=rfl
@[simp]def iS:cu xs Y=(bJ (xs Y)).bind λds=>!(.tup ds):=rfl
@[simp]def B9:j8 fl m a Y=(a Y).bind (mG fl m):=rfl
@[simp]def SO:lj Y=!none:=rfl
@[simp]def Py:aR a Y=(a Y).bind λd=>(nO d).bind λi=>!(!i):=rfl
@[simp]def lsF_a{L}:a6 L Y=(L Y).map D.lst:=rfl
def oy{f g:α->Option j}(h:g x=none):a8 f g x=f x:=by
 unfold a8;cases f x<;>simp[h]
@[simp]def clF_a{f}:bf f xs Y=(xs Y).bind λds=>b7 (f ds):=oy rfl
@[simp]def biF_a{f}:a7 f xs Y=(xs Y).bind f:=oy rfl
@[simp]def xI:NI C g xs Y=(xs Y).bind λds=>EQ C (g ds):=oy rfl
@[simp]def SQ{mt k m}:wa a xs mt k m Y=b7 ((a Y).bind λd=>(xs Y).bind λas=>iM mt k m d as):=rfl
@[simp]def dpF_a:fV xs Y=bJ (xs Y):=rfl
@[simp]def xJ:l1F xs Y=(xs Y).bind l6:=rfl
@[simp]def oz:liF xs Y=((xs Y).bind l6).map D.lst:=by
 unfold liF a8;have:((xs Y).bind ou)=none:=by cases xs Y<;>rfl
 simp[this]
@[simp]def trF_a:iP a Y=(a Y).bind pD:=rfl
@[simp]def tQ_a:tQ Y=!true:=rfl
@[simp]def fCl_a{f}:Hw f xs Y=(xs Y).bind λds=>nT (f ds):=rfl
@[simp]def SR:fNo xs Y=none:=by unfold fNo ou;cases xs Y<;>rfl
@[simp]def NO:B7 F Y=(bJ (F Y)).bind λds=>!(.lst ds):=rfl
@[simp]def NP:uS F Y=(bJ (F Y)).bind λds=>!(.tup ds):=rfl
@[simp]def bH:jX ag R Y=(R Y).bind seqD:=rfl
def d7(h:(xs Y).bind jU=!ds):jX (NK xs) R Y=!ds:=by
 unfold jX a8 NK;simp[h]
def Hy(h:(xs Y).bind yN=!ds):jX (JV xs) R Y=!ds:=by
 unfold jX a8 JV;simp[h]
@[simp]def JZ:pC a b Y=(a Y).bind λx=>x.asB.bind λc=>if c=true then b Y else !(.bl false):=rfl
@[simp]def SS:QC a b Y=(a Y).bind λx=>x.asB.bind λc=>if c=true then !(.bl true)else b Y:=rfl
@[simp]def Rk:Ax a Y=(a Y).bind λx=>x.asB.bind λc=>!(.bl (not c)):=rfl
@[simp]def andQ_a{p q:UT}:Ee p q Y=(p Y).bind λc=>if c=true then q Y else !false:=rfl
@[simp]def mh:nK p q Y=(p Y).bind λc=>if c=true then !true else q Y:=rfl
@[simp]def notQ_a{p:UT}:bB p Y=(p Y).map (not ·):=rfl
@[simp]def xK:Ef p a b Y=(p Y).bind λc=>if c=true then a Y else b Y:=rfl
@[simp]def testB_a:al a Y=(a Y).bind D.asB:=rfl
@[simp]def NQ:dL g g' a b c Y=(a Y).bind λx=>(b Y).bind λy=>(g x y).bind λz=>z.asB.bind λk=>if k=true then(c Y).bind λw=>g' y w else !(.bl false):=rfl
end
@[simp]def asB_bl(b:Bool):D.asB (.bl b)=!b:=rfl
@[simp]def valO_some(s:Sl):b7 (!s)=!s.2:=rfl
@[simp]def wf(d:D):nT (!(.deep,d))=!d:=rfl
@[simp]def addD_ii(i j:Int):aC (.int i) (.int j)=!(.int (i+j)):=rfl
@[simp]def subD_ii(i j:Int):fQ (.int i) (.int j)=!(.int (i-j)):=rfl
@[simp]def wg(i j:Int):nI (.int i) (.int j)=!(.bl (decide (i<j))):=rfl
@[simp]def Rl(i j:Int):nJ (.int i) (.int j)=!(.bl (decide (i<=j))):=rfl
@[simp]def J0(i j:Int):Aw (.int i) (.int j)=!(.bl (decide (j<i))):=rfl
@[simp]def J2(i j:Int):Lr (.int i) (.int j)=!(.bl (decide (j<=i))):=rfl
@[simp]def Rm(i:Int):AO (.int i)=!(.int (-i)):=rfl
@[simp]def Rn(i:Int):nO (.int i)=!i:=rfl
@[simp]def Cc(ds:U7):seqD (.lst ds)=!ds:=rfl
@[simp]def Ro(ds:U7):seqD (.tup ds)=!ds:=rfl
@[simp]def bb(d:D):dM [d]=(seqD d).bind λds=>!(.int ds.length):=rfl
@[simp]def Pz(d:D):l6 [d]=seqD d:=rfl
@[simp]def Cd(d:D):cG [d]=(seqD d).bind λds=>!(.tup ds):=rfl
@[simp]def Rp(i j:Int):QJ [.int i,.int j]=!(.int (if j>i then j else i)):=rfl
@[simp]def Rq(i j:Int):QK [.int i,.int j]=!(.int (if j<i then j else i)):=rfl
@[simp]def truD_bl(b:Bool):pD (.bl b)=!b:=rfl
def xL(h:CMul i j):aJ (.int i) (.int j)=!(.int (i*j)):=by unfold aJ;simp[h]
def rM(h:-18446744073709551616<i)(h2:i<18446744073709551616):aJ (.int i) (.int j)=!(.int (i*j)):=xL (.inl ⟨by omega,by omega⟩)
def Ce(h:-18446744073709551616<j)(h2:j<18446744073709551616):aJ (.int i) (.int j)=!(.int (i*j)):=xL (.inr ⟨by omega,by omega⟩)
def Cf(h:0<j)(h2:j.natAbs.log2<9000):c6 (.int i) (.int j)=!(.int (i/j)):=by unfold c6;exact if_pos ⟨h,h2⟩
def cb(h:0<j)(h2:j<1073741824):c6 (.int i) (.int j)=!(.int (i/j)):=Cf h (Nat.lt_trans ((Nat.log2_lt (!1)).mpr (show j.natAbs<2^30 by omega)) (!3))
def cc(h:0<j):aV (.int i) (.int j)=!(.int (i%j)):=by unfold aV;simp[h]
@[simp]def PB(i:Int):lfD (.int i)=true:=rfl
@[simp]def Rr(b:Bool):lfD (.bl b)=true:=rfl
@[simp]def PC(x:Str):lfD (.str x)=true:=rfl
@[simp]def PD:lfD .non=true:=rfl
@[simp]def FG(ds:U7):lfD (.lst ds)=false:=rfl
@[simp]def PH(ds:U7):lfD (.tup ds)=cF ds:=rfl
@[simp]def PK:cF []=true:=rfl
@[simp]def Cg(d:D)(ds:U7):cF (d::ds)=(lfD d&&cF ds):=rfl
def cf:∀{ds:U7},(∀d∈ds,lfD d=true)->cF ds=true
 |[],_=>rfl
 |d::ds,h=>by simp[h d mem_cons_self,cf λe he=>h e (mem_cons_of_mem _ he)]
@[simp]def Lx:bJ none=none:=rfl
def fG(h:ds.length<big):bJ (!ds)=!ds:=by unfold bJ;simp[h]
@[simp]def Rs:bJ (![])=![]:=fG (!3)
@[simp]def capL_1(a:D):bJ (![a])=![a]:=fG (show 1<big by decide)
@[simp]def capL_2(a b:D):bJ (![a,b])=![a,b]:=fG (show 2<big by decide)
@[simp]def Rt(a b c d e:D):bJ (![a,b,c,d,e])=![a,b,c,d,e]:=fG (show 5<big by decide)
@[simp]def Ru(a b c d e f g h:D):bJ (![a,b,c,d,e,f,g,h])=![a,b,c,d,e,f,g,h]:=fG (show 8<big by decide)
@[simp]def Hz(d c:D):c8 [d,c]=(cq d).bind λT=>(nM c).bind λns=>!(.bl (ns.any (isI T))):=rfl
@[simp]def PL:nM (.ty "int")=!["int"]:=by rfl
@[simp]def NR:nM (.ty "bool")=!["bool"]:=by rfl
@[simp]def PM:nM (.ty "str")=!["str"]:=by rfl
@[simp]def NS:nM (.ty "list")=!["list"]:=by rfl
@[simp]def Ly:nM (.ty "tuple")=!["tuple"]:=by rfl
@[simp]def Ch:nM (.tup [.ty "list",.ty "tuple"])=!["list","tuple"]:=by rfl
@[simp]def Rv(i:Int):cq (.int i)=some "int":=rfl
@[simp]def SU(i:Bool):cq (.bl i)=some "bool":=rfl
@[simp]def Rw(i:Str):cq (.str i)=some "str":=rfl
@[simp]def Rx(i:U7):cq (.tup i)=some "tuple":=rfl
@[simp]def Ry(i:U7):cq (.lst i)=some "list":=rfl
@[simp]def Rz:isI "int" "int"=true:=by decide
@[simp]def RA:isI "int" "bool"=false:=by decide
@[simp]def RB:isI "bool" "bool"=true:=by decide
@[simp]def RC:isI "bool" "int"=true:=by decide
@[simp]def RD:isI "tuple" "list"=false:=by decide
@[simp]def RE:isI "tuple" "tuple"=true:=by decide
@[simp]def Ci:isI "list" "list"=true:=by decide
@[simp]def RF:isI "list" "tuple"=false:=by decide
@[simp]def RG:isI "str" "str"=true:=by decide
@[simp]def jJ(neg:Bool)(i j:Int):aK neg (.int i) (.int j)=!(.bl (if neg then not (decide (i=j))else decide (i=j))):=by
 unfold aK l8;have:decide (nL (.int i)=nL (.int j))=decide (i=j):=by
  show decide (V.int i=V.int j)=_;by_cases h:i=j<;>simp[h]
 rw[this];rfl
@[simp]def xM(neg:Bool)(i j:Str):aK neg (.str i) (.str j)=!(.bl (if neg then not (decide (i=j))else decide (i=j))):=by
 unfold aK l8;have:decide (nL (.str i)=nL (.str j))=decide (i=j):=by
  show decide (V.str i=V.str j)=_;by_cases h:i=j<;>simp[h]
 rw[this];rfl
@[simp]def SV(neg:Bool)(i j:Bool):aK neg (.bl i) (.bl j)=!(.bl (if neg then not (decide (i=j))else decide (i=j))):=by
 unfold aK l8;have:decide (nL (.bl i)=nL (.bl j))=decide (i=j):=by
  show decide (V.bl i=V.bl j)=_;by_cases h:i=j<;>simp[h]
 rw[this];rfl
@[simp]def Uu(ds:U7)(i:Int):am (.lst ds) (.int i)=pj ds i:=rfl
@[simp]def Uv(ds:U7)(i:Int):am (.tup ds) (.int i)=pj ds i:=rfl
def dP{d:D}(h:0<=i)(h2:ds[i.toNat]?=!d):pj ds i=!d:=by
 have g:=(Vh.mp h2).1;unfold pj DC;grind
@[simp]def qu(d:D)(ds:U7):pj (d::ds) 0=!d:=dP (!1) rfl
@[simp]def uf(c d:D)(ds:U7):pj (c::d::ds) 1=!d:=dP (!1) rfl
@[simp]def vw_nil:vw []=[]:=rfl
@[simp]def vw_some(s:Sl)(Y:Ev):vw (some s::Y)=some s.2::vw Y:=rfl
@[simp]def vw_none(Y:Ev):vw (none::Y)=none::vw Y:=rfl
@[simp]def PN:c9 []=[]:=rfl
@[simp]def RH(d:D)(Y:Ev):c9 (some (.sh,d)::Y)=some d::c9 Y:=rfl
@[simp]def NT(Y:Ev):c9 (none::Y)=none::c9 Y:=rfl
@[simp]def NU(d:D)(Y:Ev):c9 (some (.deep,d)::Y)=(if lfD d=true then !d else none)::c9 Y:=rfl
@[simp]def PV(d:D)(Y:Ev):c9 (some (.top,d)::Y)=(if lfD d=true then !d else none)::c9 Y:=rfl
@[simp]def wipe_nil{α:Type}(σ:List (Option α)):gj [] σ=σ:=rfl
@[simp]def wipe_cons{α:Type}(k:Nat)(ks:U2)(σ:List (Option α)):gj (k::ks) σ=gj ks (σ.set k none):=rfl
@[simp]def gNm_a(i:Nat)(d:D)(Y:Vv):gNm i d Y=!(Y.set i (!d)):=rfl
@[simp]def HA(n:Nat)(gs)(ds:U7)(Y:Vv):l7 n gs (.tup ds) Y=if ds.length=n then gs ds Y else none:=rfl
@[simp]def ug(g gs)(d:D)(ds:U7)(Y:Vv):au g gs (d::ds) Y=(g d Y).bind λY1=>gs ds Y1:=rfl
@[simp]def xN(Y:Vv):bt [] Y=!Y:=rfl
@[simp]def SW(i:Nat)(d:D)(Y:Ev):dq i d Y=!(Y.set i (!(.sh,d))):=rfl
@[simp]def SX(n:Nat)(gs)(ds:U7)(Y:Ev):zE n gs (.tup ds) Y=if ds.length=n then gs ds Y else none:=rfl
@[simp]def PY(g gs)(d:D)(ds:U7)(Y:Ev):cz g gs (d::ds) Y=(g d Y).bind λY1=>gs ds Y1:=rfl
@[simp]def RI(Y:Ev):mF [] Y=!Y:=rfl
@[simp]def stepF_a(g ft fe)(Y:Vv)(d:D):qg g ft fe Y d=(g d Y).bind λY1=>(ft Y1).bind λc=>if c=true then(fe Y1).bind λy=>!(!y)else !none:=rfl
def aj(g:ds.length=n)(h:F (aD m ds)=!(.rt s)):aI n m F ds=!s:=by
 unfold aI;rw[if_pos g,h];rfl
def kA(g:ds.length=n)(h:F (aD m ds)=!(.nx Y)):aI n m F ds=!(.deep,.non):=by
 unfold aI;rw[if_pos g,h];rfl
@[simp]def SY(Y:Ev):aH Y=!(.nx Y):=rfl
def oA{β:Type}{step}{mk out}:∀(xs:List β),(∀x∈xs,step (mk x)=!(!(out x)))->jG step (xs.map mk)=!(xs.map out)
 |[],_=>rfl
 |x::xs,h=>by
  rw[List.map_cons];unfold jG;rw[h x mem_cons_self,oA xs λe he=>h e (mem_cons_of_mem _ he)];rfl
def ao{j:Type}{Y:Vv}{xs:List j}{mk out}(o:J Y=!(xs.map mk))(h:∀x∈xs,qg g p r (gj ks Y) (mk x)=!(!(out x)))(l:xs.length<big):af ks J g p r Y=!(xs.map out):=by
 unfold af;rw[o];simp only[Option.bind_some];rw[oA xs h];unfold bJ;simp[l]
def jK{β:Type}{step}{mk out}{p:β->Bool}:∀(xs:List β),(∀x∈xs,step (mk x)=!(if p x then !(out x)else none))->jG step (xs.map mk)=!((xs.filter p).map out)
 |[],_=>rfl
 |x::xs,h=>by
  rw[List.map_cons];unfold jG;rw[h x mem_cons_self,jK xs λe he=>h e (mem_cons_of_mem _ he)];cases hp:p x<;>simp[hp]
def pI{j:Type}{Y:Vv}{xs:List j}{mk out}{p:j->Bool}(l:J Y=!(xs.map mk))(h:∀x∈xs,qg g o r (gj ks Y) (mk x)=!(if p x then !(out x)else none))(t:xs.length<big):af ks J g o r Y=!((xs.filter p).map out):=by
 unfold af;rw[l];simp only[Option.bind_some];rw[jK xs h];unfold bJ;grind
def uh:∀bs:List Bool,tz (bs.map D.bl)=!bs
 |[]=>rfl
 |b::bs=>by
  rw[List.map_cons];unfold tz;rw[uh bs];rfl
def cO{g:Type}(xs:List g)(p:g->Bool):fy [.lst (xs.map λx=>.bl (p x))]=!(.bl (xs.all p)):=by
 have e:xs.map (λx=>D.bl (p x))=(xs.map p).map D.bl:=by rw[List.map_map];rfl
 rw[e];unfold fy tq;simp only[lu,Option.bind_some];rw[uh];simp[List.all_map];rfl
def Cj(h:-1000000<j)(h2:j<1000000):Hg j:=by
 exact⟨by omega,by omega⟩
def xO(hj:Hg j):jU [.int j]=!(mB 0 j.toNat):=by
 unfold jU tq;simp_all
def xP{n:Nat}(h:n<1000000):Hg (n:Int):=Cj (!1) (!1)
def wj:mB 0 n=(!19).map λ(i:Nat)=>D.int (i:Int):=by simp[mB]
def aY{n:Nat}(h:n<1000000):jU [.int (n:Int)]=!((!19).map λ(i:Nat)=>D.int (i:Int)):=by
 rw[xO (xP h),Int.toNat_natCast,wj]
def Ck{j:Int}(h0:0<=j)(h:j<1000000):jU [.int j]=!((List.range j.toNat).map λ(i:Nat)=>D.int (i:Int)):=by
 rw[xO (Cj (!1) h),wj]
def FH{g:Type}{xs:List g}{mk:g->D}{i:Int}(h:0<=i)(h2:i<xs.length):pj (xs.map mk) i=!(mk (xs[i.toNat]'(!1))):=dP h (by
 have:i.toNat<xs.length:=by omega
 simp[this])
def aU{g:Type}{xs:List g}{mk:g->D}{i:Nat}{x}(h:xs[i]?=!x):pj (xs.map mk) (i:Int)=!(mk x):=by
 exact dP (!1) (by simp[h])
def ui(h1:seqD a=!xs)(h2:seqD b=!ys):yN [a,b]=!(jW xs ys):=by
 unfold yN Ls;simp[h1,h2]
def oB{l j:Type}{f}{g}(xs:List l)(ys:List j):jW (xs.map f) (ys.map g)=(xs.zip ys).map λp=>.tup [f p.1,g p.2]:=by
 unfold jW;rw[List.zip_map,List.map_map];rfl
def appF_deep(h0:ownL Y i=!(c0,ds0))(h:g Y=!((.deep,d),Y'))(j:ownL Y' i=!(.deep,ds))(l:ds.length+1<big):gq i g Y=!(.nx (Y'.set i (!(.deep,.lst (ds++[d]))))):=by
 unfold gq;rw[h0];simp only[Option.bind_some,h,j];rw[if_pos l];rfl
def qv(h0:ownL Y i=!(c0,ds0))(h:g Y=!((.deep,d),Y'))(j:ownL Y' i=!(.deep,ds))(l:ds.length+1<big):mH i k g R Y=!(.nx (Y'.set i (!(.deep,.lst (ds++[d]))))):=by
 unfold mH a8;rw[appF_deep h0 h j l]
def uj{k:Int}(h:g Y=!((.deep,d),Y'))(j:ownL Y' i=!(.deep,ds))(o:p (vw Y')=!(.int k))(h0:0<=k)(l:k<ds.length):jY i p g Y=!(.nx (Y'.set i (!(.deep,.lst (ds.set k.toNat d))))):=by
 unfold jY;rw[h];simp only[Option.bind_some,j,o];have:DC ds.length k=!k.toNat:=by unfold DC;rw[if_pos h0,if_pos l]
 rw[this];rfl
def  uk:US:=(ab (dO (bi (pC (a7 c8 (ac (va 0) (ac (cT "int") ax))) (pC (Ax (a7 c8 (ac (va 0) (ac (cT "bool") ax)))) (dL nJ nJ (va 1) (va 0) (va 2)))) ag ag)) aH)
def  mj(aB:xx):US:=(ab (eV (nK (bB (iP (a7 c8 (ac (va 0) (ac (cT "tuple") ax))))) (al (aa (aK true) (a7 dM (ac (va 0) ax)) (cI 2)))) (ab (dO (bi (cB false) ag ag)) aH) aH) (ab (dO (bi (pC (aa Pm (aa am (va 0) (cI 0)) (cD (.tup [(.str "queue"),(.str "pile")]))) (bf aB (ac (aa am (va 0) (cI 1)) (ac (cI 0) (ac (cD (.int 9)) ax))))) ag ag)) aH))
def  qw(dF:xx):US:=(ab (eV (nK (bB (iP (a7 c8 (ac (va 0) (ac (cu (ac (cT "list") (ac (cT "tuple") ax))) ax))))) (bB (al (dL nJ nJ (cI 1) (a7 dM (ac (va 0) ax)) (cD (.int 6)))))) (ab (dO (bi (cB false) ag ag)) aH) aH) (ab (dO (bi (a7 fy (ac (a6 (af [1] (jX ag (va 0)) (gNm 1) tQ (bf dF (ac (va 1) ax)))) ax)) ag (fNo (ac (a6 (af [1] (jX ag (va 0)) (gNm 1) tQ (bf dF (ac (va 1) ax)))) ax)))) aH))
def  wk:US:=(ab (av 1 (bi (cI 1) ag ag)) (ab (iQ (jX ag (va 0)) (dq 2) (ab (av 1 (bi (aa aJ (va 1) (a7 dM (ac (va 2) ax))) ag ag)) aH)) (ab (we 1) aH)))
def  rN(bv:xx)(jh:xx):US:=(ab (eV (nK (bB (iP (a7 c8 (ac (va 0) (ac (cu (ac (cT "list") (ac (cT "tuple") ax))) ax))))) (al (aa Aw (a7 dM (ac (va 0) ax)) (cD (.int 6))))) (ab (dO (bi (cB false) ag ag)) aH) aH) (ab (dO (bi (pC (a7 fy (ac (a6 (af [1] (jX ag (va 0)) (gNm 1) tQ (bf jh (ac (va 1) ax)))) ax)) (aa nJ (bf bv (ac (va 0) ax)) (cD (.int 1000)))) ag ag)) aH))
def  oC(bw:xx)(y:Addr):uR:=(stI (eV (bB (iP (bf bw (ac (va 1) ax)))) (ab noO' aH) aH) (tN y 0 "passes" (bi (a7 cG (ac (a6 (af [2] (jX ag (va 1)) (gNm 2) tQ (a7 cG (ac (va 2) ax)))) ax)) ag (fNo (ac (a6 (af [2] (jX ag (va 1)) (gNm 2) tQ (a7 cG (ac (va 2) ax)))) ax))) A5))
def  mn(fl:Str->Str->Bool):US:=(ab (dO (bi (a7 dM (ac (j8 fl "passes" (va 0)) ax)) ag (fNo (ac (j8 fl "passes" (va 0)) ax)))) aH)
def  ze(mt_many:MT)(kk:Nat)(aB:xx):US:=(ab (dO (bi (bf aB (ac (va 1) (ac (cI 0) (ac (wa (va 0) ax mt_many kk "many") ax)))) ag (Hw aB (ac (va 1) (ac (cI 0) (ac (wa (va 0) ax mt_many kk "many") ax)))))) aH)
def  oE(eN:xx):US:=(ab (eV (bB (iP (bf eN (ac (va 0) (ac (va 1) ax))))) (ab noO' aH) aH) aH)
def  J3:US:=(ab (dO (bi (Ef (al (aa (aK false) (va 0) (cS "queue"))) (va 2) (aa fQ (aa fQ (va 1) (cI 1)) (va 2))) ag ag)) aH)
def  oF:US:=(ab (eV (al (aa nI (va 1) (a7 dM (ac (va 0) ax)))) (ab (dO (bi (aa am (va 0) (va 1)) ag ag)) aH) aH) (ab (dO (bi (cI 0) ag ag)) aH))
def  um:US:=(ab (iQ (jX (NK (ac (va 1) ax)) (a7 ou (ac (va 1) ax))) (dq 2) (ab (av 0 (bi (aa c6 (va 0) (cI 1000000)) ag ag)) aH)) (ab (dO (bi (aa aV (va 0) (cI 1000000)) ag ag)) aH))
def  zf(aB:xx):US:=(ab (dO (bi (bf aB (ac (va 0) (ac (cI 1) (ac (cD (.int 9)) ax)))) ag (Hw aB (ac (va 0) (ac (cI 1) (ac (cD (.int 9)) ax)))))) aH)
abbrev Pk:=Bool×Int
abbrev _root_.UV:=List (List Pk)
noncomputable def  kd(q:Bool):Str:=if q then"queue"else"pile"
def  j9(p:Pk):D:=.tup [.str (kd p.1),.int p.2]
noncomputable def  LA(p:Pk):Bool:=decide (0<=p.2)&&decide (p.2<=9)
def  sq(w:Bool)(ds:U7):D:=if w then .lst ds else .tup ds
@[simp]def FI(w:Bool)(ds:U7):seqD (sq w ds)=!ds:=by cases w<;>rfl
@[simp]def RJ(w:Bool)(ds:U7):c8 [sq w ds,.tup [.ty "list",.ty "tuple"]]=!(.bl true):=by cases w<;>simp[sq]
def NV(p:Pk):lfD (j9 p)=true:=rfl
def J5(ps:List Pk):cF (ps.map j9)=true:=cf λd hd=>by
 let⟨p,_,rfl⟩:=Vp.mp hd;exact NV p
def  dH(ps:List Pk):D:=.tup (ps.map j9)
def HB(ps:List Pk):lfD (dH ps)=true:=J5 ps
def J6(pss:UV):cF (pss.map dH)=true:=cf λd hd=>by
 let⟨p,_,rfl⟩:=Vp.mp hd;exact HB p
def  fH(f:xx):Prop:=∀v a b:Int,f [.int v,.int a,.int b]=!(.deep,.bl (decide (a<=v)&&decide (v<=b)))
def Cm:fH (aI 3 3 uk):=λv a b=>by
 refine aj rfl ?_;refine aO (bj (evX_lf ?_ rfl));simp[aD];grind
def  Co(f:xx):Prop:=∀v:Int,f [.int v]=!(.deep,.bl (decide (1<=v)&&decide (v<=9)))
def J7(g:fH w):Co (aI 1 1 (zf w)):=λv=>by
 refine aj rfl ?_;refine aO (bj (evX_lf ?_ rfl));simp[aD,g v 1 9]
def NW(q:Bool):Pm (.str (kd q)) (.tup [.str "queue",.str "pile"])=!(.bl true):=by
 cases q<;>kernel_rfl
def  rO(f:xx):Prop:=∀p:Pk,f [j9 p]=!(.deep,.bl (LA p))
def Cp(g:fH w):rO (aI 1 1 (mj w)):=λp=>by
 refine aj rfl ?_;unfold mj j9;refine(ar (Y':=aD 1 [.tup [.str (kd p.1),.int p.2]]) ?_).trans ?_
 .refine(eZ ?_).trans rfl;simp[aD]
 .refine aO (bj (evX_lf ?_ rfl));simp[aD,g p.2 0 9,NW,LA]
def  J8(ps:List Pk):Bool:=decide (1<=ps.length)&&decide (ps.length<=6)&&ps.all LA
def  Cq(f:xx):Prop:=∀(w:Bool)(ps:List Pk),ps.length<1000->f [sq w (ps.map j9)]=!(.deep,.bl (J8 ps))
def J9(t:rO g):Cq (aI 1 2 (qw g)):=λw ps j=>by
 refine aj rfl ?_;unfold qw J8;have C:dL nJ nJ (cI 1) (a7 dM (ac (va 0) ax)) (cD (.int 6)) [!(sq w (ps.map j9)),none]=!(.bl (decide (1<=ps.length)&&decide (ps.length<=6))):=by
  by_cases h:1<=ps.length
  .have h':(1:Int)<=(ps.length:Int):=by omega
   simp[h,h'];omega
  .have h':¬ (1:Int)<=(ps.length:Int):=by omega
   simp[h,h']
 have hi:a7 c8 (ac (va 0) (ac (cu (ac (cT "list") (ac (cT "tuple") ax))) ax)) [!(sq w (ps.map j9)),none]=!(.bl true):=by
  cases w<;>simp[sq]
 have l:nK (bB (iP (a7 c8 (ac (va 0) (ac (cu (ac (cT "list") (ac (cT "tuple") ax))) ax))))) (bB (al (dL nJ nJ (cI 1) (a7 dM (ac (va 0) ax)) (cD (.int 6))))) [!(sq w (ps.map j9)),none]=!(not (decide (1<=ps.length)&&decide (ps.length<=6))):=by
  rw[mh,notQ_a,trF_a,hi,notQ_a,testB_a,C];rfl
 cases o:(decide (1<=ps.length)&&decide (ps.length<=6))with
 |false=>
  rw[o]at l;exact aO ((ifS_t l).trans (aO (bj (evX_lf rfl rfl))))
 |true=>
  rw[o]at l;refine(ar ((eZ l).trans rfl)).trans ?_;refine aO (bj (evX_lf ?_ rfl));have r:af [1] (jX ag (va 0)) (gNm 1) tQ (bf g (ac (va 1) ax)) [!(sq w (ps.map j9)),none]=!(ps.map λp=>.bl (LA p)):=by
   refine ao (mk:=j9) (by simp) (λp _=>?_) (Nat.lt_trans j (!3));simp[t p]
  simp[aD,r,cO]
abbrev Ps:=List (Bool×List Pk)
def  sD(p:Bool×List Pk):D:=sq p.1 (p.2.map j9)
def  prod:UV->Nat
 |[]=>1
 |p::r=>p.length*prod r
def bN:∀a b:UV,prod (a++b)=prod a*prod b
 |[],b=>by simp[prod]
 |p::a,b=>by simp only[List.cons_append,prod,bN a b,Nat.mul_assoc]
def dh(a:UV)(p:List Pk):prod (a++[p])=prod a*p.length:=by rw[bN];simp[prod]
def lt_big(h:-1000000<j)(h2:j<1000000):-18446744073709551616<j/\j<18446744073709551616:=by grind
def ez(h:-1000000<j)(h2:j<1000000):aJ (.int i) (.int j)=!(.int (i*j)):=Ce (lt_big h h2).1 (lt_big h h2).2
def Cr{n:Nat}(h:n<1000):aJ (.int i) (.int (n:Int))=!(.int (i*n)):=ez (!1) (!1)
def  jZ(f:xx):Prop:=∀(w:Bool)(pss:Ps),(∀p∈pss,p.2.length<1000)->f [sq w (pss.map sD)]=!(.deep,.int (prod (pss.map (·.2)):Nat))
def wm(A:D)(n:Nat)(p:Bool×List Pk)(g:p.2.length<1000):
 bi (aa aJ (va 1) (a7 dM (ac (va 2) ax))) ag ag [!(.sh,A),!(.deep,.int n),!(.sh,sD p)]=!((.deep,.int (n*p.2.length:Nat)),[!(.sh,A),!(.deep,.int n),!(.sh,sD p)]):=by
 refine evX_lf ?_ rfl
 have j:(seqD (sD p))=!_:=FI _ _
 simp[j]
 rw[Cr g]
def zg(g:Ps)(i:Nat)(p)(j:g[i]?=!p):prod ((g.take (i+1)).map (·.2))=prod ((g.take i).map (·.2))*p.2.length:=by
 rw[List.take_succ,j];simp[dh]
def FJ:jZ (aI 1 3 wk):=λw g l=>by
  refine aj rfl ?_;refine(ar (ca (evX_lf rfl rfl))).trans ?_;have L:=ja (J:=jX ag (va 0)) (tg:=dq 2) (F:=ab (av 1 (bi (aa aJ (va 1) _) ag ag)) aH) (ds:=g.map sD)
   
    (λi Y=>∃o,Y=[!(.sh,sq w (g.map sD)),!(.deep,.int (prod ((g.take i).map (·.2)):Nat)),o]) (by simp[aD]) ⟨none,rfl⟩ (by
      rintro i d Y hd ⟨o,rfl⟩;rw[getElem?_map]at hd;cases j:g[i]? with
      |none=>rw[j]at hd;cases hd
      |some p=>
        rw[j]at hd;cases hd;have r:=l p (Vx j);rw[zg g i p j];exact⟨_,ar (ca (wm _ _ p r)),⟨!_,rfl⟩⟩)
  let⟨Y',e,o,rfl⟩:=L;refine(ar e).trans (aO ?_);simp[we,gJ]
structure Valid(pss:UV):Prop where
 len:pss.length<=6
 each:∀p∈pss,J8 p=true
 codes:prod pss<=1000
def Valid.p(h:Valid g){p:List Pk}(l:p∈g):1<=p.length/\p.length<=6/\∀k∈p,0<=k.2/\k.2<=9:=by
 have:=h.each p l;unfold J8 at this;rw[and_eq_true,and_eq_true,List.all_eq_true]at this;refine⟨Vk this.1.1,Vk this.1.2,λk j=>?_⟩;have j:=this.2 k j;unfold LA at j;grind
def  sAre(f:xx):Prop:=∀(w:Bool)(pss:Ps),Valid (pss.map (·.2))->f [sq w (pss.map sD)]=!(.deep,.bl true)
def h_are(J:Cq g)(T:jZ c):sAre (aI 1 2 (rN c g)):=λw j r=>by
 refine aj rfl ?_;have C:j.length<=6:=by have:=r.len;simpa using this
 have t:∀p∈j,p.2.length<1000:=λp t=>by
  have:=(r.p (List.mem_map_of_mem t)).2.1;omega
 have hT:nK (bB (iP (a7 c8 (ac (va 0) (ac (cu (ac (cT "list") (ac (cT "tuple") ax))) ax))))) (al (aa Aw (a7 dM (ac (va 0) ax)) (cD (.int 6)))) [!(sq w (j.map sD)),none]=!false:=by
  have h:¬ (6:Int)<(j.length:Int):=by omega
  cases w<;>simp[sq,h]
 refine(ar ((eZ hT).trans rfl)).trans ?_;refine aO (bj (evX_lf ?_ rfl));have I:af [1] (jX ag (va 0)) (gNm 1) tQ (bf g (ac (va 1) ax)) [!(sq w (j.map sD)),none]=!(j.map λp=>.bl (J8 p.2)):=by
  refine ao (mk:=sD) (by simp) (λp l=>?_) (Vm C (!3));have:=J p.1 p.2 (t p l);simp[sD,this]
 have U:j.all (λp=>J8 p.2)=true:=by
  rw[List.all_eq_true];intro p l;exact r.each _ (List.mem_map_of_mem l)
 have o:((prod (j.map (·.2)):Nat):Int)<=1000:=by have:=r.codes;omega
 simp[aD,I,cO,U,T w j t];exact o
def  aq(ps:UV):D:=.tup (ps.map dH)
def  ay(ps:UV):D:=.obj "Mill" ["passes"] [aq ps]
def  gM(fa:xx):U7->Option (List (Str×D))
 |[d]=>(b7 (fa [d])).bind λb=>(pD b).bind λt=>if t=true then(af [2] (jX ag (va 1)) (gNm 2) tQ (a7 cG (ac (va 2) ax)) [none,!d,none]).bind λl=>![(("passes":Str),.tup l)]else none
 |_=>none
def FK{R Sp}(h:R (vw Y)=!d)(g:Sp (vw Y)=none)(h2:R (c9 Y)=!d):∃c,bi R ag Sp Y=!((c,d),Y):=by
 cases f:lfD d with
 |true=>exact⟨_,evX_lf h f⟩
 |false=>exact⟨_,ox h f rfl g rfl h2⟩
def wn(ds:U7)(r:List (Str×D))(h:gM fa ds=!r)(y:Addr):rz 2 3 (oC fa) y ds=!r:=by
 cases ds with
 |nil=>cases h
 |cons d t=>
  cases t with
  |cons _ _=>cases h
  |nil=>
   let⟨b,h1,h⟩:=VA (h);let⟨t,h2,h⟩:=VA h;cases t with
   |false=>cases h
   |true=>
    let⟨l,p,o⟩:=VA (h);cases o;have g:af [2] (jX ag (va 1)) (gNm 2) tQ (a7 cG (ac (va 2) ax)) [!(.adr y),!d,none]=!l:=by
     rw[<-p];cases seqD d with
     |none=>rfl
     |some ps=>
      rfl
    show oC fa y (vF 3 y [d]) []=_;unfold oC;have j:vF 3 y [d]=[!_,!_,none]:=rfl;rw[j];have C:(eV (bB (iP (bf fa (ac (va 1) ax)))) (ab noO' aH) aH) [!(.sh,.adr y),!(.sh,d),none]=!(.nx [!(.sh,.adr y),!(.sh,d),none]):=by
     refine(eZ ?_).trans rfl;simp[h1,h2]
    unfold stI;rw[C];simp only[Option.bind_some];let⟨c,e2⟩:=FK (R:=a7 cG (ac (a6 (af [2] (jX ag (va 1)) (gNm 2) tQ (a7 cG (ac (va 2) ax)))) ax)) (Sp:=fNo (ac (a6 (af [2] (jX ag (va 1)) (gNm 2) tQ (a7 cG (ac (va 2) ax)))) ax)) (Y:=[!(.sh,.adr y),!(.sh,d),none]) (d:=.tup l)
     (by simp[g]) (by simp) (by simp[g])
    unfold tN;rw[e2];simp[gJ,A5,nV]
def  Cs(g:U7->Option (List (Str×D))):Prop:=∀(w:Bool)(pss:Ps),Valid (pss.map (·.2))->g [sq w (pss.map sD)]=![(("passes":Str),aq (pss.map (·.2)))]
def Ka(r:sAre fa):Cs (gM fa):=λw g l=>by
 have j:g.length<=6:=by have:=l.len;simpa using this
 have o:af [2] (jX ag (va 1)) (gNm 2) tQ (a7 cG (ac (va 2) ax)) [none,!(sq w (g.map sD)),none]=!(g.map λp=>dH p.2):=by
  refine ao (mk:=sD) (by simp) (λp _=>?_) (Vm j (!3));simp[sD,dH]
 show((b7 (fa [sq w (g.map sD)])).bind _)=_;rw[r w g l];simp[o,aq]
def kI{g:Type}(xs:List g)(f:g->D)(t:Nat):cutD (xs.map f) (!(t:Int)) none=(xs.drop t).map f:=by
 unfold cutD;rw[HT.sIx_nat,HT.sIx_none,length_map,<-List.map_drop];by_cases h:t<=xs.length
 .rw[Nat.min_eq_left h];rw[List.take_of_length_le (by rw[length_map,List.length_drop];omega)]
 .have h':xs.length<=t:=by omega
  rw[Nat.min_eq_right h',List.drop_eq_nil_of_le (le_refl _),List.drop_eq_nil_of_le h'];simp
def kJ{g:Type}(xs:List g)(f:g->D)(t:Nat):cutD (xs.map f) none (!(t:Int))=(xs.take t).map f:=by
 unfold cutD;rw[HT.sIx_nat,HT.sIx_none,length_map,List.drop_zero,Nat.sub_zero,<-List.map_take];grind
def kK(hf:fl "Mill" "passes"=true)(ps:UV):mG fl "passes" (ay ps)=!(aq ps):=by simp_all [Pk,mG,ay,aq]
def FL(g:j "Mill" "passes"=true){t:Nat}(h0:bF Y 0=!(ay ps))(h1:bF Y 1=!(.int (t:Int))):
  iO (j8 j "passes" (va 0)) (aR (va 1)) lj Y=!(.tup ((!5).map dH)):=by
 unfold iO a8 ra
 simp[h0,h1,kK g,aq,kI]
def  Ct(mt:MT)(kk:Nat):Prop:=∀ps:UV,iM mt kk "many" (ay ps) []=!(.deep,.int (ps.length:Nat))
def Kb(g:j "Mill" "passes"=true)(ps:UV):aI 1 1 (mn j) [ay ps]=!(.deep,.int (ps.length:Nat)):=by
 refine aj rfl ?_;refine aO (bj (evX_lf ?_ rfl));simp[aD,kK g,aq]
def  xQ(f:xx):Prop:=∀(ps:UV)(t:Nat),t<=ps.length->f [ay ps,.int (t:Int)]=!(.deep,.bl true)
def Kc{mt g w}(l:Ct mt g)(j:fH w):xQ (aI 2 2 (ze mt g w)):=λps t o=>by
 refine aj rfl ?_;refine aO (bj (evX_lf ?_ rfl));have h1:(t:Int)<=(ps.length:Int):=by omega
 simp[aD,l ps,j (t:Int) 0 (ps.length:Int),h1]
noncomputable def  wD(w:U2):D:=.tup (w.map λ(i:Nat)=>.int (i:Int))
def lf_w(w:U2):lfD (wD w)=true:=cf λd hd=>by
 let⟨p,_,rfl⟩:=Vp.mp hd;rfl
structure WordOk(ps:UV)(t:Nat)(w:U2):Prop where
 len:w.length=(!5).length
 each:∀q∈w.zip (!5),q.1<q.2.length
def  wq(f:xx):Prop:=∀(ps:UV)(t:Nat),t<=ps.length->f [ay ps,.int (t:Int)]=!(.deep,.non)
def FM(l:xQ g):wq (aI 2 2 (oE g)):=λps t j=>by
 refine kA rfl (Y:=aD 2 [ay ps,.int (t:Int)]) ?_;refine(ar ((eZ ?_).trans rfl)).trans rfl;simp[aD,l ps t j]
def Cu(h:f (vw Y)=!d):jH f Y=!(.nx Y):=by unfold jH;rw[h];rfl
noncomputable def  pkAt(q:Nat×List Pk):Pk:=q.2[q.1]?.getD (true,0)
def NX(h:q.1<q.2.length):pj (q.2.map j9) (q.1:Int)=!(j9 (pkAt q)):=by
 refine aU ?_;unfold pkAt;grind
def kL{v:Nat->Int}(I:Nat->Ev->Prop)(o:J (c9 Y)=!((!19).map λi=>D.int (v i)))(h0:I 0 Y)(l:∀(i:Nat)(Y:Ev),i<n->I i Y->∃Y',F (Y.set s (!(.sh,.int (v i))))=!(.nx Y')/\I (i+1) Y'):∃Y',iQ J (dq s) F Y=!(.nx Y')/\I n Y':=by
 let⟨Y',e,i⟩:=ja (tg:=dq s) I o h0 (λi d Y hd hi=>by
  rw[getElem?_map]at hd;cases g:(!19)[i]? with
  |none=>rw[g]at hd;cases hd
  |some p=>
   rw[g]at hd;cases hd;let⟨j,e⟩:=Vh.mp g;rw[List.getElem_range]at e;subst e;rw[length_range]at j;exact l i Y j hi)
 grind
def vw_o(o:UX)(Y:Ev):vw (o::Y)=o.map (·.2)::vw Y:=rfl
def uo{β γ:Type}{step}{mk}{out}{P:γ->Prop}:∀(xs:List β),(∀x∈xs,∃y,P y/\step (mk x)=!(!(out y)))->∃ys:List γ,ys.length=xs.length/\(∀y∈ys,P y)/\jG step (xs.map mk)=!(ys.map out)
 |[],_=>⟨[],rfl,λ_ h=>(nomatch h),rfl⟩
 |x::xs,h=>by
  let⟨y,py,e⟩:=h x Vi;let⟨ys,l,p,e2⟩:=uo xs λe he=>h e (Vj _ he);refine⟨y::ys,by simp[l],λz hz=>?_,?_⟩
  .rcases mem_cons.mp hz with rfl|hz
   .exact py
   .exact p z hz
  .rw[List.map_cons];unfold jG;rw[e,e2];rfl
def uq{o j:Type}{Y:Vv}{xs:List o}{mk}{out}{P:j->Prop}(t:J Y=!(xs.map mk))(h:∀x∈xs,∃y,P y/\qg g ft fe (gj ks Y) (mk x)=!(!(out y)))(r:xs.length<big):
  ∃ys:List j,ys.length=xs.length/\(∀y∈ys,P y)/\af ks J g ft fe Y=!(ys.map out):=by
 let⟨ys,l,p,e⟩:=uo xs h
 refine⟨ys,l,p,?_⟩
 unfold af
 rw[t]
 simp only[Option.bind_some]
 rw[e]
 unfold bJ
 simp[l,r]
noncomputable def  aA(ns:U4):D:=.lst (ns.map D.int)
@[simp]def seq_sc(ns:U4):seqD (aA ns)=!(ns.map D.int):=rfl
@[simp]def SZ(ns:U4):lfD (aA ns)=false:=rfl
def kM(g:U4):cF (g.map D.int)=true:=cf λd hd=>by
 let⟨p,_,rfl⟩:=Vp.mp hd;rfl
def oG(h:0<=i)(h2:i<ns.length):∃v,am (aA ns) (.int i)=!(.int v):=⟨_,FH h h2⟩
def  Cv(f:xx):Prop:=∀(ns:U4)(k:Nat),f [aA ns,.int (k:Int)]=!(.deep,.int (ns[k]?.getD 0))
def Kd:Cv (aI 2 2 oF):=λg k=>by
 refine aj rfl ?_;have j:aD 2 [aA g,.int (k:Int)]=[!_,!(.sh,.int (k:Int))]:=rfl;rw[j];by_cases h:k<g.length
 .refine aO ((ifS_t ?_).trans (aO (bj (evX_lf ?_ rfl))))
  .have:(k:Int)<(g.length:Int):=by omega
   simp[this]
  .simp[aA];exact aU (by simp[h])
 .refine(ar ((eZ ?_).trans rfl)).trans (aO (bj (evX_lf ?_ rfl)))
  .have:¬ (k:Int)<(g.length:Int):=by omega
   simp[this]
  .simp[h]
def  Cw(f:xx):Prop:=∀(c:Int)(a:Nat),a<1000->∃v:Int,0<=v/\v<1000000/\f [.int c,.int (a:Int)]=!(.deep,.int v)
def Ke:Cw (aI 2 3 um):=λc a g=>by
 have L:=kL (J:=jX (NK (ac (va 1) ax)) (a7 ou (ac (va 1) ax))) (s:=2) (F:=ab (av 0 (bi (aa c6 (va 0) (cI 1000000)) ag ag)) aH)
  (λi Y=>∃x v o,Y=[!(x,.int v),!(.sh,.int (a:Int)),o]) (d7 (by simp[aD];exact aY (!1))) ⟨.sh,c,none,rfl⟩ (by
   rintro i Y hi ⟨x,v,o,rfl⟩;exact⟨_,ar (ca (evX_lf (by simp;exact cb (!3) (!3)) rfl)),⟨_,_,_,rfl⟩⟩)
 let⟨Y',e,x,v,o,rfl⟩:=L;refine⟨v%1000000,Int.emod_nonneg _ (!3),Int.emod_lt_of_pos _ (!3),aj rfl ?_⟩;refine(ar e).trans (aO (bj (evX_lf ?_ rfl)));simp;exact cc (!3)
def wr(h:0<=i)(h2:i<1000000000039):aJ (.int i) (.int j)=!(.int (i*j)):=rM (Int.lt_of_lt_of_le (!3) h) (Int.lt_trans h2 (!3))
def zh{k:Int}(h:g Y=!((.deep,d),Y'))(j:ownL Y' i=!(.deep,ds))(o:p (vw Y')=!(.int k))(h0:0<=k)(l:k<ds.length):ud i p g R Y=!(.nx (Y'.set i (!(.deep,.lst (ds.set k.toNat d))))):=by
 unfold ud a8;rw[uj h j o h0 l]
def md(i:Int)(h:0<j):0<=i%j/\i%j<j:=⟨Int.emod_nonneg _ (!1),Int.emod_lt_of_pos _ h⟩
def oH(i j:Int)(h:0<j):aV (.int i) (.int j)=!(.int (i%j)):=cc h
def Cy{a b:Nat}(g:a<1000000):aJ (.int (a:Int)) (.int (b:Int))=!(.int ((a*b:Nat):Int)):=by
 exact rM (Int.lt_of_lt_of_le (!3) (Int.natCast_nonneg a)) (Int.lt_trans (show(a:Int)<1000000 by omega) (!3))
end L2
namespace L2
open PySem PySem.Spec PyProof.Rows
def RK(q:Bool):decide (kd q=("pile":Str))=not q:=by cases q<;>decide
def  HC(q:Bool)(a c:Int):Int:=if q=true then c else a-1-c
def  qx(f:xx):Prop:=∀(q:Bool)(a c:Int),f [.str (kd q),.int a,.int c]=!(.deep,.int (HC q a c))
def Kf:qx (aI 3 3 J3):=λq a c=>by
 refine aj rfl ?_;refine aO (bj (evX_lf ?_ rfl));cases q<;>rfl
def  PZ(s:Int×Int)(q:Nat×List Pk):Int×Int:=(s.1*q.2.length,q.1*s.1+HC (pkAt q).1 s.1 s.2)
def  HE(s:Int×Int)(zs:List (Nat×List Pk)):Int×Int:=zs.foldl PZ s
def wt{i:Nat}(h:i<1000000):aJ (.int (i:Int)) (.int j)=!(.int ((i:Int)*j)):=rM (lt_big (!1) (!1)).1 (lt_big (!1) (!1)).2
def zi(l:jZ c)(ps:UV)(h:∀p∈ps,p.length<1000):c [.tup (ps.map dH)]=!(.deep,.int (prod ps:Nat)):=by
 have e:(ps.map λp=>((false,p):Bool×List Pk)).map sD=ps.map dH:=by rw[List.map_map];rfl
 have o:(ps.map λp=>((false,p):Bool×List Pk)).map (·.2)=ps:=by rw[List.map_map];exact List.map_id ps
 have:=l false (ps.map λp=>(false,p)) (λp j=>by
  let⟨q,g,rfl⟩:=Vp.mp j;exact h q g)
 rw[e,o]at this;exact this
end L2
namespace L2
open PySem PySem.Spec PyProof.Rows
def evX_fz{R L Sp}(h:R (vw Y)=!d)(f:lfD d=false)(hl:L (vw Y)=none)(hs:Sp (vw Y)=none)(hl2:L (c9 Y)=none)(h2:R (c9 Y)=none):bi R L Sp Y=!((.sh,d),db Y):=by
 unfold bi a8 mE qk vz Ez frX a8 sC jm;grind
def zj{β γ:Type}(l:List β)(f:β->γ)(d:β):(List.range l.length).map (λj=>f (l[j]?.getD d))=l.map f:=by
 apply List.ext_getElem?;intro i;rw[getElem?_map,getElem?_map];by_cases h:i<l.length
 .rw[List.getElem?_range h,getElem?_eq_getElem h];simp[h]
 .rw[List.getElem?_eq_none (by rw[length_range];omega),List.getElem?_eq_none (!1)];rfl
def Kg{K}{st}(n k:Nat)(X:K.In h)(T:h.Ns mainGlobals mg)(o:mg "law"=!(.ref fa))(S:FnScope N ["script"] (ah st))(b:bp "law" st ["script"])(t:aP K "law" st)(g:∀base:Heap,K.In base->base.Ns mainGlobals mg->GbOk P w K mg base G)(J:∀r:U4,r.length<=63->b7 (DI n k N ["script"] st G [.lst (r.map D.int)])=!(.bl true)):
  ∃fd:FuncData,(∀(s:Shared)(v:Value),BindsTo s fd ⟨[v],[]⟩ [("script",v)])/\∀base:Heap,K.In base->base.Ns mainGlobals mg->FnOk P w K mg base qV (k+1) fa fd ["script"] (Px K):=by
 let⟨f,oc,od,an,C,kV,p,pm,l,ct,h1,h2,h3,h4⟩:=t
 have e:=o.symm.trans (PySem.W.mg_of X T h1)
 cases e
 have Fn:=nu h2 h3 h4
 refine⟨_,λs v=>.of_eq (b "law" kV p pm an l ct [v] rfl),λbase KB U=>JW (Jg Fn S λl A j s H E I=>?_) J⟩
 exact(FD n).2 _ _ (ue (g base KB U) S l A j s H E I) _
def cn_int{K}(X:K.In h)(g:h.Ns mainGlobals mg)(t:∃t,nsIn K mainGlobals x=!(!(.int i t))):Cn K mg x (.int i):=by
 let⟨t,e⟩:=t;exact⟨_,_,PySem.W.mg_of X g e,(show RelV (.int i) _ from⟨t,rfl⟩),λH=>rfl⟩
def cn_2str{K}(X:K.In h)(r:h.Ns mainGlobals mg)(t:∃(a:Addr)(p:Option Addr)(n:Nat)(o:Array (U1))(j:Tok)(g:Tok),nsIn K mainGlobals x=!(!(.ref a))/\K.lookup a=!⟨.type "tuple",p,.seq #[.str y j,.str z g] n,o⟩):Cn K mg x (.tup [.str y,.str z]):=by
 let⟨a,p,n,o,j,g,e,l⟩:=t;refine⟨.ref a,_,PySem.W.mg_of X r e,rfl,λH=>⟨a,[.str y,.str z],rfl,.inr ⟨_,_,n,l,rfl,rfl,?_,?_⟩,⟨_,_,rfl,rfl,⟨_,_,rfl,rfl,rfl⟩⟩⟩⟩
 .show 2<=sizeLine;decide
 .exact .cons ⟨j,rfl⟩ (.cons ⟨g,rfl⟩ .nil)
def fl_one{K}(t:∃Ca,nsIn K mainGlobals C=!(!(.ref Ca))/\findIn K (.ref Ca) m=!none)(h:f=m):∀Ca,nsIn K mainGlobals C=!(!(.ref Ca))->NoAttr K Ca f:=by grind [NoAttr]
def m7{K}(c:TCls K C)(g:nsIn K mainGlobals C=!(!(.ref Ca))):Cls K Ca:=by
 let⟨l,e,j,_,_⟩:=c.ex;grind
def RL{K}{st}{kV j pm g ct}(a:nsIn K mainGlobals x=!(!(.ref f)))(l:K.lookup f=!⟨r,p,.func (PySem.W.fnOf x x (bG st) (aL st) (ah st) .none kV j pm t g ct),o⟩)(c:PySem.W.codeIn K g x=true)(k:PySem.W.keepIn K (.ref f)=true):aP K x st:=⟨f,r,p,t,o,kV,j,pm,g,ct,a,l,c,k⟩
def zk{K}{st}{kV doc pm cdv ct}(a:nsIn K mainGlobals C=!(!(.ref Ca)))(n:findIn K (.ref Ca) m=!(!(.ref f)))(i:PySem.W.isFn K (.ref f)=true)(l:K.lookup f=!⟨oc,od,.func (PySem.W.fnOf m qual (bG st) (aL st) (ah st) .none kV doc pm an cdv ct),osl⟩)(c:PySem.W.codeIn K cdv qual=true)(k:PySem.W.keepIn K (.ref f)=true):jo K C m qual st:=by grind [bG,aL,ah,jo]
def NY{K}(a:nsIn K mainGlobals C=!(!(.ref Ca)))(j:PySem.W.plainGet K Ca Str.empty=true)(hd:PySem.W.hasDictIn K Ca=true)(po:PySem.W.plainOver K Ca=true)(g:findIn K (.ref Ca) "__setattr__"=!(!(.builtin "object.__setattr__")))(mk:PySem.W.makesIn K Ca=true)(l:PySem.W.keepIn K (.ref Ca)=true):TCls K C:=⟨Ca,a,⟨j,hd,po,g⟩,mk,l⟩
def P0{K}(a:nsIn K mainGlobals C=!(!(.ref Ca)))(n:findIn K (.ref Ca) m=!none):∃Ca,nsIn K mainGlobals C=!(!(.ref Ca))/\findIn K (.ref Ca) m=!none:=⟨Ca,a,n⟩
def zm{K}(a:nsIn K mainGlobals x=!(!(.int i t))):∃t,nsIn K mainGlobals x=!(!(.int i t)):=⟨t,a⟩
def NZ{K}(e:nsIn K mainGlobals x=!(!(.ref a)))(l:K.lookup a=!⟨.type "tuple",od,.seq #[.str y t0,.str z t1] n,sl⟩):
 ∃(a:Addr)(od:Option Addr)(n:Nat)(sl:Array (U1))(t0:Tok)(t1:Tok),nsIn K mainGlobals x=!(!(.ref a))/\K.lookup a=!⟨.type "tuple",od,.seq #[.str y t0,.str z t1] n,sl⟩:=⟨a,od,n,sl,t0,t1,e,l⟩
noncomputable abbrev Cz(q:Str)(params:Arguments)(body:Expr)(scope:Scope)(cl:List (Str×Addr))(pm:Value)(c':Addr)(ctv:Value):FuncData:=PySem.W.kla_fn "<lambda>" q params body scope cl pm (.ref c') ctv
noncomputable abbrev cP(q:Str)(params:Arguments)(body:Expr)(scope:Scope)(cl:List (Str×Addr))(pm:Value)(c':Addr)(ctv:Value):Obj:=PySem.W.kla_obj "<lambda>" q params body scope cl pm c' ctv
def  RM(X:Cx)(A:Around)(N:U3)(env:Env)(s:Shared)(H:Hp):Cx:=
 {X with A:=A.deeper env,N:=N,s₀:=s,H₀:=H,env:=env,outer:=X.stack,stack:=env::X.stack,ex:=[],fn:=λ_=>false,calm:=true,pn:=[],xe:=λ_ _=>False}
structure LamSc(scope:Scope)(x y:Str):Prop where
 xl:scope.names.lookup x=some .local
 yf:scope.names.lookup y=some .free
 only:∀z,scope.names.lookup z=some .free->z=y
 nocell:∀z∈scope.names,z.2≠.cell
 kind:scope.kind=.function
 co:scope.isCoroutine=false
 gen:scope.isGenerator=false
 ne:x≠y
section
variable{X:Cx}{pins:UW}{σ:St}{H:Hp}{s:Shared}
def FN(I:Inv X pins σ H s)(hA:A.frames=!X.stack)(hh:A.handled=none)(S:LamSc scope x y)(hc:X.env.cells.lookup y=!c)(t:s.heap.IsCell c (!w))(J:RelV v w)(rl:RelV l u)(T:j.Ns s.heap.objs.size (λz=>[(x,u)].reverse.lookup z))(g:∀b o,s.heap.get? b=!o->j.get? b=!o):
  Inv (RM X A [x,y] (PySem.W.envX q scope s.heap.objs.size f (.ref c') [(y,c)]) s H) [] [!l,!v] H {s with heap:=j,toks:=tk}:=by
 have C:∀z d,([(y,c)]:List (Str×Addr)).lookup z=!d->z=y/\d=c:=λz d h=>by
  rw[List.lookup_cons]at h;split at h
  .rename_i e;exact⟨by simpa using e,(Option.some.inj h).symm⟩
  .cases h
 have cy:([(y,c)]:List (Str×Addr)).lookup y=!c:=by simp[List.lookup_cons]
 have r:j.IsCell c (!w):=by
  let⟨o,ho,hd⟩:=t;exact⟨o,g _ _ ho,hd⟩
 refine⟨⟨I.ok.mod,S.kind,rfl,rfl,Vy _,λa b d h1 h2=>?_,λa ha=>?_,λa d ha=>?_,λ_=>hh,Around.frames_deeper hA,.inr ⟨rfl,rfl⟩,λb z=>(nomatch z),I.bs,Vn I.ok.bsz I.sz,λb _ _ z=>(nomatch z),λb z=>(nomatch z),I.stack,⟨I.stkFree,I.tab⟩⟩,
  rfl,I.bare,Un.kept g,⟨_,T,λi z v' h1 h2 h3=>?_⟩,λa d h=>?_,I.hok.fresh (Vy _),λa d h=>?_,λp hp=>(nomatch hp),I.hok.kept g,rfl⟩
 .rw[(C a d h1).1,(C b d h2).1]
 .have U:scope.names.lookup a=some .cell\/scope.names.lookup a=some .free:=ha;rcases U with z|z
  .exact absurd rfl (S.nocell _ (PySem.mem_of_lookup z))
  .rw[S.only a z];exact⟨c,cy⟩
 .cases ha
 .match i,h1,h2 with
  |0,h1,h2=>
   cases h1;cases h2;exact⟨u,rl,.inl ⟨S.xl,by simp[List.lookup_cons]⟩⟩
  |1,h1,h2=>
   cases h1;cases h2;exact⟨w,J,.inr ⟨.inr S.yf,c,cy,r⟩⟩
  |n+2,h1,h2=>cases h1
 .let⟨rfl,rfl⟩:=C a d h;exact⟨_,r⟩
 .let⟨rfl,rfl⟩:=C a d h;exact I.freeC _ _ hc
def FO(I:Inv X pins σ H s)(hA:A.frames=!X.stack)(hh:A.handled=none)(j:A.depth<recursionLimit)(S:LamSc scope x y)(hf:s.heap.get? f=!(cP q g body scope [(y,c)] pm c' ctv))(hcd:s.heap.CodeRec (.ref c') q)(hb:bindArgs (Cz q g body scope [(y,c)] pm c' ctv) ⟨[u],[]⟩=pure [(x,u)])(hc:X.env.cells.lookup y=!c)(C:s.heap.IsCell c (!w))(rw':RelV v w)(rl:RelV l u)(T:PE (RM X A [x,y] (PySem.W.envX q scope s.heap.objs.size f (.ref c') [(y,c)]) s H) body t)(ht:t [!l,!v] H Q):
  wpAny (!4) A (call (.ref f) [u]) (EP X pins σ Q) (λ_ _=>False) s:=by
 refine wpAny_call ?_
 refine PySem.W.kla_callFunE j hf rfl S.co S.gen rfl hcd ?_
 rw[hb]
 refine Vd (wpAny_newFunctionEnv S.nocell (λz hz=>by rw[mem_singleton.mp hz];exact S.xl) (λU hns hsb=>⟨I.nolimit.fresh _ hsb,?_⟩) S.kind)
 show codeAny _ _ (.expr body (PySem.W.envX q scope s.heap.objs.size f (.ref c') [(y,c)])) _ _
 have p:∀b o,s.heap.get? b=!o->U.get? b=!o:=λb o e=>hsb.extBut b o (Vo (Ve e)) (Vc _ e)
 have J:=FN (q:=q) (c':=c') (f:=f) (tk:=s.toks+[(x,u)].length) I hA hh S hc C rw' rl hns p
 refine PySem.W.kla_codeExpr (Vz (T [] _ _ H Q J ht) (λr s' hs=>?_) λe s' hF=>hF.elim)
 let⟨v',H',J',rv,q⟩:=hs
 exact⟨v',H',I.call' J'.os J'.base J'.hok J'.bare (λ_ z=>nomatch z),rv,q⟩
def CA(I:Inv X pins σ H s)(hP:H P=!(.cod #[] pos q))(J:X.env.code=.ref c0)(hC:∀h:Heap,X.K.In h->PySem.W.CodeHd h c0 P)(hB:∀h:Heap,X.K.In h->h.BuiltinsAt X.mg P)(hgP:mainGlobals≠P)(hcl:closureFor scope X.env=pure j)(k:∀f p l s' H',Inv X pins σ H' s'->Same H H'->s'.heap.get? f=!(!11)->H' f=!(.frz (!11) (.own f))->(∃r U t,H' p=!(.frz r (.own P))/\r.data=.fields U/\U[1]?=!(.str q t))->Q (.ref f) s'):
  wpAny (!4) A (makeFunction "<lambda>" q g (.expr body) scope X.env [] [] [] pos fl) Q E s:=by
 have hg:=I.ok.mod.glob.keeps I.bk
 rcases I.hok P _ hP with hp|⟨p,r,U,t,hp,ho,C⟩
 .refine PySem.W.kla_makeFunction hcl I.ok.glob hg J (hC _ I.kIn) hp True.intro rfl hgP (hB _ I.kIn) λp l h' tk hx hge hlt C htb=>?_;let⟨c2,r,U,t,z2,goc,hvs,hv1⟩:=C;cases z2;have hcn:=I.hok.fresh hge;have hfs:=Vn hge (Vu hlt);have T:=I.hok.fresh hfs;have hfc:=Nat.ne_of_gt hlt;have up:∀b o,H b=!o->upd (upd H p (.frz r (.own P))) h'.objs.size (.frz (!11) (.own h'.objs.size)) b=!o:=λb o e=>by
   rw[ae (ak e T),ae (ak e hcn)];exact e
  have kp:∀b o,b≠P->s.heap.get? b=!o->(h'.push (!11)).get? b=!o:=λb o hb e=>Vc _ (hx b o hb e);have nP:∀b,H b=none->b≠P:=λb n z=>by rw[z,hP]at n;cases n
  have lt:∀b o,s.heap.get? b=!o->b≠p/\b≠h'.objs.size:=λb o e=>⟨Vo (Vl (Ve e) hge),Vo (Vl (Ve e) hfs)⟩;have gf:(h'.push (!11)).get? h'.objs.size=!(cP q g body scope j _ p l):=Vf _ rfl;have gc:(h'.push (!11)).get? p=!r:=Vc _ goc;have hc':upd (upd H p (.frz r (.own P))) h'.objs.size (.frz (!11) (.own h'.objs.size)) p=!(.frz r (.own P)):=by rw[ae (Ne.symm hfc),ai]
  refine k h'.objs.size p l _ (upd (upd H p (.frz r _)) h'.objs.size (.frz (cP q g body scope j _ p l) _)) (I.un ⟨λb o e n _ _=>kp b o (nP b n) e,λb o e n _ _=>⟨o.slots,kp b o (nP b n) e⟩,λb o e n _=>?_,λb o e _=>?_,λb xs e=>up _ _ e,λb o u e=>up _ _ e,λb ps e=>⟨#[],by rw[up _ _ e];simp⟩⟩ ?_) (λb o e=>up b o e) gf ai ⟨r,U,t,hc',hvs,hv1⟩
  .rw[ae (lt b o e).2,ae (lt b o e).1];exact n
  .by_cases hb:b=P
   .subst hb;exact⟨_,Vc _ htb⟩
   .exact⟨o,kp b o hb e⟩
  .intro b o e;by_cases hbf:b=h'.objs.size
   .subst hbf;rw[ai]at e;cases e;exact⟨gf,_,gf⟩
   .rw[ae hbf]at e;by_cases hbc:b=p
    .subst hbc;rw[ai]at e;cases e;exact⟨gc,_,gc⟩
    .rw[ae hbc]at e;by_cases hbP:b=P
     .subst hbP;rw[hP]at e;cases e;exact .inr ⟨p,r,U,t,Vc _ htb,hc',hvs,hv1⟩
     .refine(I.hok b o e).stay (λd v hd q=>kp d v ?_ q) (λd q=>up _ _ q) (λd xs q=>up _ _ q) λd o' u' q=>up _ _ q;rcases hd with rfl|hd
      .exact hbP
      .intro z;rw[z,hP]at hd;cases hd
 .have hf:codeAmong pos (#[]++#[rawInt pos.line,rawInt pos.col,.ref p]:U6).toList=!(.ref p):=codeAmong_snoc [] True.intro rfl;refine PySem.W.kla_makeFunctionHit hcl I.ok.glob hg J (hC _ I.kIn) hp True.intro hf (hB _ I.kIn) λl h' tk hk hsz=>?_;have T:=I.hok.fresh hsz;have gf:(h'.push (!11)).get? h'.objs.size=!(cP q g body scope j _ p l):=Vf _ rfl;exact k h'.objs.size p l _ _ (I.laid (o:=.frz (cP q g body scope j _ p l) (.own h'.objs.size)) (λb o e=>Vc _ (hk b o e)) hsz ⟨gf,_,gf⟩) (λb o e=>by rw[ae (ak e T)];exact e) gf ai
   ⟨r,U,t,by rw[ae (ak ho T)];exact ho,C⟩
end
def Inv.adopt{σ:St}(I:Inv X pins σ H s)(g:H a=none)(U:X.s₀.heap.objs.size<=a)(hL:a≠X.env.locals)(T:∀x c,X.env.cells.lookup x=!c->c≠a)(J:∀p∈X.pn++pins,p.1≠a)(new:ObjOk X.prog X.w (upd H a o) s.heap a o):Inv X pins σ (upd H a o) s:=
 ⟨I.ok,I.os,I.bare,⟨I.base.keep,I.base.slot,λb j e n C=>by rw[ae (Nat.ne_of_lt (lt_of_lt_of_le (Heap.lt_size e) U))];exact I.base.free b j e n C,I.base.there,
   λb xs e=>by have q:=I.base.tups b xs e;rw[ae (ak q g)];exact q,λb j u e=>by have q:=I.base.frzs b j u e;rw[ae (ak q g)];exact q,
   λb ps e=>by let⟨m,q⟩:=I.base.tbls b ps e;exact⟨m,by rw[ae (ak q g)];exact q⟩⟩,
  I.loc,I.cell,by rw[ae (Ne.symm hL)];exact I.free,λx c e=>by rw[ae (T x c e)];exact I.freeC x c e,λp q=>by let⟨t,r,l⟩:=I.pin p q;exact⟨t,by rw[ae (J p q)];exact r,l⟩,I.hok.adopt g new,I.len⟩
def  CB(a:Addr):U5:=λb=>decide (b=a)
def lD(a:Addr):CB a a=true:=decide_eq_true rfl
section
variable{X:Cx}{pins:UW}{σ:St}{H:Hp}{s:Shared}
def  ur(X:Cx)(σ:St)(H:Hp)(A:Around)(f:Value)(xs:List V)(kds:U7):Prop:=
 ∀(i:Nat)(x:V)(u:Value),xs[i]?=!x->RelV x u->∀(O:U5)(pins:UW)(s:Shared)(H':Hp),Inv X pins σ H' s->(∀b,O b=true->Hid (H' b))->Same H (msk O H')->
  wpAny (!4) A (call f [u]) (EP X pins σ λv H2=>Same H' H2/\Is X.K (msk O H2) (kds.getD i .non) v) (λ_ _=>False) s
def  rP(X:Cx)(σ:St)(pins:UW)(H:Hp)(kS:Addr)(kds:U7)(i:Nat)(s:Shared):Prop:=
 ∃H' kvs,Inv X pins σ H' s/\H' kS=!(.lst kvs)/\Same H (msk (CB kS) H')/\IsL X.K (msk (CB kS) H') (kds.take i) kvs
def FP{H':Hp}(h:H' kS=!(.lst kvs)):∀b,CB kS b=true->Hid (H' b):=by simp_all [Hp,CB,Hid]
def CC{C:Except Value Value->Sem (ForInStep PUnit)}(T:ur X σ H A f xs g)(U:xs[i]?=!x)(ru:RelV x u)(hlen:g.length=xs.length)(h64:xs.length<64)(hk:rP X σ pins H p g i s)(hC:∀v,C (.ok v)=(do Builtin.List.listUpdate (.ref p) (·.push v);pure (.yield ⟨⟩))):
  wpAny (!4) A ((call f [u]).attempt>>=C) (λr s'=>r=.yield ⟨⟩/\rP X σ pins H p g (i+1) s') E s:=by
 let⟨H1,kvs,I,o,hs,J⟩:=hk
 have hi:=(Vh.mp U).1
 refine Vb (wpAny_attempt (Vz (T i x u U ru _ pins s H1 I (FP o) hs) (λr s' h=>?_) λ_ _ z=>z.elim))
 let⟨v,H2,I2,rv,l,iv⟩:=h
 rw[hC]
 have j:=l _ _ o
 let⟨hz,its,n,r1,hl,e⟩:=I2.lstM j
 have t:=J.len
 rw[List.length_take]at t
 have h64':(64:Nat)<=sizeLine:=by decide
 refine Vb (listUpdate_at e rfl ?_ (by rw[size_toArray];omega) (by rw[Array.size_push,size_toArray];omega))
 have I3:=I2.lset (t':=s'.toks) (f:=λz=>z.push r) j e (by simp) (Vals.append r1 (.cons rv .nil)) (by rw[length_append];show _+1<=_;omega)
 refine Vd ⟨rfl,_,_,I3,ai,?_,?_⟩
 .rw[gH (lD p)];exact hs.trans l.msk
 .rw[gH (lD p)];have ht:g.take (i+1)=g.take i++[g.getD i .non]:=by
   rw[List.take_add_one];have:g[i]?=!(g.getD i .non):=by
    rw[List.getD_eq_getElem?_getD,getElem?_eq_getElem (!1)];rfl
   rw[this];rfl
  rw[ht];exact(IsL.mono l.msk _ _ J).app ⟨v,[],rfl,iv,rfl⟩
def  plcK(kds:U7):U2:=if kds.length<2 then List.range kds.length else(kRun (pG λi=>flt (kds.getD i .non)) (PySem.W.kas_sort kds.length)).toList
def jb(g:U7):(plcK g).Perm (List.range g.length):=by
 unfold plcK;split
 .exact .refl _
 .exact(dt _ (!1)).1
def ut(g:U7):(plcK g).Pairwise (λa b=>HT.lexLt (flt (g.getD b .non)) (flt (g.getD a .non))=false):=by
 unfold plcK;split
 .rename_i h;match e:g.length,h with
  |0,_=>exact .nil
  |1,_=>exact List.pairwise_singleton _ _
 .exact(dt _ (!1)).2
def FQ{st}(I:Inv X ((a,seqObj "list" #[] e1)::pins) σ H2 s)(hkS:H2 kS=!(.lst kvs))(hk64:kvs.length<64)(hfl:failedOf st=none)(har:(arrOf st).map (·.2)=its.toArray)(rv:Vals ys its)(h64:its.length<64)(ha:X.s₀.heap.objs.size<=a)(hc:∀x c,X.env.cells.lookup x=!c->c≠a)(hpp:∀p∈X.pn++pins,p.1≠a)(h:∀s',Inv X pins σ (upd (upd H2 kS (.lst [])) a (.lst ys)) s'->upd H2 kS (.lst []) a=none->P (.done (.ret .none)) s'):wpAny (!4) A (ksk_tail a false e1 (.ref kS) st) P E s:=by
 have h64':(64:Nat)<=sizeLine:=by decide
 have hpin:=I.pin (a,seqObj "list" #[] e1) (Vs _ (.head _));have hak:a≠kS:=λz=>by have q:=hpin.2.1;dsimp only at q;rw[z,hkS]at q;cases q
 let⟨_,kts,n,r1,hl,e⟩:=I.lstM hkS;unfold ksk_tail;dsimp only;refine Vb (listUpdate_at e rfl ?_ (by rw[size_toArray];omega) (Nat.zero_le _));have I3:=I.lset (ys:=[]) (its':=[]) (t':=s.toks) (f:=λ_=>(#[]:U6)) hkS e rfl .nil (Nat.zero_le _);have hp3:=I3.pin (a,seqObj "list" #[] e1) (Vs _ (.head _));refine Vb (wpAny_letGo ?_);refine Vb (seqEpoch_at hp3.1 rfl ?_);refine Vb (listUpdate_at hp3.1 rfl ?_ (Nat.zero_le _) ?_)
 .rw[hfl];simp only[bne_self_eq_false,Bool.false_eq_true,if_false];refine Vd (h _ ?_ hp3.2.1);have I4:Inv X pins σ (upd H2 kS (.lst [])) {s with heap:=s.heap.update kS (Obj.mapSeq λ_=>(#[]:U6)),toks:=s.toks}:=I3.pins_of λp hp=>I3.pin p (Vs _ (Vj _ hp));obtain⟨c2,hc2⟩:∃c2,((s.heap.update kS (Obj.mapSeq λ_=>(#[]:U6))).update a (Obj.mapSeq λ_=>(arrOf st).map (·.2))).get? a=!(seqObj "list" ((arrOf st).map (·.2)) c2):=⟨_,get?_update_seq hp3.1 λ_=>(arrOf st).map (·.2)⟩;have I5:=I4.turned (t':=s.toks) (it:=a) (h':=(s.heap.update kS (Obj.mapSeq λ_=>(#[]:U6))).update a (Obj.mapSeq λ_=>(arrOf st).map (·.2))) (λb o hb q=>by rw[Heap.get?_update_ne _ _ _ _ hb];exact q) hp3.2.1 hp3.2.2.1 (.inr ha) hc hpp;refine I5.adopt hp3.2.1 ha hp3.2.2.1 hc hpp ⟨by rw[rv.length];omega,its,c2,rv,?_⟩;exact hc2.trans (by rw[har])
 .show((arrOf st).map (·.2)).size<=_;rw[har,size_toArray];omega
def Kh(hk:rP X σ ((a,seqObj "list" #[] e1)::pins) H kS g g.length s)(hu:A.units+1<cLine)(hs:cL g)(hlen:g.length=xs.length)(rv:Vals xs l)(h64:xs.length<64)(ha:X.s₀.heap.objs.size<=a)(hc:∀x c,X.env.cells.lookup x=!c->c≠a)(hpp:∀p∈X.pn++pins,p.1≠a)(h:∀s' H',Inv X pins σ (upd H' a (.lst ((plcK g).map λi=>xs.getD i .non))) s'->H' a=none->Same H H'->P (.done (.ret .none)) s'):
  wpAny (!4) A (do let keys<-Builtin.List.listItems (.ref kS);ksk_end a false l.toArray e1 (.ref kS) keys) P E s:=by
 let⟨H2,kvs,I,J,hsm,il⟩:=hk
 rw[List.take_length]at il
 have hkl:=il.len
 have hil:=rv.length
 let⟨hz,U,n,r1,hl,e⟩:=I.lstM J
 have hlt:∀i∈plcK g,i<g.length:=λi hi=>Vw.mp ((jb g).mem_iff.mp hi)
 have vv:Vals ((plcK g).map λi=>xs.getD i .non) ((plcK g).map λi=>l.getD i .none):=dE rv .non .none (λi hi=>by have:=hlt i hi;omega)
 have ln:((plcK g).map λi=>l.getD i Value.none).length<64:=by rw[length_map,(jb g).length_eq,length_range];omega
 have sm:Same H (upd H2 kS (.lst [])):=λb o q=>by
  have T:=aW (hsm b o q);rw[ae (λz=>by rw[z]at T;rw[lD]at T;cases T.1)];exact T.2
 have fin:∀st:SortSt,failedOf st=none->(arrOf st).map (·.2)=((plcK g).map λi=>l.getD i Value.none).toArray->wpAny _ A (ksk_tail a false e1 _ st) P E s:=λst hf har=>
  FQ I J (!1) hf har vv ln ha hc hpp λs' I' hn=>h s' _ I' hn sm
 refine Vb (listItems_at e rfl ?_)
 unfold ksk_end
 simp only[Bool.false_eq_true,if_false]
 by_cases h2:l.toArray.size<2
 .rw[if_pos h2,if_pos h2];refine Vb (Vd ?_);refine Vb (Vd ?_);rw[size_toArray]at h2;refine fin (SortSt.mk' general' _ #[] 7 none) rfl ?_;have ep:plcK g=List.range g.length:=if_pos (!1);rw[ep,show g.length=l.length by omega,bM];show(U.toArray.zip l.toArray).map (·.2)=l.toArray;apply Array.toList_inj.mp;simp only[Array.toList_map,Array.toList_zip];exact List.map_snd_zip (!1)
 .rw[if_neg h2,if_neg h2];rw[size_toArray]at h2;let⟨sh,hne,hs'⟩:=hs;have B:=xt I hu il.full r1 hne hs' (Vy s.heap.objs.size) s.heap (λ_ _ q=>q);refine Vb (Vz (B.kd s.heap (λ_ _ _ q=>q) (!1) (λt s'=>t=tuples' _/\s'=s) ⟨rfl,rfl⟩) ?_ λ_ _ z=>z.elim);rintro t s1 ⟨z1,z2⟩;rw[z1,z2];refine Vb (Vz (PySem.W.kat_run (Q:=λr s'=>((arrOf r).map (·.2)=((plcK g).map λi=>l.getD i Value.none).toArray/\failedOf r=none)/\s'=s) (!1) (!1) (!1)
   (G:=λp s'=>p=kRun (pG λi=>flt (g.getD i .non)) _/\s'=s) (λp r s' a1 a2 a3 a4=>⟨⟨?_,a3⟩,a4.2⟩) (rF (λi j C hi hj z=>B.cp s.heap (λ_ _ _ q=>q) i j (!1) (!1) C z) _ (rE (!1)) ⟨rfl,rfl⟩)) ?_ λ_ _ z=>z)
  .rw[PySem.W.kat_snds (!1) a2,a4.1];have ep:plcK g=(kRun (pG λi=>flt _) (PySem.W.kas_sort g.length)).toList:=if_neg (!1);rw[ep,show g.length=l.length by omega]
  .rintro⟨⟨⟩,r⟩ s2 ⟨⟨z3,z4⟩,z5⟩;rw[z5];exact fin r z4 z3
end
def FR(I:Inv X pins σ H s)(hu:A.units+1<cLine){h2:Heap}(ho:h2.get? a=!(seqObj "list" its.toArray m))(kp:∀b o,s.heap.get? b=!o->h2.get? b=!o)(ha:s.heap.objs.size<=a)(T:ur X σ H A (.ref f) xs kds)(hs:cL kds)(hlen:kds.length=xs.length)(rv:Vals xs its)(h64:xs.length<64)(h:∀s' H',Inv X pins σ (upd H' a (.lst ((plcK kds).map λi=>xs.getD i .non))) s'->H' a=none->Same H H'->P (.done (.ret .none)) s'):wpAny (!4) A (ksk_tree a (.ref f) false) P E {s with heap:=h2}:=by
 have hil:=rv.length;have h64':(64:Nat)<=sizeLine:=by decide
 have lt:=Ve ho;obtain⟨e1,ho1⟩:∃e1,(h2.update a (Obj.mapSeq λ_=>(#[]:U6))).get? a=!(seqObj "list" #[] e1):=⟨_,get?_update_seq ho λ_=>#[]⟩;have hkS:((h2.update a (Obj.mapSeq λ_=>(#[]:U6))).push (seqObj "tuple" its.toArray 0)).objs.size=h2.objs.size+1:=by rw[size_push',Heap.size_update]
 have hne:∀b o,s.heap.get? b=!o->b≠a:=λb o e=>Vo (Vl (Ve e) ha);have kp5:∀b o,s.heap.get? b=!o->(((h2.update a (Obj.mapSeq λ_=>(#[]:U6))).push (seqObj "tuple" its.toArray 0)).push (seqObj "list" #[] 0)).get? b=!o:=λb o e=>
  Vc _ (Vc _ (by rw[Heap.get?_update_ne _ _ _ _ (hne b o e)];exact kp b o e))
 have ho5:(((h2.update a (Obj.mapSeq λ_=>(#[]:U6))).push (seqObj "tuple" its.toArray 0)).push (seqObj "list" #[] 0)).get? a=!_:=Vc _ (Vc _ ho1);have hsk:=Vn ha (Vu (Nat.lt_succ_of_lt lt));have hak:=Vo (Nat.lt_succ_of_lt lt);have kSn:=I.hok.fresh hsk;have an:=I.hok.fresh ha;have I5:Inv X pins σ (upd H (h2.objs.size+1) (.lst [])) {s with heap:=((h2.update a (Obj.mapSeq λ_=>(#[]:U6))).push _).push _,toks:=s.toks}:=
  I.laid kp5 hsk ⟨Nat.zero_le _,[],0,.nil,by rw[<-hkS];exact Vf _ rfl⟩
 have hL:=Nat.ne_of_gt (Vl I.lt ha);have I6:Inv X ((a,seqObj "list" #[] e1)::pins) σ (upd H (h2.objs.size+1) (.lst [])) {s with heap:=((h2.update a (Obj.mapSeq λ_=>(#[]:U6))).push (seqObj "tuple" its.toArray 0)).push (seqObj "list" #[] 0),toks:=s.toks}:=by
  refine I5.pins_of λp hp=>?_;rcases mem_cons.mp hp with rfl|hp
  .exact⟨ho5,by rw[ae hak];exact an,hL,I.nofs ha,λv z=>by cases z⟩
  .exact I5.pin p (Vs _ hp)
 refine Vb (listItems_at ho rfl ?_);refine Vb (listUpdate_at ho rfl ?_ (by rw[size_toArray];omega) (Nat.zero_le _));refine Vb (seqEpoch_at ho1 rfl ?_);refine Vb (wpAny_newTuple ?_ (by show its.length<=_;omega));refine Vb (wpAny_newList ?_ (Nat.zero_le _));refine wpAny_holding ?_;rw[hkS];refine Vb (wpAny_rule ?_);first
  |rw[List.forIn_toArray]
  |(rw[<-Array.forIn_toList];simp only[List.toList_toArray])
  |rw[<-Array.forIn_toList]
 refine Vb (ksk_fold (λi s'=>rP X σ ((a,seqObj "list" #[] e1)::pins) H (h2.objs.size+1) kds i s') its 0 _ ?_ ?_ ?_)
 .refine⟨_,[],I6,ai,λb o e=>?_,rfl⟩;have hb:=ak e kSn;rw[aN (decide_eq_false hb),ae hb];exact e
 .intro j u s' hu' hk;rw[Nat.zero_add]at hk⊢;have hj:=(Vh.mp hu').1;obtain⟨x,hx⟩:∃x,xs[j]?=!x:=⟨_,getElem?_eq_getElem (!1)⟩;let⟨u2,h1,rx⟩:=rv.get hx;rw[hu']at h1;cases h1;exact CC T hx rx hlen h64 hk (λv=>rfl)
 .intro s' hk;rw[Nat.zero_add,show its.length=kds.length by omega]at hk;exact Kh hk hu hs hlen rv h64 (Vn I.sz ha) (λx c e z=>by
   let⟨v,o,hoc,_⟩:=I.cell x c e;exact absurd (Vl (Ve hoc) (by rw[z];exact ha)) (Vt _)) (λp hp z=>absurd (Vl (Ve (I.pin p hp).1) (by rw[z];exact ha)) (Vt _)) h
def wu{X:Cx}{pins:UW}{σ:St}{H:Hp}{s:Shared}(I:Inv X pins σ H s)(hu:A.units+3<cLine)(hx:SqL X.K H l xs)(T:ur X σ H A.in1.in1 (.ref f) xs j)(hs:cL j)(C:j.length=xs.length)(J:xs.length<64)(h:∀a s' H',Inv X pins σ (upd H' a (.lst ((plcK j).map λi=>xs.getD i .non))) s'->H' a=none->Same H H'->U (.ref a) s'):wpAny (!4) A (call (.builtin "sorted") [.ref l] [(Str.ofString "key",.ref f)]) U E s:=by
 let⟨g,rv,pl,hz⟩:=I.list hx;have hl:=pl.isList;have hil:=rv.length;refine call_function_entry_kw kind_sorted plain_sorted entry_sorted (ksk_s1 _ _) ?_;refine Vb (Vd ?_);refine Vb (collect_list hl ?_ (!1));refine Vb (wpAny_newList ?_ (!1));have p:((s.heap.push (seqObj "list" #[] 0)).update s.heap.objs.size (Obj.mapSeq (·++g.toArray))).objs.size=s.heap.objs.size+1:=by rw[Heap.size_update,size_push']
 have t:(((s.heap.push (seqObj "list" #[] 0)).update s.heap.objs.size (Obj.mapSeq (·++g.toArray))).push (seqObj "list" g.toArray 0)).get? (!13)=!(seqObj "list" g.toArray 0):=by
  rw[<-p];exact Vf _ rfl
 have keep:∀b o,s.heap.get? b=!o->(((s.heap.push _).update s.heap.objs.size (Obj.mapSeq (·++g.toArray))).push (seqObj "list" g.toArray 0)).get? b=!o:=λb o q=>by
  have r:=Ve q;rw[Heap.get?_push_ne _ _ _ (by rw[p];exact Vo (Nat.lt_succ_of_lt r)),Heap.get?_update_ne _ _ _ _ (Vo r),Heap.get?_push_ne _ _ _ (Vo r)];exact q
 rw[p];refine Vb (wpAny_holding (wpAny_call_entry_kw slot_list_sort ⟨_,t,rfl⟩ entry_list_sort ?_ (ksk_l1 _ _)));refine FR I (by show A.units+1+1+1<_;omega) t keep (Nat.le_succ _) T hs C rv J λs' H' I' hn sm=>⟨_,rfl,?_⟩;exact Vd ⟨_,rfl,h _ s' H' I' hn sm⟩
structure LamAt(X:Cx)(x y:Str)(i:Nat)(params:Arguments)(body:Expr)(scope:Scope)(lpos:Pos)(P c0:Addr)(fb:UR):Prop where
 tab:lamTabs.lookup P=!(lpos,X.env.qual++"<lambda>")
 code:X.env.code=.ref c0
 hd:PySem.W.codeHdIn X.K c0 P=true
 blt:∀h:Heap,X.K.In h->h.BuiltinsAt X.mg P
 ne:mainGlobals≠P
 sc:LamSc scope x y
 names:scope.names=[(x,.local),(y,.free)]
 kind:X.env.kindOf y=some .cell
 pos:X.N[i]?=!y
 dfl:defaultsOf params X.env=([],[])
 bind:∀q cl pm c' ctv u,bindArgs (Cz q params body scope cl pm c' ctv) ⟨[u],[]⟩=pure [(x,u)]
 body:∀A q L f c' c s H,PP (RM X A [x,y] (PySem.W.envX q scope L f c' [(y,c)]) s H) body fb
def CD(g:scope.names=[(x,.local),(y,.free)])(j:env.cells.lookup y=!c):closureFor scope env=pure [(y,c)]:=by
 unfold closureFor;rw[g];have e:cellOf env y=pure c:=by unfold cellOf;rw[j]
 grind
noncomputable def  mo(fb:UR)(dy:D):U7->UY
 |[]=>![]
 |d::ds=>(fb [!d,!dy]).bind λk=>(mo fb dy ds).bind λks=>!(k::ks)
def qy:∀{ds ks:U7},mo fb dy ds=!ks->ks.length=ds.length
 |[],_,h=>by cases h;rfl
 |d::ds,_,h=>by
  let⟨k,_,h⟩:=VA h;let⟨ks,h2,h⟩:=VA h;cases h;rw[length_cons,length_cons,qy h2]
def uu:∀{ds ks:U7},mo fb dy ds=!ks->∀{j:Nat}{d:D},ds[j]?=!d->fb [!d,!dy]=!(ks.getD j .non)
 |[],_,_,_,_,e=>by cases e
 |d::ds,_,h,j,d',e=>by
  let⟨k,h1,h⟩:=VA h;let⟨ks,h2,h⟩:=VA h;cases h;match j,e with
  |0,e=>cases e;exact h1
  |j+1,e=>exact uu h2 e
section
variable{X:Cx}{σ:St}{H:Hp}
def CF(L:LamAt X x y i g body scope lpos P c0 fb)(hA:A.frames=!X.stack)(hh:A.handled=none)(l:A.depth<recursionLimit)(hf:H f=!(.frz (cP q g body scope [(y,c)] pm c' ctv) (.own f)))(hcc:∃J r t,H c'=!(.frz J (.own P))/\J.data=.fields r/\r[1]?=!(.str q t))(hc:X.env.cells.lookup y=!c)(il:IsL X.K H ds xs)(hσ:σ[i]?=!(!vy))(iy:Is X.K H dy vy)(hk:mo fb dy ds=!U):ur X σ H A (.ref f) xs U:=by
 intro j x' u hx rx O pins s H' I hO C;let⟨J,r,t,h1,h2,h3⟩:=hcc;have gf:=(I.hok f _ (aW (C _ _ hf)).2).1;have gc:=(I.hok c' _ (aW (C _ _ h1)).2).1;let⟨m,_,hl⟩:=I.loc;let⟨w,T,lk⟩:=hl i y vy L.pos hσ (.inr (.inl L.kind));have p:s.heap.IsCell c (!w):=by
  rcases lk with⟨z,_⟩|⟨_,c2,z,q⟩
  .rw[L.kind]at z;cases z
  .rw[hc]at z;cases z;exact q
 obtain⟨d,hd,ix⟩:∃d,ds[j]?=!d/\Is X.K H d x':=by
  have hj:j<ds.length:=by rw[il.len];exact(Vh.mp hx).1
  let⟨z,e,q⟩:=gG il.paired (getElem?_eq_getElem hj);rw[hx]at e;cases e;exact⟨_,getElem?_eq_getElem hj,q⟩
 refine FO I hA hh l L.sc gf ⟨c',J,r,t,rfl,gc,h2,h3⟩ (L.bind _ _ _ _ _ u) hc p T rx (L.body A q _ f _ c s H' O [!d,!dy]) ?_;refine⟨⟨hO,rfl,λn e o=>?_⟩,_,uu hk hd,λv H2 s2 iv=>⟨s2,iv⟩⟩;match n,o with
 |0,o=>cases o;exact⟨_,rfl,Is.mono C _ _ ix⟩
 |1,o=>cases o;exact⟨_,rfl,Is.mono C _ _ iy⟩
 |n+2,o=>cases o
def  CG(fb:UR)(i:Nat)(Y:Vv):U7->UY:=tq λd=>(lu d).bind λds=>(bF Y i).bind λdy=>(mo fb dy ds).bind λks=>
 if ds.length<64/\cL ks then !((plcK ks).map λj=>ds.getD j .non)else none
def CH(hr:Room k X.A)(hg:Gl X "sorted")(hm:X.mg "sorted"=none)(ha:PX X [m] fm)(hs:starEach [m] X.env=[(false,eval m X.env)])(L:LamAt X x y i o body scope J P c0 fb):PF X (.Call (.Name "sorted" p) [m] [⟨some "key",.Lambda o body scope J,kp⟩] pos) (λY=>(fm Y).bind (CG fb i Y)):=by
 intro O Y pins s σ H Q I ⟨E,ds,q,k'⟩;let⟨as,e1,q⟩:=VA q;let⟨d,rfl,q2⟩:=bd q;let⟨es,q3,q4⟩:=VA q2;let⟨dy,q5,q6⟩:=VA q4;let⟨ks,q7,q8⟩:=VA q6;let⟨⟨h64,hsh⟩,q9⟩:=aw q8;subst q9;refine wpAny_Call_Name_kw (dI I hg hm vJ ?_ (!3) (!3));refine callWith_kw (bq (ha O Y pos pins s σ H (λU H1=>Same H H1/\IsL X.K _ [d] U) I ⟨E,[d],e1,λU H1 s1 il=>⟨s1,il⟩⟩) λus s1 h1=>?_) (by rw[hs];rfl) (by rw[hs];rfl);let⟨U,H1,I1,r1,r,il⟩:=h1;let⟨v,rfl,h⟩:=uQ il;let⟨l,ys,rfl,t,l2⟩:=cH q3 h;let⟨u,rfl,ru⟩:=fC r1;cases ru;let⟨vy,hσ,iy⟩:=(E.grow r).sh i dy (qc q5);let⟨c,hc⟩:=I.ok.has y (.inl L.kind);refine kws_cons (PySem.W.kla_eval L.dfl (CA I1 (I1.tab P _ L.tab) L.code (λh K=>PySem.W.codeHd_of_K K L.hd) L.blt L.ne (CD L.names hc) λf c' ctv s2 H2 I2 g gf hf hcc=>kws_nil ?_));have l3:=IsL.mono g _ _ l2.full;have T:ur X σ H2 X.A.in1.in1 (.ref f) ys ks:=CF (A:=X.A.in1.in1) L I.ok.frames hr.hd (by have:=hr.dp;show X.A.depth<_;omega) hf hcc hc l3 hσ (Is.mono g _ _ (Is.mono msk_le _ _ iy)) q7;have hlen:=qy q7;have hl2:=l2.len;refine wu I2 (by have:=hr.un;omega) (SqL.up g (msk_le.seq t)) T hsh (!1) (!1) λa s3 H3 I3 hn C=>⟨.ref a,_,I3,rfl,k' a _ H3 ((r.trans g).trans C) hn ?_⟩;refine IsL.of (dE (IsL.mono (g.trans C).msk _ _ l2).paired .non .non λj hj=>?_);have:=Vw.mp ((jb ks).mem_iff.mp hj);omega
end
def  xR(K:Frag)(x:Str)(st:Stmt)(P:Addr):Prop:=∃(f c0:Addr)(oc:Value)(od an:Option Addr)(osl:Array (U1))(kV doc pm ct:Value),nsIn K mainGlobals x=!(!(.ref f))/\
 K.lookup f=!⟨oc,od,.func (PySem.W.fnOf x x (bG st) (aL st) (ah st) .none kV doc pm an (.ref c0) ct),osl⟩/\PySem.W.codeIn K (.ref c0) x=true/\PySem.W.keepIn K (.ref f)=true/\PySem.W.codeHdIn K c0 P=true
def  xS(K:Frag)(P:Addr):Prop:=∃(bm:Addr)(o:Obj),nsIn K mainGlobals "__builtins__"=!(!(.ref bm))/\bm≠builtinsNs/\bm≠mainGlobals/\bm≠P/\K.lookup bm=!o/\o.cls=.type "module"/\o.dict=!builtinsNs/\o.data=.plain
def  zn(fm:UQ)(fb:UR)(i:Nat):UQ:=λY=>(fm Y).bind (CG fb i Y)
def  FS(fm:UQ)(fb:UR)(i:Nat):US:=ab (dO (a8 (mE λY=>jm (zn fm fb i Y)) (qk (zn fm fb i)))) λY=>!(.nx Y)
def Ki{P:Program}{w:World}{K:Frag}{mg:Str->U1}{base:Heap}(g:GbOk P w K mg base G)(KX:K.In h)(hN:h.Ns mainGlobals mg){st}(k:Nat)(S:FnScope N ps (ah st))(b:bp x st ps)(t:xR K x st U)(hb:xS K U)(hst:aL st=[.Return (!(.Call (.Name "sorted" p) [.Name m mp] [⟨some "key",.Lambda l body scope C,kp⟩] pos)) rpos])(tab:lamTabs.lookup U=!(C,(x++".<locals>.")++"<lambda>"))(ne:mainGlobals≠U)(sc:LamSc scope z y)(I:scope.names=[(z,.local),(y,.free)])(hy:N[i]?=!y)(hm:N[j]?=!m)(hyk:(ah st).names.lookup y=some .cell)(hmk:(ah st).names.lookup m=some .local)(hmd:(m==("__debug__":Str))=false)(hmc:(m==("__classdict__":Str))=false)(dfl:∀env,defaultsOf l env=([],[]))(bind:∀q cl pm c' ctv u,bindArgs (Cz q l body scope cl pm c' ctv) ⟨[u],[]⟩=pure [(z,u)])(J:∀X:Cx,X.N=[z,y]->X.env.scope=scope->PP X body fb)(hgl:qr (rL N st k G) "sorted"=true)(hno:G.no "sorted"=true):
  Df P w K mg base x (k+1) (aI ps.length N.length (FS (ac (va j) λ_=>![]) fb i)):=by
 let⟨f,c0,oc,od,an,osl,kV,T,pm,ct,h1,h2,h3,h4,h5⟩:=t
 have Fn:=nu h2 h3 h4
 refine⟨f,_,ps,PySem.W.mg_of KX hN h1,h4,Fn.binds λkV T pm an cdv ct us hl=>b x kV T pm an cdv ct us hl,?_⟩
 refine Hb h2 h3 S (λvs H Q E ⟨O,ds,d,_,il,e,_⟩=>by rw[<-il.len];exact(i7 e).1) (λA r s H vs Q E hr ⟨O,ds,d,hd,il,e,kk⟩=>?_)
 have o:=(ue g S _ A r s H E hr).s
 have pr:zD (nq qV P w K mg base N x (ah st) f (.ref c0) A r s H E).nox (aL st) (FS (ac (va j) λ_=>![]) fb i):=by
  rw[hst];let⟨ok,gl⟩:=aX o hgl;have L:LamAt (nq qV P w K mg base N x (ah st) f (.ref c0) A r s H E).nox z y i l body scope C U c0 fb:=
   ⟨tab,rfl,h5,λh' K'=>?_,ne,sc,I,hyk,hy,dfl _,bind,λA' q L' f' c' c s' H'=>J _ rfl rfl⟩
  .have F:=(CH (p:=p) (pos:=pos) (kp:=kp) o.room gl (o.g.no _ hno) (px_cons (e:=.Name m mp) (nF j hm (.inl hmk) hmd hmc) vj) rfl L).u rfl;exact xc (vA (xa (Hk (AU F)) (AV F))) AW
  .let⟨bm,ob,b1,b2,b3,b4,b5,b6⟩:=hb;exact⟨bm,ob,PySem.W.mg_of KX hN b1,b2,b3,b4,K' _ _ b5,b6⟩
 refine⟨_,(pr ⟨H,O⟩ O _).nox,nS hd il,?_⟩
 let⟨o',e1,e2⟩:=VA (i7 e).2
 refine⟨o',e1,?_⟩
 cases o' with
 |rt d'=>cases e2;exact kk
 |nx Y=>cases e2;exactλσ' H' O' s' E'=>kk .non H' ⟨O',[],E'.same,E'.sub,E'.lis,List.nodup_nil,λ_ h=>(nomatch h),rfl,rfl⟩
 |bk Y=>cases e2
 |ct Y=>cases e2
noncomputable abbrev Uw(l:Nat):Arguments:={posonlyargs:=[],args:=[{arg:="letter",annotation:=none,pos:=⟨l,38,l,44⟩}],vararg:=none,kwonlyargs:=[],kw_defaults:=[],kwarg:=none,defaults:=[]}
noncomputable abbrev Ux(l:Nat):Expr:=.Tuple [.Subscript (.Subscript (.Name "letters" ⟨l,47,l,54⟩) (.Name "letter" ⟨l,55,l,61⟩) ⟨l,47,l,62⟩) (.Constant (.int 1) 0 ⟨l,63,l,64⟩) ⟨l,47,l,65⟩,.Name "letter" ⟨l,67,l,73⟩] 0 ⟨l,46,l,74⟩
noncomputable abbrev S1:Scope:={kind:=.function,names:=[(Str.ofString "letter",.local),(Str.ofString "letters",.free)],isGenerator:=false,isCoroutine:=false,more:=[]}
abbrev Uy:UR:=cu (ac (aa am (aa am (va 1) (va 0)) (cI 1)) (ac (va 0) ax))
def  RN(l:Nat):List Stmt:=[.Return (!(.Call (.Name "sorted" ⟨l,11,l,17⟩) [.Name "members" ⟨l,18,l,25⟩] [⟨some "key",.Lambda (Uw l) (Ux l) S1 ⟨l,31,l,74⟩,⟨l,27,l,74⟩⟩] ⟨l,11,l,75⟩)) ⟨l,4,l,75⟩]
def RO:LamSc S1 "letter" "letters" where
 xl:=rfl
 yf:=rfl
 only:=λz h=>by
  have h':(if z==Str.ofString "letter"then !NameKind.local else if z==Str.ofString "letters"then some .free else none)=some .free:=by
   rw[<-h];rw[List.lookup_cons,List.lookup_cons];cases z==Str.ofString "letter"<;>cases z==Str.ofString "letters"<;>rfl
  split at h'
  .cases h'
  .split at h'
   .rename_i q;exact eq_of_beq q
   .cases h'
 nocell:=λz g=>by
  rcases mem_cons.mp g with rfl|g
  .decide
  .rw[mem_singleton.mp g];decide
 kind:=rfl
 co:=rfl
 gen:=rfl
 ne:=by decide
def FT{P:Program}{w:World}{K:Frag}{mg:Str->U1}{base:Heap}(g:GbOk P w K mg base G)(U:K.In h)(T:h.Ns mainGlobals mg){st}(k l:Nat)(S:FnScope ["letters","members"] ["letters","members"] (ah st))(b:bp "as_they_come" st ["letters","members"])(t:xR K "as_they_come" st I)(J:xS K I)(o:aL st=RN l)(tab:lamTabs.lookup I=!((⟨l,31,l,74⟩:Pos),("as_they_come.<locals>.<lambda>":Str)))(ne:mainGlobals≠I)(j:(ah st).names.lookup (Str.ofString "letters")=!NameKind.cell)(r:(ah st).names.lookup (Str.ofString "members")=!NameKind.local)(C:qr (rL ["letters","members"] st k G) "sorted"=true)(p:G.no "sorted"=true):
  Df P w K mg base "as_they_come" (k+1) (aI 2 2 (FS (ac (va 1) λ_=>![]) Uy 0)):=
 Ki g U T k S b t J o tab ne RO rfl rfl rfl j r (!3) (!3) (λ_=>rfl) (λ_ _ _ _ _ _=>rfl) (λX h1 h2=>
  Ay (px_cons (pp_ix (pp_ix (nF 1 (by rw[h1];rfl) (by rw[h2];exact .inr (.inr rfl))) (nF 0 (by rw[h1];rfl) (by rw[h2];exact .inl rfl))) pp_int) (px_cons (nF 0 (by rw[h1];rfl) (by rw[h2];exact .inl rfl)) vj))) C p
def cons_in{K:Frag}(l:K.lookup g=none)(X:Frag.In ((g,o)::K) h):K.In h/\h.get? g=!o:=by
 refine⟨λb j e=>X b j ?_,X g o ?_⟩;all_goals grind
def tabs_of{K}(p:lamTabs=[(g,z)])(l:K.lookup g=none)(X:K.In h)(j:h.get? g=some {cls:=.none,data:=.fields #[]})(o:PySem.W.codeHdIn K c0 g=true):qU K h:=λb y e=>by
 rw[p,List.lookup_cons]at e;cases q:b==g with
 |true=>
  rw[eq_of_beq q];exact⟨j,l,((PySem.W.codeHd_of_K X o).tab j).isCodeTable⟩
 |false=>rw[q]at e;cases e
def cn_3str{K}(X:K.In h)(I:h.Ns mainGlobals mg)(t:∃(a:Addr)(C:Option Addr)(n:Nat)(r:Array (U1))(o:Tok)(j:Tok)(g:Tok),nsIn K mainGlobals x=!(!(.ref a))/\K.lookup a=!⟨.type "tuple",C,.seq #[.str y o,.str z j,.str p g] n,r⟩):Cn K mg x (.tup [.str y,.str z,.str p]):=by
 let⟨a,C,n,r,o,j,g,e,l⟩:=t;refine⟨.ref a,_,PySem.W.mg_of X I e,rfl,λH=>⟨a,[.str y,.str z,.str p],rfl,.inr ⟨_,_,n,l,rfl,rfl,?_,?_⟩,⟨_,_,rfl,rfl,⟨_,_,rfl,rfl,⟨_,_,rfl,rfl,rfl⟩⟩⟩⟩⟩
 .show 3<=sizeLine;decide
 .exact .cons ⟨o,rfl⟩ (.cons ⟨j,rfl⟩ (.cons ⟨g,rfl⟩ .nil))
def  uv(eN:xx)(ji:xx):US:=(ab (eV (nK (bB (iP (a7 c8 (ac (va 1) (ac (cT "tuple") ax))))) (al (aa (aK true) (a7 dM (ac (va 1) ax)) (cI 2)))) (ab (dO (bi (cB false) ag ag)) aH) aH) (ab (dO (bi (pC (bf ji (ac (aa am (va 1) (cI 0)) ax)) (bf eN (ac (va 0) (ac (aa am (va 1) (cI 1)) ax)))) ag ag)) aH))
def  kN(fK:xx):US:=(ab (eV (nK (bB (iP (a7 c8 (ac (va 1) (ac (cu (ac (cT "list") (ac (cT "tuple") ax))) ax))))) (al (aa Aw (a7 dM (ac (va 1) ax)) (cD (.int 24))))) (ab noO' aH) aH) (ab (eV (bB (iP (a7 fy (ac (a6 (af [2] (jX ag (va 1)) (gNm 2) tQ (bf fK (ac (va 0) (ac (va 2) ax))))) ax)))) (ab noO' aH) aH) aH))
def  zo:US:=(ab (dO (bi (aa aC (va 1) (aa aJ (a7 dM (ac (va 0) ax)) (aa am (aa am (va 0) (va 1)) (cI 1)))) (nW (va 1) (aa aJ (a7 dM (ac (va 0) ax)) (aa am (aa am (va 0) (va 1)) (cI 1)))) ag)) aH)
structure Lt where
 s:Int
 t:Nat
 w:U2
def N0(h:(xs Y).bind xi=!ds):jX (Lw xs) R Y=!ds:=by
 unfold jX a8 Lw;rw[h]
def qz{g:Type}{f}(xs:List g):ma (xs.map f)=(xs.zipIdx).map λp=>.tup [.int (p.2:Nat),f p.1]:=by
 unfold ma;rw[List.zipIdx_map,List.map_map];rfl
noncomputable def  rowD(r:U2):D:=.lst (!8)
def kO{R L Sp}(h:R (vw Y)=!d)(f:lfD d=false)(j:L (vw Y)=!ds)(l:cF ds=false)(g:Sp (vw Y)=!e):bi R L Sp Y=!((.deep,e),Y):=by
 unfold bi a8 mE frX a8 sC jm;grind
def qA:∀{es:U7},cF es=true->extC .deep es=.deep
 |[],_=>rfl
 |d::es,h=>by
  rw[Cg,and_eq_true]at h;show extC (newCat .deep (extS d)) es=.deep;rw[show newCat .deep (extS d)=.deep by unfold extS newCat;rw[h.1];rfl];exact qA h.2
def lE(h0:ownL Y i=!(.deep,ds))(j:R (c9 Y)=!(.lst es))(lf:cF es=true)(g:ds.length+es.length<big):lB i R Y=!(.nx (Y.set i (!(.deep,.lst (ds++es))))):=by
 have e:yU i R Y=!(.nx (Y.set i (!(.deep,.lst (ds++es))))):=by
  unfold yU;rw[h0];simp only[Option.bind_some,j];show(if ds.length+es.length<big then _ else _)=_;rw[if_pos g,qA lf]
 unfold lB a8;rw[e]
end L2
namespace L2
open PySem PySem.Spec PyProof.Rows
def rQ{i:Nat}{g}{Y:Ev}{s:Sl}(h:g Y=!(s,db Y))(ho:ownL (db Y) i=none):gq i g Y=none:=by
 unfold gq;cases ownL Y i with
 |none=>rfl
 |some w=>simp only[Option.bind_some,h,ho,Option.bind_none]
section
variable{G F:US}{Y Y':Ev}{out:Option Out}
def q_set(h:g Y=!(s,Y'))(k:G (Y'.set i (!s))=out):ab (av i g) G Y=out:=(ar (ca h)).trans k
def oI(h:f (vw Y)=!d)(k:G Y=out):ab (jH f) G Y=out:=(ar (Cu h)).trans k
def q_if0(h:c (vw Y)=!false)(k:G Y=out):ab (eV c F aH) G Y=out:=(ar ((eZ h).trans rfl)).trans k
def q_st(h:F Y=!(.nx Y'))(k:G Y'=out):ab F G Y=out:=(ar h).trans k
def q_ret(h:g Y=!(s,Y')):ab (dO g) G Y=!(.rt s):=aO (bj h)
def N1(I:Nat->Ev->Prop)(j:J (c9 Y)=!ds)(h0:I 0 Y)(g:∀(i:Nat)(d:D)(Y:Ev),ds[i]?=!d->I i Y->∃Y',(tg d Y).bind F=!(.nx Y')/\I (i+1) Y')(k:∀Y',I ds.length Y'->G Y'=out):ab (iQ J tg F) G Y=out:=by
 let⟨Y',e,i⟩:=ja I j h0 g;exact(ar e).trans (k _ i)
def q_forB{j:Type}{xs:List j}{mk}(I:Nat->Ev->Prop)(o:J (c9 Y)=!(xs.map mk))(h0:I 0 Y)(l:∀(i:Nat)(x:j)(Y:Ev),xs[i]?=!x->I i Y->∃Y',(tg (mk x) Y).bind F=!(.nx Y')/\I (i+1) Y')(k:∀Y',I xs.length Y'->G Y'=out):ab (iQ J tg F) G Y=out:=N1 I o h0 (λi d Y hd hi=>by
 rw[getElem?_map]at hd;cases g:xs[i]? with
 |none=>rw[g]at hd;cases hd
 |some x=>rw[g]at hd;cases hd;exact l i x Y g hi) (by rw[length_map];exact k)
def q_rng{v:Nat->Int}(I:Nat->Ev->Prop)(j:J (c9 Y)=!((!19).map λi=>D.int (v i)))(h0:I 0 Y)(g:∀(i:Nat)(Y:Ev),i<n->I i Y->∃Y',F (Y.set s (!(.sh,.int (v i))))=!(.nx Y')/\I (i+1) Y')(k:∀Y',I n Y'->G Y'=out):ab (iQ J (dq s) F) G Y=out:=by
 let⟨Y',e,i⟩:=kL I j h0 g;exact(ar e).trans (k _ i)
def Kj{i:Nat}{J:UQ}{tg:D->Ev->Option Ev}{x:Out}(h:J (c9 Y)=none)(e:iL J tg F (frzS [i] Y)=!x):B8 i J tg F Y=!x:=by
 unfold B8 a8;rw[show iL J tg F Y=none by unfold iL;rw[h];rfl];simp only[e]
end
def j0:∀r:U2,a9 (!8)=!(r.map λ(k:Nat)=>(k:Int))
 |[]=>rfl
 |k::r=>by
  show(a9 (!8)).bind (λxs=>!((k:Int)::xs))=_;rw[j0 r];rfl
def FU{r:U2}(h:r.Perm (!19)):fT (r.map λ(k:Nat)=>(k:Int))=(!19).map λ(k:Nat)=>(k:Int):=by
 refine(Bk (h.symm.map _) ?_).symm;rw[List.pairwise_map];exact List.pairwise_lt_range.imp λh=>by omega
def CI(h:r.Perm (!19))(j:n<=24):kt [rowD r]=!((!19).map λ(k:Nat)=>D.int (k:Int)):=by
 show((a9 (!8)).bind λg=>if g.length<64 then !((fT g).map D.int)else none)=_;rw[j0];simp only[Option.bind_some];have l:r.length=n:=by rw[h.length_eq,length_range]
 rw[if_pos (by rw[length_map];omega),FU h,List.map_map];rfl
def Kk{n:Nat}(g:n<=24):Pp [.int (n:Int)]=!((!19).map λ(k:Nat)=>D.int (k:Int)):=by
 show(if Hg (n:Int)/\(n:Int)<1000000 then !(mB 0 (n:Int).toNat)else none)=_;rw[if_pos ⟨xP (!1),by omega⟩,Int.toNat_natCast,wj]
def rR:∀r:U2,qi (!8)=true/\dN (!8)=0
 |[]=>⟨rfl,rfl⟩
 |k::r=>⟨by show(true&&qi _)=true;rw[(rR r).1];rfl,by show max 0 (dN _)=0;rw[(rR r).2];rfl⟩
def rS(neg:Bool)(h2:lw d=true)(j:pv d<=50)(g:IN d d=true)(h1:bL d=false):aK neg d d=!(.bl (not neg)):=by
 unfold aK l8;rw[show(bL d&&bL d&&zT (nL d) (nL d))=false by rw[h1];rfl,if_neg (!3),h2,g,decide_eq_true j,if_pos (by rfl),tE _ h2];cases neg<;>rfl
def Kl(neg:Bool)(r:U2):aK neg (rowD r) (rowD r)=!(.bl (not neg)):=rS neg (rR r).1 (by show dN _+1<=50;rw[(rR r).2];decide) rfl rfl
def mq(h:L Y=!ds):DH xs L Y=!(.lst ds):=by
 unfold DH a8 a6;have:(xs Y).bind ou=none:=by cases xs Y<;>rfl
 grind
def RP(g:n<=24)(h:ys Y=![.int (n:Int)]):a8 (Pw ys) zs Y=!((!19).map λ(k:Nat)=>D.int (k:Int)):=by
 have:Pw ys Y=!((!19).map λ(k:Nat)=>D.int (k:Int)):=by
  unfold Pw;rw[h];exact Kk g
 unfold a8;rw[this]
def  Wide(ps:UV):Prop:=∀p∈ps,∀k∈p,1<=k.2
def CJ(o:UX)(Y:Ev):c9 (o::Y)=IV o::c9 Y:=rfl
@[simp]def Km(a b c d:D):bJ (![a,b,c,d])=![a,b,c,d]:=fG (show 4<big by decide)
@[simp]def P1(a b c d e f g h i j:D):bJ (![a,b,c,d,e,f,g,h,i,j])=![a,b,c,d,e,f,g,h,i,j]:=fG (show 10<big by decide)
section
variable{α:Type}{G F:US}{Y Y':Ev}{out:α->Option Out}{P:α->Prop}
def kP(h:F Y=!(.nx Y'))(k:∃a,G Y'=out a/\P a):∃a,ab F G Y=out a/\P a:=k.imp λ_ q=>⟨(ar h).trans q.1,q.2⟩
def x_set(h:g Y=!(s,Y'))(k:∃a,G (Y'.set i (!s))=out a/\P a):∃a,ab (av i g) G Y=out a/\P a:=kP (ca h) k
def wv{b:Bool}(h:c (vw Y)=!b)(k1:∃Y',(if b then F Y else g Y)=!(.nx Y')/\∃a,G Y'=out a/\P a):∃a,ab (eV c F g) G Y=out a/\P a:=by
 let⟨Y',e,k⟩:=k1;cases b with
 |true=>exact kP ((ifS_t h).trans e) k
 |false=>exact kP ((eZ h).trans e) k
def x_rng{v:Nat->Int}(I:Nat->Ev->Prop)(j:J (c9 Y)=!((!19).map λi=>D.int (v i)))(h0:I 0 Y)(g:∀(i:Nat)(Y:Ev),i<n->I i Y->∃Y',F (Y.set s (!(.sh,.int (v i))))=!(.nx Y')/\I (i+1) Y')(k:∀Y',I n Y'->∃a,G Y'=out a/\P a):∃a,ab (iQ J (dq s) F) G Y=out a/\P a:=by
 let⟨Y',e,i⟩:=kL I j h0 g;exact kP e (k _ i)
def x_for{j:Type}{xs:List j}{mk}(I:Nat->Ev->Prop)(o:J (c9 Y)=!(xs.map mk))(h0:I 0 Y)(l:∀(i:Nat)(x:j)(Y:Ev),xs[i]?=!x->I i Y->∃Y',(tg (mk x) Y).bind F=!(.nx Y')/\I (i+1) Y')(k:∀Y',I xs.length Y'->∃a,G Y'=out a/\P a):∃a,ab (iQ J tg F) G Y=out a/\P a:=by
 let⟨Y',e,i⟩:=ja I o h0 (λi d Y hd hi=>by
  rw[getElem?_map]at hd;cases g:xs[i]? with
  |none=>rw[g]at hd;cases hd
  |some x=>rw[g]at hd;cases hd;exact l i x Y g hi)
 rw[length_map]at i;exact kP e (k _ i)
def x_end{P:Ev->Prop}(h:P Y):∃a,aH Y=!(.nx a)/\P a:=⟨Y,rfl,h⟩
def N2{P:Ev->Prop}(h:g Y=!(.nx Y'))(p:P Y'):∃a,ab g aH Y=!(.nx a)/\P a:=kP h (x_end p)
end
abbrev dp(d:D):UX:=!(.deep,d)
abbrev sn(d:D):UX:=!(.sh,d)
abbrev iN(n:Nat):D:=.int (n:Int)
abbrev Fn:=List D->Option Sl
abbrev Fv:=Vv->Option D
abbrev Fx:=Vv->Option (List D)
abbrev b8(R:Fv):=bi R ag ag
abbrev mI(f:Fn)(xs:Fx):=bi (bf f xs) ag (Hw f xs)
abbrev sE:=bi (a6 (fV ax)) (fV ax) (B7 ax)
abbrev jR(xs:Fx):=jX (NK xs) (a7 ou xs)
abbrev gN(g:UU):=ab (dO g) aH
abbrev x1(a:Fv):Fx:=ac a ax
abbrev x2(a b:Fv):Fx:=ac a (x1 b)
abbrev x3(a b c:Fv):Fx:=ac a (x2 b c)
abbrev x4(a b c d:Fv):Fx:=ac a (x3 b c d)
abbrev x5(a b c d e:Fv):Fx:=ac a (x4 b c d e)
abbrev cQ(a:Fv):Fv:=a7 dM (x1 a)
def tr{α:Type}{P:α->Prop}{f g}(h:P g)(e:f=g:=by kernel_rfl):P f:=e▸h
def gx:x1 a Y=ac a ax Y:=rfl
def oJ:x2 a b Y=ac a (x1 b) Y:=rfl
def CK:x3 a b c Y=ac a (x2 b c) Y:=rfl
noncomputable def  S2:=And.intro @vw_o (And.intro @vw_nil (And.intro @vw_some (And.intro @vw_none (And.intro @map_some.{0,0} (And.intro @Option.map_none.{0,0} (And.intro @set_cons_succ.{0} (And.intro @set_cons_zero.{0} (And.intro @consX_a (And.intro @nilX_a (And.intro @va_a (And.intro @shAt_s (And.intro @shAt_0 (And.intro @shAt_1 (And.intro @Option.bind_some.{0,0} (And.intro @bin2_a (And.intro @biF_a (And.intro @clF_a (And.intro @fCl_a (And.intro @cI_a (And.intro @cS_a (And.intro @testB_a (And.intro @notQ_a (And.intro @trF_a (And.intro @andQ_a (And.intro @valO_some (And.intro @asB_bl (And.intro @truD_bl (And.intro @addD_ii (And.intro @subD_ii (And.intro @lsF_a (And.intro @dpF_a (And.intro @capL_1 (And.intro @capL_2 (And.intro @stepF_a (And.intro @wipe_cons (And.intro @wipe_nil (And.intro @gNm_a (And.intro @tQ_a (@if_true.{1})))))))))))))))))))))))))))))))))))))))
def sB:type_of%S2:=S2
end L2
namespace K16
open PySem PySem.Spec PyProof.Rows L2
abbrev oK:=List (Int×Int)
noncomputable def  dQ(ls:oK)(a:Int):Int:=(ls.getD a.toNat (0,0)).2
def qB{α:Type}{p q r}(hd:∀a,p a=true->q a=false)(hr:∀a,r a=(p a||q a)):∀l:List α,(l.filter p++l.filter q).Perm (l.filter r)
 |[]=>.refl _
 |a::l=>by
  have ih:=qB hd hr l;have e:=hr a;cases hp:p a with
  |true=>
   have hq:=hd a hp;rw[hp,Bool.true_or]at e;rw[List.filter_cons_of_pos hp,List.filter_cons_of_neg (by rw[hq];decide),List.filter_cons_of_pos e];exact ih.cons a
  |false=>
   rw[hp,Bool.false_or]at e;rw[List.filter_cons_of_neg (by rw[hp];decide)];cases hq:q a with
   |true=>
    rw[List.filter_cons_of_pos hq,List.filter_cons_of_pos (by rw[e];exact hq)];exact List.perm_middle.trans (ih.cons a)
   |false=>
    rw[List.filter_cons_of_neg (by rw[hq];decide),List.filter_cons_of_neg (by rw[e,hq];decide)];exact ih
noncomputable def  lF(f:Int->Int)(l:U4)(n:Nat):U4:=(!19).flatMap λ(t:Nat)=>l.filter λa=>decide (f a=(t:Int))
def mv(f:Int->Int)(l:U4)(n:Nat):lF f l (n+1)=lF f l n++l.filter λa=>decide (f a=(n:Int)):=by
 unfold lF;rw[List.range_succ,List.flatMap_append];simp
def mw(h0:∀a∈l,0<=f a):∀n:Nat,(lF f l n).Perm (l.filter λa=>decide (f a<(n:Int)))
 |0=>by
  have e:(l.filter λa=>decide (f a<((0:Nat):Int)))=[]:=List.filter_eq_nil_iff.mpr λa ha=>by have:=h0 a ha;simp;omega
  rw[e];exact .refl _
 |n+1=>by
  rw[mv];refine((mw h0 n).append_right _).trans (qB (λa h=>?_) (λa=>?_) l)
  .have:=Vk h;exact decide_eq_false (!1)
  .rw[<-Bool.decide_or];exact decide_eq_decide.mpr (!1)
def  uw(f:Int->Int)(a b:Int):Prop:=HT.lexLt [f b,b] [f a,a]=false
def FV(h:f a<f b):uw f a b:=by
 unfold uw;rw[HT.lexLt_cons,if_neg (!1)];exact decide_eq_false (!1)
def FW(h:f a=f b)(h2:a<=b):uw f a b:=by
 unfold uw;rw[HT.lexLt_cons,if_pos h.symm,HT.lexLt_cons];split
 .rfl
 grind
def zp(h1:uw f a b)(h2:uw f b a):a=b:=by
 have:=rH _ _ h2 h1;grind
def jL(hs:l.Pairwise (·<=·)):∀n:Nat,(lF f l n).Pairwise (uw f)
 |0=>.nil
 |n+1=>by
  rw[mv];refine List.pairwise_append.mpr ⟨jL hs n,?_,λa ha b hb=>?_⟩
  .refine((hs.sublist List.filter_sublist).imp_of_mem λ{a b} ha hb hab=>?_);have ea:=Vk (List.mem_filter.mp ha).2;have eb:=Vk (List.mem_filter.mp hb).2;exact FW (ea.trans eb.symm) hab
  .let⟨t,ht,ha⟩:=List.mem_flatMap.mp ha;have ea:=Vk (List.mem_filter.mp ha).2;have eb:=Vk (List.mem_filter.mp hb).2;have:=Vw.mp ht;exact FV (by rw[ea,eb];omega)
def jc(g:U4):(fT g).Perm g:=List.mergeSort_perm _ _
def ux(g:U4):(fT g).Pairwise (·<=·):=by
 have h:=List.pairwise_mergeSort (le:=λa b:Int=>decide (a<=b)) (λa b c h1 h2=>decide_eq_true (Int.le_trans (Vk h1) (Vk h2))) (λa b=>by
  rw[Bool.or_eq_true];rcases Int.le_total a b with h|h
  .exact .inl (decide_eq_true h)
  .exact .inr (decide_eq_true h)) g
 grind [fT]
def  gy(ls:oK)(ms:U4):U4:=lF (dQ ls) (fT ms) 10
def  bO(ls:oK):Prop:=∀p∈ls,0<=p.2/\p.2<10
def qC(h:bO ls)(a:Int):0<=dQ ls a/\dQ ls a<10:=by
 unfold dQ;rw[List.getD_eq_getElem?_getD];cases e:ls[a.toNat]? with
 |none=>exact⟨Int.le_refl _,by decide⟩
 |some p=>exact h p (Vx e)
def jd(h:bO ls)(g:U4):(gy ls g).Perm g:=by
 refine(mw (λa _=>(qC h a).1) 10).trans ?_;have e:((fT g).filter λa=>decide (dQ ls a<((10:Nat):Int)))=fT g:=List.filter_eq_self.mpr λa _=>decide_eq_true (qC h a).2;rw[e];exact jc g
def xU(h:bO ls)(h1:out.Perm g)(h2:out.Pairwise (uw (dQ ls))):out=gy ls g:=
 List.Perm.eq_of_pairwise (λa b _ _ x y=>zp x y) h2 (jL (ux g) 10) (h1.trans (jd h g).symm)
def  keyL(ls:oK)(a:Int):D:=.tup [.int (dQ ls a),.int a]
def xV(ls:oK)(a:Int):flt (keyL ls a)=[dQ ls a,a]:=rfl
def getD_map'{α g:Type}(f:α->g)(l:List α)(h:i<l.length)(x:α)(y:g):(l.map f).getD i y=f (l.getD i x):=by grind
def CL(h:bO ls)(g:U4):((plcK (g.map (keyL ls))).map λj=>(g.map D.int).getD j .non)=(gy ls g).map D.int:=by
 have p:=jb (g.map (keyL ls));have t:=ut (g.map (keyL ls));rw[length_map]at p;have l:∀j∈plcK (g.map (keyL ls)),j<g.length:=λj r=>Vw.mp (p.mem_iff.mp r);have J:((plcK (g.map (keyL ls))).map λj=>(g.map D.int).getD j .non)=((plcK (g.map (keyL ls))).map λj=>g.getD j 0).map D.int:=by
  rw[List.map_map];exact List.map_congr_left λj r=>getD_map' D.int g (l j r) 0 .non
 rw[J];congr 1;refine xU h ?_ ?_
 .have:=p.map λj=>g.getD j 0;rw[bM]at this;exact this
 .refine List.pairwise_map.mpr (t.imp_of_mem λ{a b} I C o=>?_);rw[getD_map' (keyL ls) g (l a I) 0 .non,getD_map' (keyL ls) g (l b C) 0 .non,xV,xV]at o;exact o
end K16
namespace K16
open PySem PySem.Spec PyProof.Rows L2
def CM{α:Type}(k:α->U4)(L:List α):(L.mergeSort λa b=>not (HT.lexLt (k b) (k a))).Pairwise λa b=>HT.lexLt (k b) (k a)=false:=by
 refine(List.pairwise_mergeSort (λa b c h1 h2=>?_) (λa b=>?_) L).imp λh=>by simpa using h
 .simp only[Bool.not_eq_true']at h1 h2⊢;cases e:HT.lexLt (k c) (k a)with
  |false=>rfl
  |true=>rw[n9 _ _ _ e h1]at h2;cases h2
 .cases e:HT.lexLt (k b) (k a)with
  |false=>rfl
  |true=>rw[rG _ _ e];rfl
def lG{α:Type}{g}(l:∀a,∃ds,g a=.tup ds){L}(j:L.length<64)(h:cL (L.map g)):
  ∃T:List α,T.Perm L/\T.Pairwise (λa b=>HT.lexLt (flt (g b)) (flt (g a))=false)/\cM [.lst (L.map g)]=!(T.map g):=by
 refine⟨L.mergeSort λa b=>not (HT.lexLt _ _),List.mergeSort_perm _ _,CM (λa=>flt (g a)) L,?_⟩
 have e:pH (L.map g)=(L.mergeSort λa b=>not (HT.lexLt _ _)).map g:=(rJ h ((List.mergeSort_perm _ _).map g) (List.pairwise_map.mpr (CM (λa=>flt (g a)) L))).symm
 rw[<-e]
 cases L with
 |nil=>
  refine mY ?_;show(if([]:U4).length<64 then !((fT []).map D.int)else none)=_;rw[show fT []=[]from List.mergeSort_nil,show pH (List.map g [])=[]from List.mergeSort_nil];rfl
 |cons a L=>
  refine Ff ?_ ?_
  .let⟨ds,e⟩:=l a;rw[List.map_cons,e];rfl
  .show(if((a::L).map g).length<64/\cL ((a::L).map g)then !(pH ((a::L).map g))else none)=_;rw[if_pos ⟨by rw[length_map];exact j,h⟩]
noncomputable abbrev Sd:=Int×Int
def  di(p:Sd):D:=.tup [.int p.1,.int p.2]
def  xW(q:Sd×List Nat):D:=.tup [di q.1,wD q.2]
def uy:∀w:U2,a9 (w.map λ(k:Nat)=>D.int (k:Int))=!(w.map λ(k:Nat)=>(k:Int))
 |[]=>rfl
 |k::w=>by
  show(a9 (w.map λ(k:Nat)=>D.int (k:Int))).bind _=_;rw[uy w];rfl
def HF(q:Sd×List Nat):qo (xW q)=!([some 2,!q.2.length],[q.1.1,q.1.2]++q.2.map λ(k:Nat)=>(k:Int)):=by
 have a:ku (di q.1)=!(some 2,[q.1.1,q.1.2]):=rfl;have b:ku (wD q.2)=!(!q.2.length,q.2.map λ(k:Nat)=>(k:Int)):=by
  show(a9 (q.2.map λ(k:Nat)=>D.int (k:Int))).bind _=_;rw[uy,Option.bind_some,length_map]
 show fU [di q.1,wD q.2]=_;simp only[fU,a,b,Option.bind_some,List.append_nil]
def CN(q:Sd×List Nat):flt (xW q)=[q.1.1,q.1.2]++q.2.map λ(k:Nat)=>(k:Int):=by unfold flt;rw[HF]
def FX(h:S.length<64):∃T:List Sd,T.Perm S/\T.Pairwise (λa b=>HT.lexLt [b.1,b.2] [a.1,a.2]=false)/\cM [.lst (S.map di)]=!(T.map di):=
 lG (g:=di) (λ_=>⟨_,rfl⟩) h ⟨[none,none],by decide,λd hd=>by
  let⟨p,_,rfl⟩:=Vp.mp hd;exact⟨[p.1,p.2],rfl⟩⟩
def FY(h:L.length<64)(l:∀q∈L,q.2.length=n):∃T:List (Sd×List Nat),T.Perm L/\T.Pairwise (λa b=>HT.lexLt [b.1.1,b.1.2] [a.1.1,a.1.2]=false)/\cM [.lst (L.map xW)]=!(T.map xW):=by
 let⟨T,h1,h2,o⟩:=lG (g:=xW) (λ_=>⟨_,rfl⟩) h ⟨[some 2,!n],by simp,λd hd=>by
  let⟨q,j,rfl⟩:=Vp.mp hd;exact⟨_,by rw[HF,l q j]⟩⟩
 refine⟨T,h1,h2.imp λ{a b} z=>?_,o⟩;rw[CN,CN,vN (a:=[b.1.1,b.1.2]) (b:=[a.1.1,a.1.2]) _ _ rfl]at z;by_cases c:[b.1.1,b.1.2]=[a.1.1,a.1.2]
 .rw[c];exact vM _
 grind
def Uz(a b c d:Int):HT.lexLt [a,b] [c,d]=decide (a<c\/(a=c/\b<d)):=by
 rw[HT.lexLt_cons,HT.lexLt_cons];by_cases h:a=c
 .rw[if_pos h];by_cases g:b=d
  .rw[if_pos g];refine(decide_eq_false ?_).symm;omega
  .rw[if_neg g];by_cases k:b<d
   .rw[decide_eq_true k];exact(decide_eq_true (.inr ⟨h,k⟩)).symm
   .rw[decide_eq_false k];exact(decide_eq_false (!1)).symm
 grind
def  DJ(r:Int)(p:Sd):Sd:=(p.1,p.2*r)
def zq(l:0<=r){S T:List Sd}{Q U:List (Sd×List Nat)}(h1:T.Perm S)(h2:T.Pairwise λa b=>HT.lexLt [b.1,b.2] [a.1,a.2]=false)(p:U.Perm Q)(o:U.Pairwise λa b=>HT.lexLt [b.1.1,b.1.2] [a.1.1,a.1.2]=false)(e:Q.map (·.1)=S.map (DJ r)):U.map (·.1)=T.map (DJ r):=by
 refine List.Perm.eq_of_pairwise (le:=λa b:Sd=>HT.lexLt [b.1,b.2] [a.1,a.2]=false) (λa b _ _ x y=>?_) (List.pairwise_map.mpr o) (List.pairwise_map.mpr (h2.imp λ{a b} z=>?_)) ?_
 .have:=rH _ _ y x;injection this with j g;injection g with g;exact Prod.ext j g
 .rw[Uz]at z⊢;refine decide_eq_false λq=>?_;have z:=of_decide_eq_false z;rcases q with q|⟨j,g⟩
  .exact z (.inl q)
  .have j:b.1=a.1:=j;have g:b.2*r<a.2*r:=g;refine z (.inr ⟨j,?_⟩);by_cases k:b.2<a.2
   .exact k
   .have:=Int.mul_le_mul_of_nonneg_right (show a.2<=b.2 by omega) l;omega
 grind
noncomputable def  xX(W:List (U2))(p:List Pk):List (U2):=(List.range p.length).flatMap λk=>W.map λw=>w++[k]
def  wds(rs:UV):List (U2):=rs.foldl xX [[]]
def kQ(g:UV)(p:List Pk):wds (g++[p])=xX (wds g) p:=by unfold wds;rw[List.foldl_append];rfl
noncomputable def  jp(p:List Pk)(k:Nat):Pk:=p.getD k (true,0)
def  bY(n k:Nat)(pk:Pk)(c:Sd):Sd:=((k:Int)*(n:Int)+(if pk.1 then c.1 else(n:Int)-1-c.1),if pk.1 then c.2 else -c.2)
def  pl:Nat->UV->U2->Sd->Sd
 |_,[],_,c=>c
 |_,_::_,[],c=>c
 |n,p::rs,k::w,c=>pl (n*p.length) rs w (bY n k (jp p k) c)
def m8:∀{rs:UV}{w:U2}(n:Nat)(c:Sd)(p:List Pk)(k:Nat),w.length=rs.length->pl n (rs++[p]) (w++[k]) c=bY (n*prod rs) k (jp p k) (pl n rs w c)
 |[],[],n,c,p,k,_=>by show bY n k _ c=bY (n*1) k _ c;rw[Nat.mul_one]
 |[],_::_,_,_,_,_,h=>by cases h
 |_::_,[],_,_,_,_,h=>by cases h
 |q::rs,j::w,n,c,p,k,h=>by
  show pl (n*q.length) (rs++[p]) (w++[k]) (bY n j (jp q j) c)=bY (n*(q.length*prod rs)) k (jp p k) (pl (n*q.length) rs w (bY n j (jp q j) c));rw[m8 _ _ _ _ (Nat.succ.inj h),Nat.mul_assoc]
def  fitW(s:Int):UV->U2->Bool
 |[],_=>true
 |_::_,[]=>true
 |p::rs,k::w=>decide (s<=(jp p k).2)&&fitW s rs w
def oM:∀{rs:UV}{w:U2}(p:List Pk)(k:Nat),w.length=rs.length->fitW s (rs++[p]) (w++[k])=(fitW s rs w&&decide (s<=(jp p k).2))
 |[],[],p,k,_=>by show(decide _&&true)=(true&&_);rw[Bool.and_true,Bool.true_and]
 |[],_::_,_,_,h=>by cases h
 |_::_,[],_,_,h=>by cases h
 |q::rs,j::w,p,k,h=>by
  show(decide _&&fitW s (rs++[p]) (w++[k]))=((decide _&&fitW s rs w)&&_);rw[oM _ _ (Nat.succ.inj h),Bool.and_assoc]
def je{α:Type}{P:List α->Prop}(h0:P [])(h1:∀l a,P l->P (l++[a]))(l:List α):P l:=by
 have:∀l:List α,P l.reverse:=λl=>by
  induction l with
  |nil=>exact h0
  |cons a l g=>rw[List.reverse_cons];exact h1 _ _ g
 have z:=this l.reverse;grind
def jf:∀(l:UV),∀w∈wds l,w.length=l.length/\∀q∈w.zip l,q.1<q.2.length:=by
 refine je (λw g=>?_) λl p o w g=>?_
 .cases mem_singleton.mp g;exact⟨rfl,λ_ h=>nomatch h⟩
 .rw[kQ]at g;let⟨k,t,g⟩:=List.mem_flatMap.mp g;let⟨v,r,rfl⟩:=Vp.mp g;let⟨h1,h2⟩:=o v r;refine⟨by rw[length_append,length_append,h1];rfl,λq j=>?_⟩;rw[List.zip_append h1]at j;rcases mem_append.mp j with j|j
  .exact h2 q j
  .cases mem_singleton.mp j;exact Vw.mp t
def m9:∀(g:UV),(wds g).length=prod g:=by
 refine je rfl λg p j=>?_;rw[kQ,dh,<-j];unfold xX;rw[List.length_flatMap];have:∀l:U2,(l.map λk=>((wds g).map λw=>w++[k]).length).sum=(wds g).length*l.length:=λl=>by
  induction l with
  |nil=>rfl
  |cons a l j=>rw[List.map_cons,List.sum_cons,j,length_map,length_cons,Nat.mul_succ,Nat.add_comm]
 grind
def  CO(s:Int)(n:Nat)(p:List Pk)(S:List Sd):List Sd:=(List.range p.length).flatMap λk=>if s<=(jp p k).2 then S.map (bY n k (jp p k))else[]
def  uT(s:Int)(n:Nat)(rs:UV):List Sd:=((wds rs).filter (fitW s rs)).map λw=>pl n rs w ((n:Int)-1,1)
def CP(s:Int)(n:Nat)(g:UV)(p:List Pk):uT s n (g++[p])=CO s (n*prod g) p (uT s n g):=by
 unfold uT CO;rw[kQ];unfold xX;rw[List.filter_flatMap,List.map_flatMap];refine congrArg (λf=>List.flatMap f _) (funext λk=>?_);have e:((wds g).map λw=>w++[k]).filter (fitW s (g++[p]))=if s<=(jp p k).2 then((wds g).filter (fitW s g)).map (λw=>w++[k])else[]:=by
  rw[List.filter_map];by_cases h:s<=(jp p k).2
  .rw[if_pos h];refine congrArg _ (List.filter_congr λw j=>?_);show fitW s (g++[p]) (w++[k])=_;rw[oM _ _ (jf g w j).1,decide_eq_true h,Bool.and_true]
  .rw[if_neg h];have:(wds g).filter (fitW s (g++[p])∘λw=>w++[k])=[]:=List.filter_eq_nil_iff.mpr λw j=>by
    show¬fitW s (g++[p]) (w++[k])=true;rw[oM _ _ (jf g w j).1,decide_eq_false h,Bool.and_false];decide
   rw[this];rfl
 rw[e];by_cases h:s<=(jp p k).2
 .rw[if_pos h,if_pos h,List.map_map,List.map_map];exact List.map_congr_left λw j=>m8 _ _ _ _ (jf g w (List.mem_filter.mp j).1).1
 grind
def FZ(s:Int)(n:Nat)(g:UV):(uT s n g).length<=prod g:=by
 unfold uT;rw[length_map,<-m9];grind
end K16
namespace K16
open PySem PySem.Spec PyProof.Rows L2
def  ww(aB:Fn):US:=(ab (eV (nK (bB (iP (a7 c8 (x2 (va 0) (cT "tuple"))))) (nK (al (aa (aK true) (cQ (va 0)) (cI 2))) (al (aa vo (aa am (va 0) (cI 0)) (cD (.tup [(.str "any"),(.str "come"),(.str "row")])))))) (gN (b8 (cB false))) aH) (ab (eV (nK (bB (iP (a7 c8 (x2 (aa am (va 0) (cI 1)) (cu (x2 (cT "list") (cT "tuple"))))))) (al (aa (aK false) (cQ (aa am (va 0) (cI 1))) (cI 0)))) (gN (b8 (cB false))) aH) (gN (bi (a7 fy (x1 (a6 (af [2] (jX ag (aa am (va 0) (cI 1))) (gNm 2) tQ (bf aB (x3 (va 2) (cI 0) (aa fQ (va 1) (cI 1)))))))) ag (fNo (x1 (a6 (af [2] (jX ag (aa am (va 0) (cI 1))) (gNm 2) tQ (bf aB (x3 (va 2) (cI 0) (aa fQ (va 1) (cI 1))))))))))))
def  kR:US:=(ab (av 1 sE) (ab (B8 0 (jX ag (va 0)) (zE 2 (cz (dq 2) (cz (dq 3) mF))) (ab (lB 1 (va 3)) aH)) (ab (we 1) aH)))
def  rT(bh gS:Fn):US:=(ab (eV (nK (bB (iP (a7 c8 (x2 (va 0) (cu (x2 (cT "list") (cT "tuple"))))))) (bB (iP (a7 fy (x1 (a6 (af [2] (jX ag (va 0)) (gNm 2) tQ (bf gS (x2 (va 2) (va 1)))))))))) (gN (b8 (cB false))) aH) (gN (b8 (aa (aK false) (DH (x1 (bf bh (x1 (va 0)))) (wb (x1 (bf bh (x1 (va 0)))))) (DH (x1 (a7 ou (x1 (va 1)))) (a8 (Pw (x1 (va 1))) (l1F (x1 (a7 ou (x1 (va 1)))))))))))
def  iT:US:=FS (ac (va 1) λ_=>![]) (cu (x2 (aa am (aa am (va 1) (va 0)) (cI 1)) (va 0))) 0
def  oN(cX:Fn):US:=(ab (eV (al (aa (aK false) (va 1) (cS "any"))) (gN (bi (a6 (fV (x1 (DH (x1 (va 2)) (wb (x1 (va 2))))))) (fV (x1 (DH (x1 (va 2)) (wb (x1 (va 2)))))) (B7 (x1 (frX (DH (x1 (va 2)) (wb (x1 (va 2)))) (wb (x1 (va 2))) (fNo (x1 (va 2)))))))) aH) (ab (av 3 (b8 (Ef (al (aa (aK false) (va 1) (cS "row"))) (va 2) (bf cX (x2 (va 0) (va 2)))))) (gN (bi (a6 (af [4] (jX ag (va 3)) (gNm 4) tQ (a6 (fV (!15))))) (af [4] (jX ag (va 3)) (gNm 4) tQ (a6 (fV (!15)))) (fCo [4] (jX ag (va 3)) (gNm 4) tQ (frX (a6 (fV (!15))) (fV (!15)) (B7 (x1 (frX (va 4) ag ag)))))))))
def  kdS:Nat->Str
 |0=>"any"
 |1=>"come"
 |_=>"row"
abbrev Gr:=Nat×List Nat
def  rV(g:Gr):D:=.tup [.str (kdS g.1),rowD g.2]
def  fw(gs:List Gr):D:=.lst (gs.map rV)
noncomputable def  ltD'(p:Int×Int):D:=.tup [.int p.1,.int p.2]
def  lsD'(ls:oK):D:=.lst (ls.map ltD')
def  mJ(lv:List (U4)):D:=.lst (lv.map aA)
def  bP(gs:List Gr):U2:=gs.flatMap (·.2)
structure Good(m:Nat)(gs:List Gr):Prop where
 pm:(bP gs).Perm (List.range m)
 ne:∀g∈gs,g.2≠[]
 kd:∀g∈gs,g.1<3
 le:m<=24
def CQ(j:g∈o)(l:a∈g.2):a∈bP o:=List.mem_flatMap.mpr ⟨g,j,l⟩
def Good.lt(h:Good m o)(j:g∈o)(l:a∈g.2):a<m:=Vw.mp (h.pm.mem_iff.mp (CQ j l))
def Good.len(h:Good m g):(bP g).length=m:=by rw[h.pm.length_eq,length_range]
def oO:∀{gs:List Gr},(∀g∈gs,g.2≠[])->gs.length<=(bP gs).length
 |[],_=>Vy _
 |g::gs,h=>by
  have ih:=oO (gs:=gs) λx hx=>h x (Vj _ hx);have:=List.length_pos_iff.mpr (h g Vi);show gs.length+1<=(g.2++bP gs).length;rw[length_append];omega
def CS(l:g∈j):g.2.length<=(bP j).length:=by
 induction j with
 |nil=>cases l
 |cons x j o=>
  show g.2.length<=(x.2++bP j).length;rw[length_append];rcases mem_cons.mp l with rfl|h
  .omega
  .have:=o h;omega
def xY(r:U2):seqD (rowD r)=!(!8):=rfl
def F0(r:U2):dM [rowD r]=!(.int (r.length:Int)):=by
 simp only[bb,xY,Option.bind_some,length_map]
def Kn{o:Type}{xs:List o}{mk}(I:Nat->Ev->Prop)(r:J (c9 Y)=!(xs.map mk))(h0:I 0 Y)(p:∀(i:Nat)(x:o)(Y:Ev),xs[i]?=!x->I i Y->∃Y',(tg (mk x) Y).bind F=!(.nx Y')/\I (i+1) Y')(k:∀Y',I xs.length Y'->G Y'=out):ab (B8 j J tg F) G Y=out:=by
 have l:∀(i:Nat)(d:D)(Y:Ev),(xs.map mk)[i]?=!d->I i Y->∃Y',(tg d Y).bind F=!(.nx Y')/\I (i+1) Y':=λi d Y hd hi=>by
  rw[getElem?_map]at hd;cases g:xs[i]? with
  |none=>rw[g]at hd;cases hd
  |some x=>rw[g]at hd;cases hd;exact p i x Y g hi
 let⟨Y',e,i⟩:=iR (xs.map mk) I _ h0 l;rw[length_map]at i;have t:iL J tg F Y=!(.nx Y'):=by unfold iL;rw[r];exact e
 refine(ar ?_).trans (k _ i);unfold B8 a8;rw[t]
def  wx(f:Fn):Prop:=∀(g:Gr)(m:Nat),g.1<3->g.2≠[]->(∀a∈g.2,a<m)->g.2.length<=24->f [rV g,.int (m:Int)]=!(.deep,.bl true)
def F3(hw:fH w):wx (aI 2 3 (ww w)):=λ⟨k,r⟩ m hk hne ha hl=>by
 have hs:aD 3 [rV (k,r),.int (m:Int)]=[!_,!(.sh,.int (m:Int)),none]:=rfl;have i1:am (rV (k,r)) (.int 1)=!_:=rfl;have hm:af [2] (jX ag (aa am (va 0) (cI 1))) (gNm 2) tQ (bf w (x3 (va 2) (cI 0) (aa fQ (va 1) (cI 1)))) [!(rV (k,r)),!(.int (m:Int)),none]=!(r.map λ_=>.bl true):=by
  refine ao (mk:=λ(k:Nat)=>D.int (k:Int)) (by simp only[bH,bin2_a,cI_a,va_a,shAt_0,Option.bind_some,i1,xY]) (λa h=>?_) (Vm hl (!3));have h1:=ha a h;have h2:(0:Int)<=(a:Int):=by omega
  have h3:(a:Int)<=(m:Int)-1:=by omega
  simp only[stepF_a,wipe_cons,wipe_nil,gNm_a,tQ_a,set_cons_succ,set_cons_zero,Option.bind_some,if_true,clF_a,consX_a,nilX_a,va_a,shAt_0,shAt_s,cI_a,bin2_a,subD_ii,hw (a:Int) 0 ((m:Int)-1),valO_some,h2,h3,decide_true];rfl
 refine aj rfl ?_;rw[hs];refine q_if0 ?_ (q_if0 ?_ (q_ret (evX_lf ?_ rfl)))
 .rcases(show k=0\/k=1\/k=2 by have:k<3:=hk;omega)with rfl|rfl|rfl<;>rfl
 .simp only[vw_some,vw_none,vw_nil,mh,notQ_a,trF_a,testB_a,bin2_a,biF_a,consX_a,nilX_a,va_a,shAt_0,iS,JY,cI_a,Option.bind_some,i1,capL_2,Hz,Ch,show cq (rowD r)=some "list"from rfl,List.any_cons,List.any_nil,Ci,truD_bl,F0];simp[show¬r=[]from hne]
 .simp only[vw_some,vw_none,vw_nil,biF_a,consX_a,nilX_a,lsF_a,hm,map_some,Option.bind_some,cO r λ_=>true];simp
def  oP(f:Fn):Prop:=∀gs:List Gr,(bP gs).length<=24->f [fw gs]=!(.deep,rowD (bP gs))
def zr:oP (aI 1 4 kR):=λgs h24=>by
 refine aj rfl ?_;refine q_set (evX_lfs (d:=.lst []) (ds:=[]) (by simp) rfl (by simp) rfl) ?_;refine Kn (xs:=gs) (mk:=rV) (λi Y=>∃o2 o3,Y=[!_,!(.deep,rowD (bP (gs.take i))),o2,o3]) ?_ ⟨none,none,rfl⟩ ?_ ?_
 .simp only[set_cons_succ,set_cons_zero,CJ,bH,va_a,shAt_0];rfl
 .rintro i g Y hg ⟨o2,o3,rfl⟩;have hi:=(Vh.mp hg).1;have hl:(bP (gs.take i)).length+g.2.length<=24:=by
   have e:bP gs=bP (gs.take i)++(g.2++bP (gs.drop (i+1))):=by
    conv=>lhs;rw[<-List.take_append_drop i gs,List.drop_eq_getElem_cons hi]
    rw[(List.getElem?_eq_some_iff.mp hg).2];unfold bP;rw[List.flatMap_append,List.flatMap_cons]
   rw[e,length_append,length_append]at h24;omega
  refine⟨_,(ar (lE rfl rfl ?_ ?_)).trans rfl,⟨!(.sh,.str (kdS g.1)),!(.sh,rowD g.2),?_⟩⟩
  .exact cf λd hd=>by let⟨p,_,rfl⟩:=Vp.mp hd;rfl
  .rw[length_map,length_map];exact Vm hl (!3)
  .rw[List.take_add_one,hg];have e:bP (gs.take i++(!g).toList)=bP (gs.take i)++g.2:=by
    unfold bP;rw[List.flatMap_append];simp
   rw[e];unfold rowD;rw[List.map_append];rfl
 .rintro Y ⟨o2,o3,rfl⟩;rw[List.take_length];rfl
def wy(r:U2):cF (!8)=true:=cf λd hd=>by let⟨p,_,rfl⟩:=Vp.mp hd;rfl
def ng(r:U4):cF (r.map D.int)=true:=cf λd hd=>by let⟨p,_,rfl⟩:=Vp.mp hd;rfl
def  sAre(f:Fn):Prop:=∀(m:Nat)(gs:List Gr),Good m gs->f [fw gs,.int (m:Int)]=!(.deep,.bl true)
def h_are(h1:oP gl)(h2:wx ig):sAre (aI 2 3 (rT gl ig)):=λm gs G=>by
 have hs:aD 3 [fw gs,.int (m:Int)]=[!_,!(.sh,.int (m:Int)),none]:=rfl;have hfl:=G.len;have hle:=G.le;have hgl:=oO G.ne;have y:seqD (fw gs)=!_:=rfl;have hm:af [2] (jX ag (va 0)) (gNm 2) tQ (bf ig (x2 (va 2) (va 1))) [!(fw gs),!(.int (m:Int)),none]=!(gs.map λ_=>.bl true):=by
  refine ao (mk:=rV) (by simp only[bH,va_a,shAt_0,Option.bind_some,y]) (λg h=>?_) (Vm (show gs.length<=24 by omega) (!3));have e:=h2 g m (G.kd g h) (G.ne g h) (λa ha=>G.lt h ha) (by have:=CS h;omega);simp only[stepF_a,wipe_cons,wipe_nil,gNm_a,tQ_a,set_cons_succ,set_cons_zero,Option.bind_some,if_true,clF_a,consX_a,nilX_a,va_a,shAt_0,shAt_s,e,valO_some]
 have e1:=h1 gs (!1);have s1:wb (x1 (bf gl (x1 (va 0)))) [!(fw gs),!(.int (m:Int)),none]=!((List.range m).map λ(k:Nat)=>D.int (k:Int)):=by
  show(x1 (bf gl (x1 (va 0))) _).bind cM=_;simp only[consX_a,nilX_a,clF_a,va_a,shAt_0,Option.bind_some,e1,valO_some,mY (CI G.pm hle)]
 refine aj rfl ?_;rw[hs];refine q_if0 ?_ (q_ret (evX_lf ?_ rfl))
 .simp only[vw_some,vw_none,vw_nil,mh,notQ_a,trF_a,biF_a,consX_a,nilX_a,va_a,shAt_0,iS,JY,Option.bind_some,capL_2,Hz,Ch,show cq (fw gs)=some "list"from rfl,List.any_cons,List.any_nil,Ci,truD_bl,lsF_a,hm,map_some,cO gs λ_=>true];simp
 .simp only[vw_some,vw_none,vw_nil,bin2_a];rw[mq s1,mq (RP hle (by simp only[consX_a,nilX_a,va_a,shAt_0,shAt_s,Option.bind_some]))];exact Kl false _
def  bZ(r:U2):U4:=r.map λ(k:Nat)=>(k:Int)
def Ko(r:U2):rowD r=aA (bZ r):=by
 unfold rowD aA bZ;rw[List.map_map];rfl
abbrev DK:UR:=cu (x2 (aa am (aa am (va 1) (va 0)) (cI 1)) (va 0))
def N3{a:Nat}(h:a<ls.length):DK [!(.int (a:Int)),!(lsD' ls)]=!(keyL ls (a:Int)):=by
 have e:am (lsD' ls) (.int (a:Int))=!(ltD' (ls.getD a (0,0))):=by
  have q:=aU (mk:=ltD') (getElem?_eq_getElem h);rw[List.getD_eq_getElem?_getD,getElem?_eq_getElem h];exact q
 have e2:am (ltD' (ls.getD a (0,0))) (.int 1)=!(.int (dQ ls (a:Int))):=rfl;simp_all [oK,DK,lsD',keyL]
def qD:∀{r:U2},(∀a∈r,a<ls.length)->mo DK (lsD' ls) (!8)=!((bZ r).map (keyL ls))
 |[],_=>rfl
 |a::r,h=>by
  show(DK [!(.int (a:Int)),!(lsD' ls)]).bind (λk=>(mo DK (lsD' ls) (!8)).bind λks=>!(k::ks))=_;rw[N3 (h a mem_cons_self),qD λb hb=>h b (mem_cons_of_mem _ hb)];rfl
def qE(ls:oK)(l:U4):cL (l.map (keyL ls)):=⟨[none,none],by simp,λd hd=>by
 let⟨a,_,rfl⟩:=Vp.mp hd;exact⟨_,rfl⟩⟩
def  CT(f:Fn):Prop:=∀(ls:oK)(r:U2),bO ls->(∀a∈r,a<ls.length)->r.length<=24->f [lsD' ls,rowD r]=!(.deep,aA (gy ls (bZ r)))
def Kp:CT (aI 2 2 iT):=λls r l o p=>by
 have g:aD 2 [lsD' ls,rowD r]=[!_,!_]:=rfl;refine aj rfl ?_;rw[g];have e:zn (ac (va 1) λ_=>![]) DK 0 [!(lsD' ls),!(rowD r)]=!((gy ls (bZ r)).map D.int):=by
  show((!(lsD' ls)).bind λI=>(mo DK I (!8)).bind λks=>if(!8).length<64/\cL ks then !((plcK ks).map λj=>(!8).getD j .non)else none)=_;rw[Option.bind_some,qD o,Option.bind_some,if_pos ⟨by rw[length_map];omega,qE ls _⟩];have q:=CL l (bZ r);rw[show(bZ r).map D.int=r.map λ(k:Nat)=>D.int (k:Int)by unfold bZ;rw[List.map_map];rfl]at q;rw[q]
 refine q_ret (Y':=[!(.sh,lsD' ls),!(.sh,rowD r)]) ?_;have C:(λY=>jm (zn (ac (va 1) λ_=>![]) DK 0 Y)) (vw [!(.sh,lsD' ls),!(.sh,rowD r)])=!(aA (gy ls (bZ r))):=by
  show jm (zn (ac (va 1) λ_=>![]) DK 0 [!(lsD' ls),!(rowD r)])=_;rw[e];unfold jm;rw[Option.bind_some,if_pos (ng _)];rfl
 have t:mE (λY=>jm (zn (ac (va 1) λ_=>![]) DK 0 Y)) [!(.sh,lsD' ls),!(.sh,rowD r)]=!((.deep,aA (gy ls (bZ r))),[!(.sh,lsD' ls),!(.sh,rowD r)]):=by
  unfold mE;rw[C];rfl
 unfold a8;rw[t]
def  levG(ls:oK)(g:Gr):List (U4):=if g.1=0 then[fT (bZ g.2)]else if g.1=1 then(gy ls (bZ g.2)).map ([·])else(bZ g.2).map ([·])
def CU(h:r.length<=24):kt [rowD r]=!((fT (bZ r)).map D.int):=by
 show((a9 (!8)).bind λg=>if g.length<64 then !((fT g).map D.int)else none)=_;rw[j0,Option.bind_some,if_pos (by rw[length_map];omega)];rfl
def j2{R L Sp}(h:R Y=!(.lst ds))(g:L Y=!ds)(j:cF ds=true):frX R L Sp Y=!(.lst ds):=by
 unfold frX a8;simp only[h,g,sC,jm,Option.bind_some,FG,j,if_true];rfl
def seq_sc(g:U4):seqD (aA g)=!(g.map D.int):=rfl
def xZ(hl:ns.length<=24)(hn:ns≠[])(o4:UX):bi (a6 (af [4] (jX ag (va 3)) (gNm 4) tQ (a6 (fV (!15))))) (af [4] (jX ag (va 3)) (gNm 4) tQ (a6 (fV (!15)))) (fCo [4] (jX ag (va 3)) (gNm 4) tQ (frX (a6 (fV (!15))) (fV (!15)) (B7 (x1 (frX (va 4) ag ag)))))
  [!(.sh,ls),!(.sh,d1),!(.sh,d2),!(.sh,aA ns),none]=!((.deep,mJ (ns.map ([·]))),[!(.sh,ls),!(.sh,d1),!(.sh,d2),!(.sh,aA ns),none]):=by
 have big24:ns.length<big:=Vm hl (!3)
 have h1:af [4] (jX ag (va 3)) (gNm 4) tQ (a6 (fV (!15))) [!ls,!d1,!d2,!(aA ns),none]=!(ns.map λa=>.lst [.int a]):=by
  refine ao (mk:=D.int) (by simp only[bH,va_a,shAt_0,shAt_s,Option.bind_some,seq_sc]) (λa h=>?_) big24;simp only[stepF_a,wipe_cons,wipe_nil,gNm_a,tQ_a,set_cons_succ,set_cons_zero,Option.bind_some,if_true,lsF_a,dpF_a,consX_a,nilX_a,va_a,shAt_0,shAt_s,capL_1,map_some]
 have h2:af [4] (jX ag (va 3)) (gNm 4) tQ (frX (a6 (fV (!15))) (fV (!15)) (B7 (x1 (frX (va 4) ag ag)))) [!ls,!d1,!d2,!(aA ns),none]=!(ns.map λa=>.lst [.int a]):=by
  refine ao (mk:=D.int) (by simp only[bH,va_a,shAt_0,shAt_s,Option.bind_some,seq_sc]) (λa h=>?_) big24;have e:frX (a6 (fV (!15))) (fV (!15)) (B7 (x1 (frX (va 4) ag ag))) [!ls,!d1,!d2,!(aA ns),!(.int a)]=!(.lst [.int a]):=
   j2 (by simp only[lsF_a,dpF_a,consX_a,nilX_a,va_a,shAt_0,shAt_s,Option.bind_some,capL_1,map_some]) (by simp only[dpF_a,consX_a,nilX_a,va_a,shAt_0,shAt_s,Option.bind_some,capL_1]) rfl
  simp only[stepF_a,wipe_cons,wipe_nil,gNm_a,tQ_a,set_cons_succ,set_cons_zero,Option.bind_some,if_true,e]
 have e3:mJ (ns.map ([·]))=.lst (ns.map λa=>.lst [.int a]):=by unfold mJ;rw[List.map_map];rfl
 rw[e3]
 refine kO (d:=.lst (ns.map λa=>.lst [.int a])) (ds:=ns.map λa=>.lst [.int a]) ?_ rfl ?_ ?_ ?_
 .simp only[vw_some,vw_none,vw_nil,lsF_a,h1,map_some]
 .simp only[vw_some,vw_none,vw_nil,h1]
 .cases ns with
  |nil=>exact absurd rfl hn
  |cons a ns=>rfl
 .show(af _ _ _ _ _ _).bind _=_;simp only[vw_some,vw_none,vw_nil,h2,Option.bind_some]
def  RQ(f:Fn):Prop:=∀(ls:oK)(g:Gr),bO ls->g.1<3->g.2≠[]->(∀a∈g.2,a<ls.length)->g.2.length<=24->f [lsD' ls,.str (kdS g.1),rowD g.2]=!(.deep,mJ (levG ls g))
def RS(hc:CT co):RQ (aI 3 5 (oN co)):=λls ⟨k,r⟩ hl hk hne ha h24=>by
 have hs:aD 5 [lsD' ls,.str (kdS k),rowD r]=[!_,!_,!_,none,none]:=rfl;have hne':=hne;have h24':r.length<=24:=h24;have il:(bZ r).length=r.length:=length_map _;have ine:bZ r≠[]:=λz=>hne' (by
  have:=congrArg List.length z;rw[il]at this;exact List.length_eq_zero_iff.mp this)
 refine aj rfl ?_;rw[hs];rcases(show k=0\/k=1\/k=2 by have:k<3:=hk;omega)with rfl|rfl|rfl
 .have s1:wb (x1 (va 2)) [!(lsD' ls),!(.str (kdS 0)),!(rowD r),none,none]=!((fT (bZ r)).map D.int):=by
   show(x1 (va 2) _).bind cM=_;simp only[consX_a,nilX_a,va_a,shAt_0,shAt_s,Option.bind_some,mY (CU h24')]
  refine aO ((ifS_t rfl).trans (q_ret (Y':=[!(.sh,lsD' ls),!(.sh,.str (kdS 0)),!(.sh,rowD r),none,none]) ?_));refine kO (d:=.lst [aA (fT (bZ r))]) (ds:=[aA (fT (bZ r))]) ?_ rfl ?_ rfl ?_
  .simp only[vw_some,vw_none,vw_nil,lsF_a,dpF_a,consX_a,mq s1,nilX_a,Option.bind_some,capL_1,map_some];rfl
  .simp only[vw_some,vw_none,vw_nil,dpF_a,consX_a,mq s1,nilX_a,Option.bind_some,capL_1];rfl
  .have e:=j2 (Sp:=fNo (x1 (va 2))) (mq (xs:=x1 (va 2)) s1) s1 (ng _);simp only[vw_some,vw_none,vw_nil,NO,consX_a,e,nilX_a,Option.bind_some,capL_1];rfl
 .have e:=hc ls r hl ha h24';refine q_if0 rfl (q_set (s:=(.sh,aA (gy ls (bZ r)))) (ox ?_ rfl rfl rfl rfl ?_) (q_ret (Y':=[!(.sh,lsD' ls),!(.sh,.str (kdS 1)),!(.sh,rowD r),!(.sh,aA (gy ls (bZ r))),none]) ?_))
  .show(Ef _ _ _ [!(lsD' ls),!(.str (kdS 1)),!(rowD r),none,none])=_;rw[xK,show al (aa (aK false) (va 1) (cS "row")) [!(lsD' ls),!(.str (kdS 1)),!(rowD r),none,none]=some false from rfl];simp only[Option.bind_some,Bool.false_eq_true,if_false,clF_a,consX_a,nilX_a,va_a,shAt_0,shAt_s,e,valO_some]
  .show(Ef _ _ _ [!(lsD' ls),!(.str (kdS 1)),!(rowD r),none,none])=_;rw[xK,show al (aa (aK false) (va 1) (cS "row")) [!(lsD' ls),!(.str (kdS 1)),!(rowD r),none,none]=some false from rfl];simp only[Option.bind_some,Bool.false_eq_true,if_false,clF_a,consX_a,nilX_a,va_a,shAt_0,shAt_s,e,valO_some]
  .have cl:(gy ls (bZ r)).length=r.length:=by rw[(jd hl _).length_eq,il]
   exact xZ (!1) (λz=>by rw[z]at cl;exact hne' (List.length_eq_zero_iff.mp cl.symm)) none
 .refine q_if0 rfl (q_set (s:=(.sh,aA (bZ r))) (by rw[<-Ko];exact ox rfl rfl rfl rfl rfl rfl) (q_ret (Y':=[!(.sh,lsD' ls),!(.sh,.str (kdS 2)),!(.sh,rowD r),!(.sh,aA (bZ r)),none]) ?_));exact xZ (!1) ine none
end K16
namespace K16
open PySem PySem.Spec PyProof.Rows L2
def  mx(cY:Fn):US:=(ab (av 2 sE) (ab (B8 1 (jX ag (va 1)) (zE 2 (cz (dq 3) (cz (dq 4) mF))) (ab (lB 2 (bf cY (x3 (va 0) (va 3) (va 4)))) aH)) (ab (we 2) aH)))
def  rW:US:=(ab (av 1 (bi ag ag Uq)) (ab (iQ (jX (Lw (x1 (va 0))) (a7 ou (x1 (va 0)))) (zE 2 (cz (dq 2) (cz (dq 3) mF))) (ab (iQ (jX ag (va 3)) (dq 4) (ab (ud 1 (va 4) (b8 (va 2)) (va 2)) aH)) aH)) (ab (we 1) aH)))
def Kq(h0:jY i k g Y=none)(h:Bj i k R Y=!o):ud i k g R Y=!o:=by unfold ud a8;rw[h0];exact h
abbrev Wd:=List jk×List D
def  wD'(w:Wd):D:=.dct w.1 w.2
def  pu(n:Int)(w:Wd)(a:Int):Wd:=(kq w.1 (.inl a),kr w.1 w.2 (.inl a) (.int n))
def  jM(n:Int)(l:U4)(w:Wd):Wd:=l.foldl (pu n) w
def  oQ:List (U4)->Nat->Wd->Wd
 |[],_,w=>w
 |l::lv,n,w=>oQ lv (n+1) (jM (n:Int) l w)
def qF:∀(lv:List (U4))(l:U4)(n:Nat)(w:Wd),oQ (lv++[l]) n w=jM ((n+lv.length:Nat):Int) l (oQ lv n w)
 |[],l,n,w=>rfl
 |x::lv,l,n,w=>by
  show oQ (lv++[l]) (n+1) _=_;rw[qF lv l (n+1)];show jM ((n+1+lv.length:Nat):Int) l _=jM ((n+(lv.length+1):Nat):Int) l _;rw[show n+1+lv.length=n+(lv.length+1)by omega];rfl
structure WOk(k:Nat)(w:Wd):Prop where
 len:w.1.length=w.2.length
 sz:w.1.length<=k
 lf:cF w.2=true
def N4(h:WOk k w)(n a:Int):WOk (k+1) (pu n w a):=by
 have j:=h.len;have g:=h.sz;refine⟨?_,?_,Bh rfl h.lf⟩
 .show(kq w.1 (.inl a)).length=(kr w.1 w.2 _ _).length;unfold kq kr;split
  .rw[List.length_zipWith];omega
  .rw[length_append,length_append];show _+1=_+1;omega
 .show(kq w.1 (.inl a)).length<=k+1;unfold kq;split
  .omega
  .rw[length_append];show _+1<=_;omega
def rX:∀{l:U4}{k:Nat}{w:Wd},WOk k w->WOk (k+l.length) (jM n l w)
 |[],k,w,h=>h
 |a::l,k,w,h=>by
  have:=rX (n:=n) (l:=l) (N4 h n a);rw[show k+1+l.length=k+(a::l).length by rw[length_cons];omega]at this;exact this
def CV:∀{lv:List (U4)}{n k:Nat}{w:Wd},WOk k w->WOk (k+lv.flatten.length) (oQ lv n w)
 |[],n,k,w,h=>h
 |l::lv,n,k,w,h=>by
  have:=CV (lv:=lv) (n:=n+1) (rX (n:=(n:Int)) (l:=l) h);rw[show k+l.length+lv.flatten.length=k+(l::lv).flatten.length by rw[List.flatten_cons,length_append];omega]at this;exact this
def  Kr(lv:List (U4)):D:=wD' (oQ lv 0 ([],[]))
def UA:WOk 0 (([],[]):Wd):=⟨rfl,Vy _,rfl⟩
def F4{R L Sp}(j:WOk m w)(t:m<=100)(g:gJ Y i=!(.deep,wD' w))(p:k (vw Y)=!(.int a))(l:R (vw Y)=!(.int n)):ud i k (bi R L Sp) R Y=!(.nx (Y.set i (!(.deep,wD' (pu n w a))))):=by
 have r:bi R L Sp Y=!_:=evX_lf l rfl;have o:ownL Y i=none:=by unfold ownL;rw[g];rfl
 refine Kq ?_ ?_
 .unfold jY;rw[r];show(ownL Y i).bind _=none;rw[o];rfl
 .unfold Bj;rw[show Fc Y i=some w by unfold Fc;rw[g];rfl,l,p];show(if cF w.2=true/\w.1.length+1<big then _ else _)=_;rw[if_pos ⟨j.lf,lt_of_le_of_lt (show w.1.length+1<=101 by have:=j.sz;omega) (!3)⟩];rfl
def Ks{lv:List (U4)}(h:∀l∈lv,l≠[]):lv.length<=lv.flatten.length:=by
 induction lv with
 |nil=>exact Vy _
 |cons l lv g=>
  have:=g λx j=>h x (Vj _ j);have:=List.length_pos_iff.mpr (h l Vi);rw[List.flatten_cons,length_append,length_cons];omega
def zt{l:U4}(h:l[i]?=!a):pu n (jM n (l.take i) w) a=jM n (l.take (i+1)) w:=by
 rw[List.take_add_one,h];unfold jM;grind
def zu{lv:List (U4)}(h:lv[i]?=!l):(lv.take i).flatten.length+l.length<=lv.flatten.length:=by
 have hi:=(Vh.mp h).1;have e:lv=lv.take i++(l::lv.drop (i+1)):=by
  conv=>lhs;rw[<-List.take_append_drop i lv,List.drop_eq_getElem_cons hi]
  rw[(List.getElem?_eq_some_iff.mp h).2]
 grind
def  Kt(f:Fn):Prop:=∀lv:List (U4),lv.flatten.length<=24->lv.length<1000->f [mJ lv]=!(.deep,Kr lv)
def N5:Kt (aI 1 5 rW):=λlv h24 U=>by
 refine aj rfl ?_;refine q_set rfl ?_;refine q_forB (xs:=lv.zipIdx) (mk:=λp=>.tup [.int (p.2:Nat),aA p.1]) (λi Y=>∃r o g,Y=[!_,!(.deep,wD' (oQ (lv.take i) 0 ([],[]))),r,o,g]) ?_ ⟨none,none,none,rfl⟩ ?_ ?_
 .have e:jX (Lw (x1 (va 0))) (a7 ou (x1 (va 0))) [!(mJ lv),none,none,none,none]=!((lv.zipIdx).map λp=>.tup [.int (p.2:Nat),aA p.1]):=by
   have q:Lw (x1 (va 0)) [!(mJ lv),none,none,none,none]=!((lv.zipIdx).map λp=>.tup [.int (p.2:Nat),aA p.1]):=by
    show(seqD (mJ lv)).bind (λxs=>!(ma xs))=_;rw[show seqD (mJ lv)=some _ from rfl,Option.bind_some,qz]
   unfold jX a8;rw[q]
  exact e
 .rintro i ⟨l,n⟩ Y I ⟨r,o,g,rfl⟩;rw[List.getElem?_zipIdx]at I;let⟨l',t,e⟩:=Option.map_eq_some_iff.mp I;rw[Nat.zero_add]at e;cases e;have tf:=zu t;have T:=CV (lv:=lv.take i) (n:=0) UA;have nx:oQ (lv.take (i+1)) 0 ([],[])=jM (i:Int) l (oQ (lv.take i) 0 ([],[])):=by
   have hi:=(Vh.mp t).1;rw[List.take_add_one,t];show oQ (lv.take i++[l]) 0 _=_;rw[qF,List.length_take,Nat.min_eq_left (Nat.le_of_lt hi),Nat.zero_add]
  refine x_for (λj Y=>∃g,Y=[!_,!(.deep,wD' (jM (i:Int) (l.take j) (oQ _ 0 _))),!(.sh,.int (i:Nat)),!_,g]) rfl ⟨g,rfl⟩ ?_ ?_
  .rintro j a Y J ⟨g,rfl⟩;have hj:j<l.length:=(Vh.mp J).1;have C:=rX (n:=(i:Int)) (l:=l.take j) T;rw[List.length_take,Nat.min_eq_left (Nat.le_of_lt hj)]at C;refine⟨_,(ar (F4 C (!1) rfl rfl rfl)).trans rfl,⟨!(.sh,.int a),?_⟩⟩;rw[zt J];rfl
  .rintro Y ⟨g,rfl⟩;rw[List.take_length,<-nx];exact x_end ⟨_,_,_,rfl⟩
 .rintro Y ⟨r,o,g,rfl⟩;rw[List.length_zipIdx,List.take_length];rfl
end K16
namespace K16
open PySem PySem.Spec PyProof.Rows L2
def  levs(ls:oK)(gs:List Gr):List (U4):=gs.flatMap (levG ls)
def x6(r:U2):(bZ r).length=r.length:=length_map _
def qG(l:U4):(l.map ([·])).flatten=l:=by
 induction l with
 |nil=>rfl
 |cons a l g=>rw[List.map_cons,List.flatten_cons,g];rfl
def CW(h:bO ls)(g:Gr):(levG ls g).flatten.Perm (bZ g.2):=by
 unfold levG;split
 .simp only[List.flatten_cons,List.flatten_nil,List.append_nil];exact jc _
 .split
  .rw[qG];exact jd h _
  .rw[qG]
def Ku(h:bO ls)(o:g.2≠[]):∀l∈levG ls g,l≠[]:=λl j=>by
 unfold levG at j;split at j
 .rw[mem_singleton.mp j];intro z;have:=(jc (bZ g.2)).length_eq;rw[z,x6]at this;exact o (List.length_eq_zero_iff.mp this.symm)
 grind
def qH(h:bO ls):∀gs:List Gr,(levs ls gs).flatten.Perm (bZ (bP gs))
 |[]=>.refl _
 |g::gs=>by
  show(levG ls g++levs ls gs).flatten.Perm (bZ (g.2++bP gs));rw[List.flatten_append];unfold bZ;rw[List.map_append];exact(CW h g).append (qH h gs)
def F5(h:bO ls)(o:∀g∈p,g.2≠[]):∀l∈levs ls p,l≠[]:=λl j=>by
 let⟨g,h1,h2⟩:=List.mem_flatMap.mp j;exact Ku h (o g h1) l h2
def uz(h:bO ls)(l:∀g∈j,g.2≠[]):(levs ls j).length<=(bP j).length/\(levs ls j).flatten.length=(bP j).length:=by
 have e:=(qH h j).length_eq;rw[x6]at e;exact⟨by rw[<-e];exact Ks (F5 h l),e⟩
def qI{j:List Gr}(h:j[i]?=!g):levs ls (j.take (i+1))=levs ls (j.take i)++levG ls g:=by
 rw[List.take_add_one,h];unfold levs;simp
def zv:(bP (gs.take i)).length<=(bP gs).length:=by
 conv=>rhs;rw[<-List.take_append_drop i gs]
 unfold bP;grind
def x8(h:c≠.sh):∀es:U7,extC c es≠.sh
 |[]=>h
 |d::es=>x8 (ql c (extS d)) es
def N6(h:gJ Y i=!(c,.lst ds))(g:c≠.sh):ownL Y i=!(c,ds):=by
 unfold ownL;rw[h];cases c with
 |sh=>exact absurd rfl g
 |deep=>rfl
 |top=>rfl
def Kv(h0:gJ Y i=!(c,.lst ds))(j:c≠.sh)(l:R (c9 Y)=!(.lst es))(g:ds.length+es.length<big):lB i R Y=!(.nx (Y.set i (!(extC c es,.lst (ds++es))))):=by
 have e:yU i R Y=!(.nx (Y.set i (!(extC c es,.lst (ds++es))))):=by
  unfold yU;rw[N6 h0 j];simp only[Option.bind_some,l];show(if ds.length+es.length<big then _ else _)=_;rw[if_pos g]
 unfold lB a8;rw[e]
def  Kw(f:Fn):Prop:=∀(m:Nat)(ls:oK)(gs:List Gr),bO ls->ls.length=m->Good m gs->∃c,c≠Cat.sh/\f [lsD' ls,fw gs]=!(c,mJ (levs ls gs))
def lt_big(h:n<=100):n<big:=Vm h (!3)
def F6(a b:List (U4)):mJ (a++b)=.lst (a.map aA++b.map aA):=by unfold mJ;rw[List.map_append]
def Kx{α o:Type}{out:α->Option Out}{P:α->Prop}{xs:List o}{mk}(I:Nat->Ev->Prop)(r:J (c9 Y)=!(xs.map mk))(h0:I 0 Y)(p:∀(i:Nat)(x:o)(Y:Ev),xs[i]?=!x->I i Y->∃Y',(tg (mk x) Y).bind F=!(.nx Y')/\I (i+1) Y')(k:∀Y',I xs.length Y'->∃a,G Y'=out a/\P a):∃a,ab (B8 j J tg F) G Y=out a/\P a:=by
 have l:∀(i:Nat)(d:D)(Y:Ev),(xs.map mk)[i]?=!d->I i Y->∃Y',(tg d Y).bind F=!(.nx Y')/\I (i+1) Y':=λi d Y hd hi=>by
  rw[getElem?_map]at hd;cases g:xs[i]? with
  |none=>rw[g]at hd;cases hd
  |some x=>rw[g]at hd;cases hd;exact p i x Y g hi
 let⟨Y',e,i⟩:=iR (xs.map mk) I _ h0 l;rw[length_map]at i;have t:iL J tg F Y=!(.nx Y'):=by unfold iL;rw[r];exact e
 refine kP ?_ (k _ i);unfold B8 a8;rw[t]
def N7(hg:RQ gl):Kw (aI 2 5 (mx gl)):=λm ls gs hl hm G=>by
 have hs:aD 5 [lsD' ls,fw gs]=[!_,!_,none,none,none]:=rfl;have key:∃c,mx gl [!(.sh,lsD' ls),!(.sh,fw gs),none,none,none]=!(.rt (c,mJ (levs ls gs)))/\c≠Cat.sh:=by
  refine x_set (s:=(.deep,.lst [])) (evX_lfs (d:=.lst []) (by simp) rfl (by simp) rfl) ?_;refine Kx (λi Y=>∃c o3 o4,c≠Cat.sh/\Y=[!_,!_,!(c,mJ (levs ls (gs.take i))),o3,o4]) rfl ⟨.deep,none,none,by simp,rfl⟩ ?_ ?_
  .rintro i g Y hx ⟨c,o3,o4,hc,rfl⟩;have gm:=Vx hx;have hfl:=G.len;have hle:=G.le;have e:=hg ls g hl (G.kd g gm) (G.ne g gm) (λa ha=>by rw[hm];exact G.lt gm ha) (by have:=CS gm;omega);have n1:∀x∈gs.take (i+1),x.2≠[]:=λx hx=>G.ne x (List.mem_of_mem_take hx);have b1:=(uz hl n1).1;have b2:=zv (gs:=gs) (i:=i+1);rw[qI hx,length_append]at b1;refine⟨_,(ar (Kv (es:=(levG ls g).map aA) rfl hc ?_ ?_)).trans rfl,⟨extC c ((levG ls g).map aA),!(.sh,.str (kdS g.1)),!(.sh,rowD g.2),x8 hc _,?_⟩⟩
   .show bf gl _ [!(lsD' ls),!(fw gs),_,!(.str (kdS g.1)),!(rowD g.2)]=_;simp only[clF_a,consX_a,nilX_a,va_a,shAt_0,shAt_s,Option.bind_some,e,valO_some];rfl
   .rw[length_map,length_map];exact lt_big (!1)
   .rw[qI hx,F6];rfl
  .rintro Y ⟨c,o3,o4,hc,rfl⟩;refine⟨c,?_,hc⟩;rw[List.take_length];rfl
 let⟨c,e,hc⟩:=key;exact⟨c,hc,aj rfl (by rw[hs];exact e)⟩
end K16
namespace K16
open PySem PySem.Spec PyProof.Rows L2
def  lH(bA bQ bz:Fn)(y:Addr):uR:=(stI (eV (bB (iP (bf bz (x2 (va 2) (cQ (va 1)))))) (ab noO' aH) aH) (tN y 0 "groups" (bi (a6 (af [3,4] (jX ag (va 2)) (l7 2 (au (gNm 3) (au (gNm 4) bt))) tQ (cu (x2 (va 3) (liF (!15)))))) (af [3,4] (jX ag (va 2)) (l7 2 (au (gNm 3) (au (gNm 4) bt))) tQ (cu (x2 (va 3) (liF (!15))))) (fCo [3,4] (jX ag (va 2)) (l7 2 (au (gNm 3) (au (gNm 4) bt))) tQ (frX (cu (x2 (va 3) (liF (!15)))) ag (uS (x2 (frX (va 3) ag ag) (frX (liF (!15)) (l1F (!15)) (fNo (!15)))))))) (tN y 0 "level_letters" (mI bQ (x2 (va 1) (va 2))) (BN y 0 "level_numbers" "level_letters" bA A5))))
def F7{R L Sp}(h:R Y=!d)(f:lfD d=false)(j:L Y=none)(g:Sp Y=!e):frX R L Sp Y=!e:=by
 unfold frX a8;simp only[h,j,sC,jm,Option.bind_none,Option.bind_some,f,g];rfl
def oR(r:U2):l6 [rowD r]=!(!8):=rfl
def Ky(h:j≠[]):cF (j.map rV)=false:=by
 cases j with
 |nil=>exact absurd rfl h
 |cons g j=>rfl
instance gwDec(p:Prop):Decidable p:=Classical.propDecidable p
def  gW(I:Addr->uR):U7->Option (List (Str×D)):=λds=>if h:∃r,∀y,rz 3 5 I y ds=!r then !(Classical.choose h)else none
def Kz(h:gW I ds=!r):∀y,rz 3 5 I y ds=!r:=by
 unfold gW at h;split at h
 .rename_i q;cases h;exact Classical.choose_spec q
 .cases h
def N8(h:∀y,rz 3 5 I y ds=!r):gW I ds=!r:=by
 have q:∃r,∀y,rz 3 5 I y ds=!r:=⟨r,h⟩;unfold gW;rw[dif_pos];have:=(Classical.choose_spec q 0).symm.trans (h 0);exact this
def  UB(ls:oK)(gs:List Gr):List (Str×D):=[("groups",fw gs),("level_letters",mJ (levs ls gs)),("level_numbers",Kr (levs ls gs))]
def  aZ(ls:oK)(gs:List Gr):D:=.obj "Wish" ["groups","level_letters","level_numbers"] [fw gs,mJ (levs ls gs),Kr (levs ls gs)]
def  CY(g:U7->Option (List (Str×D))):Prop:=∀(m:Nat)(ls:oK)(gs:List Gr),bO ls->ls.length=m->Good m gs->g [lsD' ls,fw gs]=!(UB ls gs)
def x9{fs}(h:g Y=!(s,Y))(hi:gJ Y i=!(.sh,.adr x))(j:fs.length<900):tN x i f g G Y fs=G Y (nV f s.2 fs):=by
 unfold tN;grind
def F8{g:Fn}{fs}(hd:fs.lookup h=!d)(l:g [d]=!s)(hi:gJ Y i=!(.sh,.adr x))(j:fs.length<900):BN x i f h g G Y fs=G Y (nV f s.2 fs):=by
 unfold BN;grind
def KA(h1:Kt num)(h2:Kw lev)(h3:sAre are):CY (gW (lH num lev are)):=λm ls gs hl hm G=>N8 λy=>by
 have hfl:=G.len;have hle:=G.le;have hgl:=oO G.ne;let⟨b1,b2⟩:=uz hl G.ne;let⟨c,hc,e2⟩:=h2 m ls gs hl hm G;have e1:=h1 (levs ls gs) (!1) (!1);have e3:=h3 m gs G;have len1:dM [lsD' ls]=!(.int (m:Int)):=by
  rw[<-hm];simp only[bb,show seqD (lsD' ls)=some _ from rfl,Option.bind_some,length_map]
 show lH num lev are y [!(.sh,.adr y),!(.sh,lsD' ls),!(.sh,fw gs),none,none] []=_;unfold lH;have c0:eV (bB (iP (bf are (x2 (va 2) (cQ (va 1)))))) (ab noO' aH) aH [!(.sh,.adr y),!(.sh,lsD' ls),!(.sh,fw gs),none,none]=!(.nx [!(.sh,.adr y),!(.sh,lsD' ls),!(.sh,fw gs),none,none]):=by
  refine(eZ ?_).trans rfl;simp only[vw_some,vw_none,vw_nil,notQ_a,trF_a,clF_a,biF_a,consX_a,nilX_a,va_a,shAt_0,shAt_s,Option.bind_some,len1,e3,valO_some,truD_bl,map_some,Bool.not_true]
 unfold L2.stI;rw[c0];have c1:af [3,4] (jX ag (va 2)) (l7 2 (au (gNm 3) (au (gNm 4) bt))) tQ (cu (x2 (va 3) (liF (!15)))) [!(.adr y),!(lsD' ls),!(fw gs),none,none]=!(gs.map rV):=by
  refine ao rfl (λg hg=>?_) (lt_big (!1));rfl
 have c2:af [3,4] (jX ag (va 2)) (l7 2 (au (gNm 3) (au (gNm 4) bt))) tQ (frX (cu (x2 (va 3) (liF (!15)))) ag (uS (x2 (frX (va 3) ag ag) (frX (liF (!15)) (l1F (!15)) (fNo (!15)))))) [!(.adr y),!(lsD' ls),!(fw gs),none,none]=!(gs.map rV):=by
  refine ao rfl (λg hg=>?_) (lt_big (!1));have e2:frX (liF (!15)) (l1F (!15)) (fNo (!15)) [!(.adr y),!(lsD' ls),!(fw gs),!(.str (kdS g.1)),!(rowD g.2)]=!(rowD g.2):=j2 (by simp only[oz,consX_a,nilX_a,va_a,shAt_0,shAt_s,Option.bind_some,oR,map_some]) (by simp only[xJ,consX_a,nilX_a,va_a,shAt_0,shAt_s,Option.bind_some,oR]) (wy _);have e3:frX (cu (x2 (va 3) (liF (!15)))) ag (uS (x2 (frX (va 3) ag ag) (frX (liF (!15)) (l1F (!15)) (fNo (!15))))) [!(.adr y),!(lsD' ls),!(fw gs),!(.str (kdS g.1)),!(rowD g.2)]=!(rV g):=by
   refine F7 (d:=rV g) ?_ rfl rfl ?_
   .simp only[iS,oz,consX_a,nilX_a,va_a,shAt_0,shAt_s,Option.bind_some,oR,map_some,capL_2];rfl
   .simp only[NP,consX_a,e1,e2,nilX_a,Option.bind_some,capL_2];rfl
  show qg _ _ _ _ (.tup [.str (kdS g.1),rowD g.2])=_;simp only[stepF_a,wipe_cons,wipe_nil,HA,ug,xN,gNm_a,tQ_a,set_cons_succ,set_cons_zero,length_cons,List.length_nil,Option.bind_some,if_true,e3]
 refine(x9 (s:=(.deep,fw gs)) ?_ rfl (!3)).trans ?_
 .cases hg:gs with
  |nil=>rfl
  |cons g0 g1=>
   rw[<-hg];refine kO (ds:=gs.map rV) (by simp only[vw_some,vw_none,vw_nil,lsF_a,c1];rfl) rfl (by simp only[vw_some,vw_none,vw_nil,c1]) (Ky (by rw[hg];simp)) ?_;show(af _ _ _ _ _ _).bind _=_;simp only[vw_some,vw_none,vw_nil,c2,Option.bind_some];rfl
 .have cv:bf lev (x2 (va 1) (va 2)) [!(.adr y),!(lsD' ls),!(fw gs),none,none]=!(mJ (levs ls gs)):=by
   simp only[clF_a,consX_a,nilX_a,va_a,shAt_0,shAt_s,Option.bind_some,e2,valO_some]
  have fc:Hw lev (x2 (va 1) (va 2)) [!(.adr y),!(lsD' ls),!(fw gs),none,none]=nT (!(c,mJ (levs ls gs))):=by
   simp only[fCl_a,consX_a,nilX_a,va_a,shAt_0,shAt_s,Option.bind_some,e2]
  have ev:∃c',mI lev (x2 (va 1) (va 2)) [!(.sh,.adr y),!(.sh,lsD' ls),!(.sh,fw gs),none,none]=!((c',mJ (levs ls gs)),[!(.sh,.adr y),!(.sh,lsD' ls),!(.sh,fw gs),none,none]):=by
   cases c with
   |sh=>exact absurd rfl hc
   |deep=>exact⟨.deep,evX_call cv rfl rfl fc⟩
   |top=>exact⟨.sh,ox cv rfl rfl fc rfl cv⟩
  let⟨c',ev⟩:=ev;refine(x9 ev rfl (by show 1<900;decide)).trans ?_;refine(F8 rfl e1 rfl (by show 2<900;decide)).trans ?_;rfl
end K16
namespace K16
open PySem PySem.Spec PyProof.Rows L2
def  fW(fl:Str->Str->Bool):US:=(gN (bi (a6 (af [1] (jX ag (j8 fl "level_letters" (va 0))) (gNm 1) tQ (liF (x1 (va 1))))) (af [1] (jX ag (j8 fl "level_letters" (va 0))) (gNm 1) tQ (liF (x1 (va 1)))) (fCo [1] (jX ag (j8 fl "level_letters" (va 0))) (gNm 1) tQ (frX (liF (x1 (va 1))) (l1F (x1 (va 1))) (fNo (x1 (va 1)))))))
def  dj(fl:Str->Str->Bool):US:=(gN (bi (a7 fy (x1 (a6 (af [1] (jX ag (j8 fl "level_letters" (va 0))) (gNm 1) tQ (aa (aK false) (cQ (va 1)) (cI 1)))))) ag (fNo (x1 (a6 (af [1] (jX ag (j8 fl "level_letters" (va 0))) (gNm 1) tQ (aa (aK false) (cQ (va 1)) (cI 1))))))))
def CZ{fl:Str->Str->Bool}(hfl:fl "Wish" "level_letters"=true)(ls:oK)(gs:List Gr):mG fl "level_letters" (aZ ls gs)=!(mJ (levs ls gs)):=by
 simp[mG,aZ,hfl];rfl
def rY(l:U4):l6 [aA l]=!(l.map D.int):=rfl
def KC(l:U4):dM [aA l]=!(.int (l.length:Int)):=by
 simp only[bb,show seqD (aA l)=some (l.map D.int)from rfl,Option.bind_some,length_map]
def KD{lv:List (U4)}(h:lv≠[]):cF (lv.map aA)=false:=by
 cases lv with
 |nil=>exact absurd rfl h
 |cons g gs=>rfl
def  F9(f:Fn):Prop:=∀(ls:oK)(gs:List Gr),(levs ls gs).length<=24->f [aZ ls gs]=!(.deep,mJ (levs ls gs))
def N9{fl}(hfl:fl "Wish" "level_letters"=true):F9 (aI 1 2 (fW fl)):=λls gs h24=>by
 refine aj rfl ?_;show fW fl [!(.sh,aZ ls gs),none]=_;unfold fW;have hJ:jX ag (j8 fl "level_letters" (va 0)) [!(aZ ls gs),none]=!((levs ls gs).map aA):=by
  show(j8 fl "level_letters" (va 0) [!(aZ ls gs),none]).bind seqD=_;simp only[B9,va_a,shAt_0,Option.bind_some,CZ hfl];rfl
 have c1:af [1] (jX ag (j8 fl "level_letters" (va 0))) (gNm 1) tQ (liF (x1 (va 1))) [!(aZ ls gs),none]=!((levs ls gs).map aA):=by
  refine ao (xs:=levs ls gs) (mk:=aA) (out:=aA) hJ (λl hl=>?_) (lt_big (!1));simp only[stepF_a,wipe_cons,wipe_nil,gNm_a,tQ_a,set_cons_succ,set_cons_zero,Option.bind_some,if_true,oz,consX_a,nilX_a,va_a,shAt_0,shAt_s,rY,map_some];rfl
 have c2:af [1] (jX ag (j8 fl "level_letters" (va 0))) (gNm 1) tQ (frX (liF (x1 (va 1))) (l1F (x1 (va 1))) (fNo (x1 (va 1)))) [!(aZ ls gs),none]=!((levs ls gs).map aA):=by
  refine ao (xs:=levs ls gs) (mk:=aA) (out:=aA) hJ (λl hl=>?_) (lt_big (!1));have e2:frX (liF (x1 (va 1))) (l1F (x1 (va 1))) (fNo (x1 (va 1))) [!(aZ ls gs),!(aA l)]=!(aA l):=j2 (by simp only[oz,consX_a,nilX_a,va_a,shAt_0,shAt_s,Option.bind_some,rY,map_some]) (by simp only[xJ,consX_a,nilX_a,va_a,shAt_0,shAt_s,Option.bind_some,rY]) (ng _);simp only[stepF_a,wipe_cons,wipe_nil,gNm_a,tQ_a,set_cons_succ,set_cons_zero,Option.bind_some,if_true,e2]
 refine q_ret (Y':=[!(.sh,aZ ls gs),none]) ?_;cases hg:levs ls gs with
 |nil=>
  rw[hg]at c1;exact evX_lfs (d:=mJ []) (ds:=[]) (by simp only[vw_some,vw_none,vw_nil,lsF_a,c1];rfl) rfl (by simp only[vw_some,vw_none,vw_nil,c1];rfl) rfl
 |cons g0 g1=>
  rw[<-hg];refine kO (d:=mJ (levs ls gs)) (ds:=(levs ls gs).map aA) (by simp only[vw_some,vw_none,vw_nil,lsF_a,c1];rfl) rfl (by simp only[vw_some,vw_none,vw_nil,c1]) (KD (by rw[hg];simp)) ?_;show(af _ _ _ _ _ _).bind _=_;simp only[vw_some,vw_none,vw_nil,c2,Option.bind_some];rfl
def  Ga(lv:List (U4)):Bool:=lv.all λl=>decide (l.length=1)
def  Gc(f:Fn):Prop:=∀(ls:oK)(gs:List Gr),(levs ls gs).length<=24->f [aZ ls gs]=!(.deep,.bl (Ga (levs ls gs)))
def Oa{fl}(hfl:fl "Wish" "level_letters"=true):Gc (aI 1 2 (dj fl)):=λls gs h24=>by
 refine aj rfl ?_;show dj fl [!(.sh,aZ ls gs),none]=_;unfold dj;have hJ:jX ag (j8 fl "level_letters" (va 0)) [!(aZ ls gs),none]=!((levs ls gs).map aA):=by
  show(j8 fl "level_letters" (va 0) [!(aZ ls gs),none]).bind seqD=_;simp only[B9,va_a,shAt_0,Option.bind_some,CZ hfl];rfl
 have c1:af [1] (jX ag (j8 fl "level_letters" (va 0))) (gNm 1) tQ (aa (aK false) (cQ (va 1)) (cI 1)) [!(aZ ls gs),none]=!((levs ls gs).map λl=>.bl (decide (l.length=1))):=by
  refine ao (xs:=levs ls gs) (mk:=aA) (out:=λl=>.bl (decide (l.length=1))) hJ (λl hl=>?_) (lt_big (!1));simp only[stepF_a,wipe_cons,wipe_nil,gNm_a,tQ_a,set_cons_succ,set_cons_zero,Option.bind_some,if_true,bin2_a,biF_a,consX_a,nilX_a,va_a,shAt_0,shAt_s,KC,cI_a,jJ];by_cases h:l.length=1
  .simp[h]
  .have:¬ ((l.length:Int)=1):=by omega
   simp[h,this]
 refine q_ret (Y':=[!(.sh,aZ ls gs),none]) (evX_lf ?_ rfl);simp only[vw_some,vw_none,vw_nil,biF_a,consX_a,nilX_a,lsF_a,c1,map_some,Option.bind_some,cO];rfl
end K16
namespace K16
open PySem PySem.Spec PyProof.Rows L2
def  oS(lK:Fn):US:=(ab (av 4 sE) (ab (iQ (jX (Lw (x1 (va 0))) (a7 ou (x1 (va 0)))) (zE 2 (cz (dq 5) (cz (dq 6) mF))) (ab (eV (al (aa nJ (va 1) (aa am (va 6) (cI 1)))) (ab (av 7 (b8 (Ef (al (aa (aK false) (aa am (va 6) (cI 0)) (cS "queue"))) (cI 1) (FE (cI 1))))) (ab (lB 4 (a6 (af [8,9] (jX ag (va 3)) (l7 2 (au (gNm 8) (au (gNm 9) bt))) tQ (cu (x2 (aa aC (aa aJ (va 5) (va 2)) (bf lK (x3 (aa am (va 6) (cI 0)) (va 2) (va 8)))) (aa aJ (va 7) (va 9))))))) aH)) aH) aH)) (ab (we 4) aH)))
def  rZ(fl:Str->Str->Bool)(cV bv:Fn):US:=(ab (av 3 (mI bv (x1 (iO (j8 fl "passes" (va 0)) lj (aR (va 2)))))) (ab (av 4 (bi (a6 (fV (x1 (cu (x2 (aa fQ (va 3) (cI 1)) (cI 1)))))) (fV (x1 (cu (x2 (aa fQ (va 3) (cI 1)) (cI 1))))) (B7 (x1 (frX (cu (x2 (aa fQ (va 3) (cI 1)) (cI 1))) ag (uS (x2 (frX (aa fQ (va 3) (cI 1)) ag ag) (frX (cI 1) ag ag)))))))) (ab (iQ (jX ag (iO (j8 fl "passes" (va 0)) (aR (va 2)) lj)) (dq 5) (ab (av 4 (mI cV (x4 (va 5) (va 1) (va 3) (va 4)))) (ab (av 3 (b8 (aa aJ (va 3) (cQ (va 5))))) aH))) (gN (bi (DH (!15) (wb (!15))) (wb (!15)) (fNo (!15)))))))
def  pJ(bW jj aT:Fn):US:=(ab (jH (bf aT (x2 (va 0) (va 1)))) (ab (av 3 (mI jj (x2 (va 1) (va 2)))) (gN (bi (a6 (af [4,5] (jX ag (bf bW (x3 (va 0) (aa am (!20) (cI 0)) (aa am (!20) (cI 1))))) (l7 2 (au (gNm 4) (au (gNm 5) bt))) tQ (cu (x2 (va 4) (aa aJ (va 5) (va 3)))))) (af [4,5] (jX ag (bf bW (x3 (va 0) (aa am (!20) (cI 0)) (aa am (!20) (cI 1))))) (l7 2 (au (gNm 4) (au (gNm 5) bt))) tQ (cu (x2 (va 4) (aa aJ (va 5) (va 3))))) (fCo [4,5] (jX ag (bf bW (x3 (va 0) (aa am (!20) (cI 0)) (aa am (!20) (cI 1))))) (l7 2 (au (gNm 4) (au (gNm 5) bt))) tQ (frX (cu (x2 (va 4) (aa aJ (va 5) (va 3)))) ag (uS (x2 (frX (va 4) ag ag) (frX (aa aJ (va 5) (va 3)) ag ag)))))))))
def wz(S:List Sd):cF (S.map di)=true:=cf λd hd=>by
 let⟨p,_,rfl⟩:=Vp.mp hd;rfl
def C0(h:p[k]?=!a):jp p k=a:=by unfold jp;rw[List.getD_eq_getElem?_getD,h];rfl
def zw{S:List Sd}(i:Nat):((List.range i).flatMap λk=>if s<=(jp p k).2 then S.map (bY n k (jp p k))else[]).length<=i*S.length:=by
 induction i with
 |zero=>exact Nat.le_of_eq (by simp)
 |succ i g=>
  rw[List.range_succ,List.flatMap_append,length_append,Nat.succ_mul];have:(List.flatMap (λk=>if s<=(jp p k).2 then S.map (bY n k (jp p k))else[]) [i]).length<=S.length:=by
   rw[List.flatMap_cons,List.flatMap_nil,List.append_nil];split
   .rw[length_map];exact Vy _
   .exact Nat.zero_le _
  omega
def  r0(f:Fn):Prop:=∀(p:List Pk)(s:Int)(n:Nat)(S:List Sd),p.length<=6->n<=1000->S.length<=1000->f [dH p,.int s,.int (n:Int),.lst (S.map di)]=!(.deep,.lst ((CO s n p S).map di))
def C1(hl:qx la):r0 (aI 4 10 (oS la)):=λp s n S hp hn hS=>by
 refine aj rfl ?_;refine q_set (evX_lfs (d:=.lst []) (by simp) rfl (by simp) rfl) (q_forB (xs:=p.zipIdx) (mk:=λq=>.tup [.int (q.2:Nat),j9 q.1])
  (λi Y=>∃o5 o6 o7,Y=[!_,!_,!(.sh,.int (n:Int)),!(.sh,.lst _),!(.deep,.lst (((List.range i).flatMap λk=>if s<=(jp p k).2 then S.map (bY n k (jp p k))else[]).map di)),o5,o6,o7,none,none]) ?_ ⟨none,none,none,rfl⟩ ?_ ?_)
 .refine N0 ?_;show(seqD (dH p)).bind (λxs=>!(ma xs))=_;rw[show seqD (dH p)=some _ from rfl,Option.bind_some,qz]
 .rintro i ⟨⟨b,w⟩,j⟩ Y hq ⟨o5,o6,o7,rfl⟩;obtain⟨hq1,hq2⟩:p[i]?=!(b,w)/\i=j:=by
   rw[List.getElem?_zipIdx]at hq;cases e:p[i]? with
   |none=>rw[e]at hq;cases hq
   |some a=>rw[e]at hq;cases hq;exact⟨rfl,by simp⟩
  subst hq2;have hi:=(Vh.mp hq1).1;have pk:=C0 hq1;have x0:am (j9 (b,w)) (.int 0)=!_:=qu _ _;have x1:am (j9 (b,w)) (.int 1)=!_:=uf _ _ _;have e1:((List.range (i+1)).flatMap λk=>if s<=(jp p k).2 then S.map (bY n k (jp p k))else[])=((List.range i).flatMap λk=>if s<=(jp p k).2 then S.map (bY n k (jp p k))else[])++(if s<=w then S.map (bY n i (b,w))else[]):=by
   rw[List.range_succ,List.flatMap_append];simp[pk]
  have hlen:=zw (s:=s) (n:=n) (p:=p) (S:=S) i;have hlen2:i*S.length<=6*1000:=Nat.mul_le_mul (!1) hS;rw[e1];generalize ((List.range i).flatMap λk=>if s<=(jp p k).2 then S.map (bY n k (jp p k))else[])=T at hlen;by_cases hw:s<=w
  .rw[if_pos hw];obtain⟨t,ht,ht1⟩:∃t:Int,(if b then 1 else -1)=t/\(t=1\/t= -1):=⟨_,rfl,by cases b<;>simp⟩;have mi:aJ (.int (i:Int)) (.int (n:Int))=!(.int ((i:Int)*(n:Int))):=ez (!1) (!1);refine wv (b:=true) (by simp[vw_o,x1,hw]) ⟨_,q_set (evX_lf (d:=.int t) ?_ rfl) (q_st (lE (es:=(S.map (bY n i (b,w))).map di) rfl ?_ (wz _) ?_) rfl),⟨_,rfl,⟨!(.sh,.int (i:Int)),!(.sh,j9 (b,w)),!(.deep,.int t),?_⟩⟩⟩
   .simp only[set_cons_succ,set_cons_zero,vw_o,vw_nil,map_some,xK,testB_a,bin2_a,va_a,shAt_s,shAt_0,shAt_1,cI_a,cS_a,Option.bind_some,x0,xM,asB_bl];cases b with
    |true=>
     have e:decide (kd true="queue")=true:=by decide+kernel
     simp only[e];subst ht;rfl
    |false=>
     have e:decide (kd false="queue")=false:=by decide+kernel
     simp only[e];subst ht;rfl
   .have hc:af [8,9] (jX ag (va 3)) (l7 2 (au (gNm 8) (au (gNm 9) bt))) tQ (cu (x2 (aa aC (aa aJ (va 5) (va 2)) (bf la (x3 (aa am (va 6) (cI 0)) (va 2) (va 8)))) (aa aJ (va 7) (va 9))))
      [!(dH p),!(.int s),!(.int (n:Int)),!(.lst (S.map di)),none,!(.int (i:Int)),!(j9 (b,w)),!(.int t),none,none]=!(S.map λc=>di (bY n i (b,w) c)):=by
     refine ao (mk:=di) (by simp) (λc _=>?_) (Vm hS (!3))
     have mt:aJ (.int t) (.int c.2)=!(.int _):=rM (!1) (!1)
     simp[di,mi,x0,hl b (n:Int) c.1,mt]
     cases b with
     |true=>subst ht;simp[bY,HC]
     |false=>subst ht;simp[bY,HC]
    show a6 _ [!(dH p),!(.int s),!(.int (n:Int)),!(.lst (S.map di)),none,!(.int (i:Int)),!(j9 (b,w)),!(.int t),none,none]=_;rw[lsF_a,hc,List.map_map];rfl
   .rw[length_map,length_map,length_map];exact Vm (show T.length+S.length<=10000 by omega) (!3)
   .rw[List.map_append];rfl
  .rw[if_neg hw];refine wv (b:=false) (by simp[vw_o,x1,hw]) ⟨_,rfl,⟨_,rfl,⟨!(.sh,.int (i:Int)),!(.sh,j9 (b,w)),o7,?_⟩⟩⟩;rw[List.append_nil];rfl
 .rintro Y ⟨o5,o6,o7,rfl⟩;rw[List.length_zipIdx];rfl
def  wA(f:Fn):Prop:=∀(ps:UV)(s:Int)(t:Nat),Valid ps->prod ps<64->t<=ps.length->∃T:List Sd,T.Perm (uT s (prod (ps.take t)) (!5))/\T.Pairwise (λa b=>HT.lexLt [b.1,b.2] [a.1,a.2]=false)/\f [ay ps,.int s,.int (t:Int)]=!(.deep,.lst (T.map di))
def jg{α:Type}(l:List α)(t i:Nat)(a:α)(h:(l.drop t)[i]?=!a):(l.drop t).take (i+1)=(l.drop t).take i++[a]:=by rw[List.take_add_one,h];rfl
def kT(ps:UV)(t i:Nat):prod (ps.take t)*prod ((!5).take i)=prod (ps.take (t+i)):=by rw[<-bN,List.take_add]
def nh(l:Valid ps)(k:Nat):prod (ps.take k)<=prod ps:=by
 have e:prod ps=prod (ps.take k)*prod (ps.drop k):=by rw[<-bN,List.take_append_drop]
 have h1:1<=prod (ps.drop k):=by
  have:∀g:UV,(∀p∈g,p∈ps)->1<=prod g:=λg=>by
   induction g with
   |nil=>intro _;decide
   |cons p g j=>intro h;exact Nat.mul_pos (l.p (h p Vi)).1 (j λq o=>h q (Vj _ o))
  exact this _ λp r=>List.mem_of_mem_drop r
 rw[e];exact Nat.le_mul_of_pos_right _ h1
def uA(l:Valid ps)(t i:Nat):1<=prod ((!5).take i):=by
 have:∀g:UV,(∀p∈g,p∈ps)->1<=prod g:=λg=>by
  induction g with
  |nil=>intro _;decide
  |cons p g j=>intro h;exact Nat.mul_pos (l.p (h p Vi)).1 (j λq o=>h q (Vj _ o))
 grind
def C2(g:Valid ps)(s:Int)(t i:Nat):(uT s (prod (ps.take t)) ((!5).take i)).length<=prod ps:=by
 refine Vn (FZ _ _ _) ?_;have h1:1<=prod (ps.take t):=by have:=uA g 0 t;rwa [List.drop_zero]at this
 refine Vn ?_ (Vn (Nat.le_of_eq (kT ps t i)) (nh g (t+i)));exact Nat.le_mul_of_pos_left _ h1
def RT(g:j "Mill" "passes"=true){t:Nat}(h0:bF Y 0=!(ay ps))(h1:bF Y 2=!(.int (t:Int))):iO (j8 j "passes" (va 0)) lj (aR (va 2)) Y=!(.tup ((ps.take t).map dH)):=by
 unfold iO a8 ra;simp[h0,h1,kK g,aq,kJ]
def RU(g:j "Mill" "passes"=true){t:Nat}(h0:bF Y 0=!(ay ps))(h1:bF Y 2=!(.int (t:Int))):iO (j8 j "passes" (va 0)) (aR (va 2)) lj Y=!(.tup ((!5).map dH)):=by
 unfold iO a8 ra;simp[h0,h1,kK g,aq,kI]
def zx(C:jZ co)(t:∀p∈ps,p.length<1000):co [.tup (ps.map dH)]=!(.deep,.int (prod ps:Nat)):=by
 have l:(ps.map λp=>(false,p)).map (·.2)=ps:=by rw[List.map_map];exact List.map_id ps
 have j:(ps.map λp=>(false,p)).map sD=ps.map dH:=by rw[List.map_map];rfl
 have q:=C false (ps.map λp=>(false,p)) λp g=>by
  let⟨r,o,rfl⟩:=Vp.mp g;exact t r o
 rw[l,j]at q;exact q
def Gd(hfl:fl "Mill" "passes"=true)(hsb:r0 sb)(hco:jZ co):wA (aI 3 6 (rZ fl sb co)):=λps s t hv h64 ht=>by
 have hs:aD 6 [ay ps,.int s,.int (t:Int)]=[!_,!_,!(.sh,.int (t:Int)),none,none,none]:=rfl;obtain⟨n0,hn0⟩:∃n,n=prod (ps.take t):=⟨_,rfl⟩;have ec:co [.tup ((ps.take t).map dH)]=!(.deep,.int (n0:Nat)):=by rw[hn0];exact zx hco λp hp=>by have:=(hv.p (List.mem_of_mem_take hp)).2.1;omega
 have hle:∀i,n0*prod ((!5).take i)<=prod ps:=λi=>by rw[hn0,kT];exact nh hv _
 have hsl:∀i,(uT s n0 ((!5).take i)).length<=prod ps:=λi=>by rw[hn0];exact C2 hv s t i
 let⟨T,h1,h2,h3⟩:=FX (S:=uT s n0 (!5)) (by have:=hsl (!5).length;rw[List.take_length]at this;omega);rw[<-hn0];refine⟨T,h1,h2,aj rfl ?_⟩;rw[hs];refine q_set (evX_lf (d:=.int (n0:Int)) ?_ rfl) (q_set (evX_lfs (d:=.lst [di ((n0:Int)-1,1)]) (ds:=[di ((n0:Int)-1,1)]) ?_ rfl ?_ rfl) (q_forB (xs:=ps.drop t) (mk:=dH)
  (λi Y=>∃o5,Y=[!(.sh,ay ps),!(.sh,.int s),!(.sh,.int (t:Int)),!(.deep,.int ((n0*prod ((!5).take i):Nat):Int)),!(.deep,.lst ((uT s n0 ((!5).take i)).map di)),o5]) ?_ ⟨none,?_⟩ ?_ ?_))
 .have e:=RT hfl (Y:=[!(ay ps),!(.int s),!(.int (t:Int)),none,none,none]) rfl rfl;simp only[vw_some,vw_none,vw_nil,clF_a,consX_a,nilX_a,e,Option.bind_some,ec,valO_some]
 .simp[di]
 .simp[di]
 .show jX ag _ (c9 _)=_;rw[bH,RU hfl rfl rfl];rfl
 .have e:n0*prod ((!5).take 0)=n0:=Nat.mul_one n0;rw[e];rfl
 .rintro i p Y hp ⟨o5,rfl⟩;have hpm:=List.mem_of_mem_drop (Vx hp);have hl6:=(hv.p hpm).2.1;have hb:=hle i;have e:=hsb p s (n0*prod ((!5).take i)) (uT s n0 ((!5).take i)) hl6 (!1) (by have:=hsl i;omega);rw[<-CP,<-jg ps t i p hp]at e;refine⟨_,q_set (evX_call (d:=.lst ((uT s n0 ((!5).take (i+1))).map di)) (e:=.lst ((uT s n0 ((!5).take (i+1))).map di)) ?_ rfl rfl ?_) (q_set (evX_lf (d:=.int ((n0*prod ((!5).take i)*p.length:Nat):Int)) ?_ rfl) rfl),⟨!(.sh,dH p),?_⟩⟩
  .simp only[set_cons_succ,set_cons_zero,vw_o,vw_nil,map_some,clF_a,consX_a,nilX_a,va_a,shAt_s,shAt_0,shAt_1,Option.bind_some,e,valO_some]
  .simp only[set_cons_succ,set_cons_zero,vw_o,vw_nil,map_some,fCl_a,consX_a,nilX_a,va_a,shAt_s,shAt_0,shAt_1,Option.bind_some,e,wf]
  .have y:seqD (dH p)=!_:=rfl;simp only[set_cons_succ,set_cons_zero,vw_o,vw_nil,map_some,bin2_a,biF_a,consX_a,nilX_a,va_a,shAt_s,shAt_0,shAt_1,Option.bind_some,bb,y,length_map,Cy (show n0*prod ((!5).take i)<1000000 by omega)]
  .rw[jg ps t i p hp,dh,<-Nat.mul_assoc];rfl
 .rintro Y ⟨o5,rfl⟩;rw[List.take_length];have s1:wb (!15) (vw [!(.sh,ay ps),!(.sh,.int s),!(.sh,.int (t:Int)),!(.deep,.int ((n0*prod (!5):Nat):Int)),!(.deep,.lst ((uT s n0 (!5)).map di)),o5])=!(T.map di):=by
   show(x1 (va 4) _).bind cM=_;simp only[vw_o,vw_nil,map_some,consX_a,nilX_a,va_a,shAt_s,shAt_0,Option.bind_some,h3]
  refine q_ret (evX_lfs (mq s1) rfl s1 (wz T))
noncomputable abbrev Lz:=Int×Nat
def  ya(l:Lz):D:=.tup [.int l.1,.int (l.2:Int)]
def  az(ls:List Lz):D:=.lst (ls.map ya)
structure LzOk(ps:UV)(l:Lz):Prop where
 s1:1<=l.1
 s9:l.1<=9
 t:l.2<=ps.length
def  oT(f:Fn):Prop:=∀(ps:UV)(l:Lz),LzOk ps l->f [ay ps,ya l]=!(.deep,.bl true)
def zy(p:xQ j)(o:Co g):oT (aI 2 2 (uv j g)):=λps l h=>by
 refine aj rfl ?_;refine(ar ((eZ ?_).trans rfl)).trans (aO (bj (evX_lf ?_ rfl)))
 .simp[aD,ya]
 .simp[aD,ya,o l.1,p ps l.2 h.t,h.s1,h.s9]
def  r6(f:Fn):Prop:=∀(ps:UV)(ls:List Lz),ls.length<=24->(∀l∈ls,LzOk ps l)->f [ay ps,az ls]=!(.deep,.non)
def Ge(r:oT le):r6 (aI 2 3 (kN le)):=λps ls j h=>by
 have o:aD 3 [ay ps,az ls]=[!_,!_,none]:=rfl;refine kA rfl (Y:=aD 3 [ay ps,az ls]) ?_;rw[o];refine(ar ((eZ ?_).trans rfl)).trans ((ar ((eZ ?_).trans rfl)).trans rfl)
 .have h':¬ (24:Int)<(ls.length:Int):=by omega
  simp[az,h']
 .have p:af [2] (jX ag (va 1)) (gNm 2) tQ (bf le (x2 (va 0) (va 2))) [!(ay ps),!(az ls),none]=!(ls.map λ_=>.bl true):=by
   refine ao (mk:=ya) (by simp[az]) (λl g=>?_) (Vm j (!3));simp[r ps l (h l g)]
  simp[p,cO ls λ_=>true]
def C3{k:Nat}(h:ls[k]?=!l):am (az ls) (.int (k:Int))=!(ya l):=aU h
def  wB(f:Fn):Prop:=∀(ls:List Lz)(k:Nat)(l:Lz),ls.length<=24->ls[k]?=!l->f [az ls,.int (k:Int)]=!(.deep,.int ((k:Int)+(ls.length:Int)*(l.2:Int)))
def Gg:wB (aI 2 2 zo):=λls k l h24 hk=>by
 have hs:aD 2 [az ls,.int (k:Int)]=[!_,!(.sh,.int (k:Int))]:=rfl;have x1:am (ya l) (.int 1)=!(.int (l.2:Int)):=uf _ _ _;have y1:=C3 hk;have y3:seqD (az ls)=!_:=rfl;refine aj rfl ?_;rw[hs];refine aO (bj (evX_lf ?_ rfl));simp only[vw_some,vw_none,vw_nil,biF_a,consX_a,nilX_a,bin2_a,va_a,shAt_s,shAt_0,shAt_1,cI_a,Option.bind_some,y1,x1,y3,bb,length_map,wt (show ls.length<1000000 by omega),addD_ii]
abbrev uB(ls:List Lz)(k:Nat)(l:Lz):Int:=(k:Int)+(ls.length:Int)*(l.2:Int)
def  wC(f:Fn):Prop:=∀(ps:UV)(ls:List Lz)(k:Nat)(l:Lz),Valid ps->prod ps<64->ls.length<=24->(∀l∈ls,LzOk ps l)->ls[k]?=!l->
 ∃T:List Sd,T.Perm (uT l.1 (prod (ps.take l.2)) (ps.drop l.2))/\T.Pairwise (λa b=>HT.lexLt [b.1,b.2] [a.1,a.2]=false)/\f [ay ps,az ls,.int (k:Int)]=!(.deep,.lst ((T.map (DJ (uB ls k l))).map di))
def C4(j:Valid ps)(g:ls.length<=24)(h:LzOk ps l)(o:ls[k]?=!l):0<=uB ls k l/\uB ls k l<1000:=by
 have h1:=(Vh.mp o).1;have h2:=h.t;have r:=j.len;have p:ls.length*l.2<=24*6:=Nat.mul_le_mul g (!1);unfold uB;omega
def Gh{os rk lo}(hos:wA os)(hrk:wB rk)(hlo:r6 lo):wC (aI 3 6 (pJ os rk lo)):=λps ls k l hv h64 h24 h hk=>by
 have hs:aD 6 [ay ps,az ls,.int (k:Int)]=[!_,!_,!(.sh,.int (k:Int)),none,none,none]:=rfl;have hl:=h l (Vx hk);let⟨T,h1,h2,h3⟩:=hos ps l.1 l.2 hv h64 hl.t;have x0:am (ya l) (.int 0)=!_:=qu _ _;have x1:am (ya l) (.int 1)=!(.int (l.2:Int)):=uf _ _ _;have y1:=C3 hk;have hr:=C4 hv h24 hl hk;have er:=hrk ls k l h24 hk;have hT:T.length<big:=by
  rw[h1.length_eq];refine Vm (?_:_<=1000) (!3);have:=C2 hv l.1 l.2 (ps.drop l.2).length;rw[List.take_length]at this;omega
 have hc:af [4,5] (jX ag (bf os (x3 (va 0) (aa am (!20) (cI 0)) (aa am (!20) (cI 1))))) (l7 2 (au (gNm 4) (au (gNm 5) bt))) tQ (cu (x2 (va 4) (aa aJ (va 5) (va 3))))
   [!(ay ps),!(az ls),!(.int (k:Int)),!(.int (uB ls k l)),none,none]=!(T.map λc=>di (DJ (uB ls k l) c)):=by
  refine ao (mk:=di) ?_ (λc _=>?_) hT
  .simp only[bH,clF_a,consX_a,nilX_a,bin2_a,va_a,shAt_s,shAt_0,shAt_1,cI_a,Option.bind_some,y1,x0,x1,h3,valO_some,Cc]
  .have m:aJ (.int c.2) (.int (uB ls k l))=!(.int _):=ez (!1) (!1);simp[di,DJ,m]
 refine⟨T,h1,h2,aj rfl ?_⟩;rw[hs];refine oI (d:=.non) ?_ (q_set (evX_lf (d:=.int (uB ls k l)) ?_ rfl) (q_ret (evX_lfs (d:=.lst ((T.map (DJ (uB ls k l))).map di)) ?_ rfl ?_ (wz _))))
 .simp only[vw_some,vw_none,vw_nil,clF_a,consX_a,nilX_a,va_a,shAt_s,shAt_0,shAt_1,Option.bind_some,hlo ps ls h24 h,valO_some]
 .simp only[vw_some,vw_none,vw_nil,clF_a,consX_a,nilX_a,va_a,shAt_s,shAt_0,shAt_1,Option.bind_some,er,valO_some]
 .show a6 _ [!(ay ps),!(az ls),!(.int (k:Int)),!(.int (uB ls k l)),none,none]=_;rw[lsF_a,hc,List.map_map];rfl
 .show af _ _ _ _ _ [!(ay ps),!(az ls),!(.int (k:Int)),!(.int (uB ls k l)),none,none]=_;rw[hc,List.map_map];rfl
end K16
namespace K16
open PySem PySem.Spec PyProof.Rows L2
def  my(fl:Str->Str->Bool)(lK:Fn)(mt_codes:MT)(kk:Nat)(aB cW:Fn):US:=(ab (jH (bf cW (x2 (va 0) (va 1)))) (ab (eV (bB (iP (bf aB (x3 (va 2) (cI 0) (aa fQ (wa (va 0) ax mt_codes kk "codes") (cI 1)))))) (ab noO' aH) aH) (ab (av 3 sE) (ab (av 4 (b8 (wa (va 0) ax mt_codes kk "codes"))) (ab (av 5 (b8 (va 2))) (ab (iQ (jX (NJ (x1 (iO (j8 fl "passes" (va 0)) (aR (va 1)) lj))) (a7 ou (x1 (iO (j8 fl "passes" (va 0)) (aR (va 1)) lj)))) (dq 6) (ab (av 4 (b8 (aa c6 (va 4) (cQ (va 6))))) (ab (av 7 (b8 (aa c6 (va 5) (va 4)))) (ab (av 5 (mI lK (x3 (aa am (aa am (va 6) (va 7)) (cI 0)) (va 4) (aa fQ (va 5) (aa aJ (va 7) (va 4)))))) (ab (mH 3 7 (b8 (va 7)) (va 7)) aH))))) (ab (eV (al (aa (aK true) (va 5) (aa fQ (va 4) (cI 1)))) (gN (b8 cN)) aH) (gN (bi (Uo (x1 (va 3))) ag (fNo (x1 (a7 ou (x1 (va 3))))))))))))))
def  gO(fl:Str->Str->Bool)(bv:Fn):US:=(gN (mI bv (x1 (j8 fl "passes" (va 0)))))
def  S3(mt:MT)(k:Nat):Prop:=∀ps:UV,Valid ps->iM mt k "codes" (ay ps) []=!(.deep,.int (prod ps:Nat))
def RV(hfl:fl "Mill" "passes"=true)(hc:jZ co)(hv:Valid ps):aI 1 1 (gO fl co) [ay ps]=!(.deep,.int (prod ps:Nat)):=by
 have fm:mG fl "passes" (ay ps)=!(aq ps):=by simp[mG,ay,hfl]
 have hp:co [aq ps]=!(.deep,.int (prod ps:Nat)):=zi hc ps λp hp=>by have:=(hv.p hp).2.1;omega
 refine aj rfl ?_;show gO fl co [!(.sh,ay ps)]=_;refine q_ret (evX_lf ?_ rfl);simp_all
def Ob(h:(xs Y).bind Pn=!ds):jX (NJ xs) R Y=!ds:=by
 unfold jX a8 NJ;simp[h]
def  layN(q:Bool)(a c:Nat):Nat:=if q=true then c else a-1-c
def yb(q:Bool)(h:c<a):layN q a c<a:=by unfold layN;split<;>omega
def C5(q:Bool){a c:Nat}(h:c<a):HC q (a:Int) (c:Int)=((layN q a c:Nat):Int):=by
 unfold HC layN;split<;>omega
def Gi(q:Bool){a c:Nat}(h:c<a):HC q (a:Int) ((layN q a c:Nat):Int)=(c:Int):=by
 unfold HC layN;split<;>omega
def  DL(s:Nat×Nat×List Nat)(p:List Pk):Nat×Nat×List Nat:=(s.1/p.length,layN (pkAt (s.2.1/(s.1/p.length),p)).1 (s.1/p.length) (s.2.1%(s.1/p.length)),s.2.2++[s.2.1/(s.1/p.length)])
def  zH(s:Nat×Nat×List Nat)(rs:UV):Nat×Nat×List Nat:=rs.foldl DL s
def uC(s)(g:UV)(i:Nat)(p)(h:g[i]?=!p):zH s (g.take (i+1))=DL (zH s (g.take i)) p:=by
 unfold zH;rw[List.take_succ,h];simp
def ni:∀{ps:UV},(∀p∈ps,1<=p.length)->1<=prod ps
 |[],_=>Vy 1
 |p::r,h=>Nat.mul_le_mul (h p (Vi ..)) (ni λq hq=>h q (Vj _ hq))
def r9(g:Valid ps)(k:Nat):1<=prod (ps.take k)/\prod (ps.take k)<=1000/\prod ps=prod (ps.take k)*prod (ps.drop k):=by
 have h1:1<=prod (ps.take k):=ni λp j=>(g.p (List.mem_of_mem_take j)).1;have h2:1<=prod (ps.drop k):=ni λp j=>(g.p (List.mem_of_mem_drop j)).1;have r:prod ps=prod (ps.take k)*prod (ps.drop k):=by rw[<-bN,List.take_append_drop]
 have o:=g.codes;have l:prod (ps.take k)*1<=prod (ps.take k)*prod (ps.drop k):=Nat.mul_le_mul_left _ h2;grind
def rev_at{ps:UV}(h:(!5).reverse[i]?=!p):i+t<ps.length/\ps[ps.length-1-i]?=!p:=by grind
structure BkOk(ps:UV)(c i:Nat)(s:Nat×Nat×List Nat):Prop where
 a:s.1=prod (ps.take (ps.length-i))
 l:s.2.1<s.1
 n:s.2.2.length=i
 w:∀q∈s.2.2.reverse.zip (ps.drop (ps.length-i)),q.1<q.2.length
 c:HE ((s.1:Nat),(s.2.1:Nat)) (s.2.2.reverse.zip (ps.drop (ps.length-i)))=(((prod ps:Nat):Int),(c:Int))
def yc(o:Valid ps)(ok:BkOk ps c i s)(g:(!5).reverse[i]?=!p):
  s.1/p.length=prod (ps.take (ps.length-(i+1)))/\s.1=s.1/p.length*p.length/\0<s.1/p.length/\s.1/p.length<=1000/\s.2.1/(s.1/p.length)<p.length/\s.2.1%(s.1/p.length)<s.1/p.length:=by
 let⟨hi,g⟩:=rev_at g
 have J:=o.p (Vx g)
 have C:ps.length-i=(ps.length-1-i)+1:=by omega
 have e2:ps.length-(i+1)=ps.length-1-i:=by omega
 have j:s.1=prod (ps.take (ps.length-1-i))*p.length:=by rw[ok.a,C,List.take_succ,g,Option.toList_some,dh]
 have I:=r9 o (ps.length-1-i)
 have r:s.1/p.length=prod (ps.take (ps.length-1-i)):=by rw[j];exact Nat.mul_div_cancel _ (!1)
 rw[r,e2]
 refine⟨rfl,j,by omega,by omega,?_,Nat.mod_lt _ (!1)⟩
 have:=ok.l
 rw[j]at this
 exact Nat.div_lt_of_lt_mul this
def Gj(C:Valid ps)(ok:BkOk ps c i s)(l:(!5).reverse[i]?=!p):BkOk ps c (i+1) (DL s p):=by
 let⟨h1,h2,h3,h4,J,o⟩:=yc C ok l;let⟨hi,g⟩:=rev_at l;have e2:ps.length-(i+1)=ps.length-1-i:=by omega
 have e1:ps.length-i=(ps.length-1-i)+1:=by omega
 have U:ps.drop (ps.length-(i+1))=p::ps.drop (ps.length-i):=by
  rw[e2,e1];have I:ps.length-1-i<ps.length:=by omega
  rw[List.drop_eq_getElem_cons];rw[getElem?_eq_getElem I]at g;cases g;rfl
 have T:(s.2.2++[s.2.1/(s.1/p.length)]).reverse=(s.2.1/(s.1/p.length))::s.2.2.reverse:=by rw[List.reverse_append];rfl
 have r:(DL s p).2.2.reverse.zip (ps.drop (ps.length-(i+1)))=(s.2.1/(s.1/p.length),p)::s.2.2.reverse.zip (ps.drop (ps.length-i)):=by
  show(s.2.2++[s.2.1/(s.1/p.length)]).reverse.zip _=_;rw[T,U,List.zip_cons_cons]
 refine⟨h1,yb _ o,?_,?_,?_⟩
 .show(s.2.2++[s.2.1/(s.1/p.length)]).length=i+1;rw[length_append,ok.n];rfl
 .rw[r];intro q j;rcases mem_cons.mp j with rfl|j
  .exact J
  .exact ok.w q j
 .rw[r,<-ok.c];show HE (PZ (((s.1/p.length:Nat):Int),((layN (pkAt (s.2.1/(s.1/p.length),p)).1 (s.1/p.length) (s.2.1%(s.1/p.length)):Nat):Int)) (s.2.1/(s.1/p.length),p)) _=_;have es:PZ (((s.1/p.length:Nat):Int),((layN (pkAt (s.2.1/(s.1/p.length),p)).1 (s.1/p.length) (s.2.1%(s.1/p.length)):Nat):Int)) (s.2.1/(s.1/p.length),p)=(((s.1:Nat):Int),((s.2.1:Nat):Int)):=by
   unfold PZ;rw[Gi _ o];refine Prod.ext ?_ ?_
   .show(((s.1/p.length:Nat):Int))*((p.length:Nat):Int)=_;rw[<-Int.natCast_mul,<-h2]
   .show(((s.2.1/(s.1/p.length):Nat):Int))*((s.1/p.length:Nat):Int)+((s.2.1%(s.1/p.length):Nat):Int)=((s.2.1:Nat):Int);rw[<-Int.natCast_mul,<-Int.natCast_add,Nat.div_add_mod']
  rw[es]
def RW(hc:c<prod ps):BkOk ps c 0 (prod ps,c,[]):=by
 refine⟨by rw[Nat.sub_zero,List.take_length],hc,rfl,λq hq=>?_,rfl⟩;simp_all
def C6(hv:Valid ps)(hc:c<prod ps)(t:Nat):∀i,i<=ps.length-t->BkOk ps c i (zH (prod ps,c,[]) ((!5).reverse.take i))
 |0,_=>RW hc
 |i+1,h=>by
  have hi:i<(!5).reverse.length:=by rw[List.length_reverse,List.length_drop];omega
  rw[uC _ _ _ _ (getElem?_eq_getElem hi)];exact Gj hv (C6 hv hc t i (!1)) (getElem?_eq_getElem hi)
abbrev sW(ps:UV)(t c:Nat)(ws:U2)(A L:Nat)(o6 o7:UX):Ev:=[sn (ay ps),sn (iN t),sn (iN c),dp (rowD ws),dp (iN A),dp (iN L),o6,o7]
abbrev FB(la:Fn):US:=ab (av 4 (b8 (aa c6 (va 4) (cQ (va 6))))) (ab (av 7 (b8 (aa c6 (va 5) (va 4)))) (ab (av 5 (mI la (x3 (aa am (aa am (va 6) (va 7)) (cI 0)) (va 4) (aa fQ (va 5) (aa aJ (va 7) (va 4)))))) (ab (mH 3 7 (b8 (va 7)) (va 7)) aH)))
def cw_step(hl:qx la)(hv:Valid ps)(ok:BkOk ps c i s)(hp:(!5).reverse[i]?=!p)(o6 o7:UX):
  ∃q6 q7,(dq 6 (dH p) (sW ps t c s.2.2 s.1 s.2.1 o6 o7)).bind (FB la)=!(.nx (sW ps t c (DL s p).2.2 (DL s p).1 (DL s p).2.1 q6 q7)):=by
 let⟨h1,h2,h3,h4,h5,h6⟩:=yc hv ok hp
 let⟨hi,hp'⟩:=rev_at hp
 have h66:=hv.len
 have hq:=hv.p (Vx hp')
 let⟨A,L,ws⟩:=s
 have hn:=ok.n
 have eA:(A:Int)/(p.length:Int)=((A/p.length:Nat):Int):=rfl
 have eK:(L:Int)/((A/p.length:Nat):Int)=((L/(A/p.length):Nat):Int):=rfl
 show∃q6 q7,_=!(Out.nx (sW ps t c (ws++[L/(A/p.length)]) (A/p.length) (layN (pkAt (L/(A/p.length),p)).1 (A/p.length) (L%(A/p.length))) q6 q7))
 have eM:(L:Int)-((L/(A/p.length):Nat):Int)*((A/p.length:Nat):Int)=((L%(A/p.length):Nat):Int):=by
  have:=Nat.div_add_mod' L (A/p.length);have e:((L/(A/p.length):Nat):Int)*((A/p.length:Nat):Int)=((L/(A/p.length)*(A/p.length):Nat):Int):=(Int.natCast_mul _ _).symm;rw[e];omega
 generalize hB:A/p.length=B at*
 generalize hk:L/B=k at*
 have e0:∀q:Pk,am (j9 q) (.int 0)=!(.str _):=λq=>qu _ _
 have e6:am (dH p) (iN k)=!(j9 _):=NX (q:=(k,p)) h5
 have e7:seqD (dH p)=!_:=rfl
 have el:=hl (pkAt (k,p)).1 (B:Int) ((L%B:Nat):Int)
 rw[C5 _ h6]at el
 have ec:∀Y:Vv,bF Y 6=!(dH p)->bF Y 7=!(iN k)->bF Y 4=!(iN B)->bF Y 5=!(iN L)->x3 (aa am (aa am (va 6) (va 7)) (cI 0)) (va 4) (aa fQ (va 5) (aa aJ (va 7) (va 4))) Y=![.str (kd (pkAt (k,p)).1),.int (B:Int),.int ((L%B:Nat):Int)]:=λY g6 g7 g4 g5=>by
  simp only[bin2_a,consX_a,nilX_a,va_a,cI_a,Option.bind_some,g4,g5,g6,g7,wt (show k<1000000 by omega),subD_ii,eM,e6,e0]
 refine⟨sn (dH p),dp (iN k),?_⟩
 show ab _ _ (sW ps t c ws A L (sn (dH p)) o7)=_
 refine q_set (evX_lf (d:=iN B) ?_ rfl) ?_
 .simp only[vw_o,vw_nil,map_some,Option.map_none,bin2_a,biF_a,consX_a,nilX_a,va_a,shAt_s,shAt_0,shAt_1,Option.bind_some,bb,e7,length_map];rw[cb (!1) (!1),eA]
 show ab _ _ (sW ps t c ws B L (sn (dH p)) o7)=_;refine q_set (evX_lf (d:=iN k) ?_ rfl) ?_
 .simp only[vw_o,vw_nil,map_some,Option.map_none,bin2_a,va_a,shAt_s,shAt_0,shAt_1,Option.bind_some];rw[cb (!1) (!1),eK]
 refine q_set (evX_lf (d:=iN (layN (pkAt (k,p)).1 B (L%B))) ?_ rfl) ?_
 .rw[clF_a,ec _ rfl rfl rfl rfl,Option.bind_some,el];rfl
 refine q_st (qv rfl (evX_lf rfl rfl) rfl ?_) ?_
 .rw[length_map,hn];exact Vm (show i+1<=6 by omega) (!3)
 have em:rowD (ws++[k])=.lst ((ws.map λ(k:Nat)=>D.int (k:Int))++[iN k]):=by unfold rowD;rw[List.map_append];rfl
 simp only[sW,em];rfl
def cw_loop(hf:o "Mill" "passes"=true)(U:qx T)(r:Valid ps)(ht:t<=ps.length)(hc:c<prod ps):
  ∃j g,iQ (jX (NJ (x1 (iO (j8 o "passes" (va 0)) (aR (va 1)) lj))) (a7 ou (x1 (iO (j8 o "passes" (va 0)) (aR (va 1)) lj)))) (dq 6) (FB T) (sW ps t c [] (prod ps) c none none)=!(.nx (sW ps t c (zH (prod ps,c,[]) (!5).reverse).2.2 (zH (prod ps,c,[]) (!5).reverse).1 (zH (prod ps,c,[]) (!5).reverse).2.1 j g)):=by
 let⟨Y',e,j,g,rfl⟩:=ja
  (J:=jX (NJ (x1 (iO _ _ lj))) (a7 ou (x1 (iO _ _ lj))))
  (ds:=((!5).reverse).map dH) (Y:=sW ps t c [] (prod ps) c none none)
  (λi Y=>∃j g,Y=sW ps t c (zH (prod ps,c,[]) ((!5).reverse.take i)).2.2 (zH (prod ps,c,[]) ((!5).reverse.take i)).1 (zH (prod ps,c,[]) ((!5).reverse.take i)).2.1 j g)
  (Ob (by
   have e:iO (j8 o "passes" (va 0)) (aR (va 1)) lj (c9 (sW ps t c [] (prod ps) c none none))=!(.tup _):=FL hf rfl rfl;rw[gx,consX_a,e];show some ((!5).map dH).reverse=_;rw[List.map_reverse]))
  ⟨none,none,rfl⟩ (by
   rintro i d Y hd ⟨j,g,rfl⟩;rw[getElem?_map]at hd;cases l:(!5).reverse[i]? with
   |none=>rw[l]at hd;cases hd
   |some p=>
    rw[l]at hd;cases hd;have hi:=(Vh.mp l).1;rw[List.length_reverse,List.length_drop]at hi;let⟨I,C,e⟩:=cw_step U r (C6 r hc t i (!1)) l j g;refine⟨_,e,I,C,?_⟩;rw[uC _ _ _ _ l])
 rw[length_map,List.take_length]at e
 exact⟨j,g,e⟩
def Gk:∀(g:UV)(w:U2)(n:Nat)(c:Sd)(j:U2),0<n->0<=c.1->c.1<n->w.length=g.length->(∀q∈w.zip g,q.1<q.2.length)->
  0<=(pl n g w c).1/\(pl n g w c).1<((n*prod g:Nat):Int)/\zH (n*prod g,(pl n g w c).1.toNat,j) g.reverse=(n,c.1.toNat,j++w.reverse):=by
 refine je (λw n c j U h0 h1 o t=>?_) λg p ih w n c j U h0 h1 o t=>?_
 .cases w with
  |nil=>
   refine⟨h0,by show c.1<((n*1:Nat):Int);rw[Nat.mul_one];exact h1,?_⟩;show(n*1,c.1.toNat,j)=(n,c.1.toNat,j++[]);rw[Nat.mul_one,List.append_nil]
  |cons _ _=>cases o
 .obtain⟨v,k,rfl⟩:∃v k,w=v++[k]:=by
   have r:w≠[]:=λz=>by rw[z,length_append]at o;cases o
   exact⟨w.dropLast,w.getLast r,(List.dropLast_concat_getLast r).symm⟩
  have l:v.length=g.length:=by rw[length_append,length_append]at o;exact Nat.add_right_cancel o
  rw[List.zip_append l]at t;have hk:k<p.length:=t (k,p) (Vs _ Vi);have hp:0<p.length:=by omega
  have I:∀q∈v.zip g,q.1<q.2.length:=λq hq=>t q (Vr _ hq);rw[m8 n c p k l,dh,<-Nat.mul_assoc];let⟨_,_,b2⟩:=ih v n c (j++[k]) U h0 h1 l I;generalize hm:n*prod g=m at*;generalize pl n g v c=q at*;obtain⟨y,T⟩:∃y:Nat,q.1=(y:Int):=⟨q.1.toNat,by omega⟩;have C:y<m:=by omega
  have e0:pkAt (k,p)=jp p k:=by unfold pkAt jp;rw[List.getD_eq_getElem?_getD]
  have e1:(bY m k (jp p k) q).1=((k*m+layN (pkAt (k,p)).1 m y:Nat):Int):=by
   unfold bY layN;rw[e0,T];split
   .push_cast;rfl
   .push_cast;omega
  have J:=yb (pkAt (k,p)).1 C;have ll:layN (pkAt (k,p)).1 m (layN (pkAt (k,p)).1 m y)=y:=by unfold layN;split<;>omega
  generalize layN (pkAt (k,p)).1 m y=z at*;rw[e1,Int.toNat_natCast];have d1:(k*m+z)/m=k:=by rw[Nat.add_comm,Nat.add_mul_div_right _ _ (!1),Nat.div_eq_of_lt J,Nat.zero_add]
  have d2:(k*m+z)%m=z:=by rw[Nat.add_comm,Nat.add_mul_mod_self_right,Nat.mod_eq_of_lt J]
  have d3:m*p.length/p.length=m:=Nat.mul_div_cancel _ hp;refine⟨by omega,?_,?_⟩
  .have:=Nat.mul_le_mul_right m (show k+1<=p.length by omega);rw[Nat.succ_mul,Nat.mul_comm p.length]at this;omega
  .rw[List.reverse_append,List.reverse_append];show zH (DL (m*p.length,k*m+z,j) p) g.reverse=_;have:DL (m*p.length,k*m+z,j) p=(m,y,j++[k]):=by
    unfold DL;rw[d3,d1,d2,ll]
   rw[this];rw[T,Int.toNat_natCast]at b2;rw[b2,List.append_assoc];rfl
def  RX(f:Fn):Prop:=∀(ps:UV)(t:Nat)(w:U2),Valid ps->t<=ps.length->w.length=(!5).length->(∀q∈w.zip (!5),q.1<q.2.length)->f [ay ps,iN t,.int (pl (prod (ps.take t)) (!5) w (((prod (ps.take t):Nat):Int)-1,1)).1]=dp (wD w)
def Gm{fl la mt kk wi lo}(hf:fl "Mill" "passes"=true)(hl:qx la)(hm:S3 mt kk)(hw:fH wi)(hlo:wq lo):RX (aI 3 8 (my fl la mt kk wi lo)):=λps t w hv ht hlen hok=>by
 let⟨p1,p2,p3⟩:=r9 hv t;let⟨b0,b1,b2⟩:=Gk (!5) w (prod (ps.take t)) (((prod (ps.take t):Nat):Int)-1,1) [] (!1) (by show(0:Int)<=(prod (ps.take t):Nat)-1;omega) (by show((prod (ps.take t):Nat):Int)-1<_;omega) hlen hok;rw[<-p3]at b1 b2;obtain⟨c,hc⟩:∃c:Nat,(pl (prod (ps.take t)) (!5) w (((prod (ps.take t):Nat):Int)-1,1)).1=(c:Int):=⟨_,(Int.toNat_of_nonneg b0).symm⟩;rw[hc]at b1 b2⊢;rw[Int.toNat_natCast]at b2;have hcp:c<prod ps:=by omega
 let⟨o6,o7,e⟩:=cw_loop hf hl hv ht hcp;rw[b2,List.nil_append]at e;have em:∀Y:Vv,bF Y 0=!(ay ps)->wa (va 0) ax mt kk "codes" Y=!(.int (prod ps:Nat)):=λY h=>by
  show b7 (km (va 0) ax mt kk "codes" Y)=_;unfold km;rw[va_a,h,Option.bind_some];show b7 (iM mt kk "codes" (ay ps) [])=_;rw[hm ps hv];rfl
 have e2:(decide ((c:Int)<=((prod ps:Nat):Int)-1))=true:=decide_eq_true (!1);refine aj rfl ?_;show my fl la mt kk wi lo [sn (ay ps),sn (iN t),sn (iN c),none,none,none,none,none]=_;refine oI (d:=.non) ?_ (q_if0 ?_ (q_set (evX_lfs rfl rfl rfl rfl) (q_set (evX_lf (em _ rfl) rfl) (q_set (evX_lf rfl rfl) (q_st e (q_if0 ?_ (q_ret (evX_lf ?_ (lf_w _)))))))))
 .simp only[vw_some,vw_none,vw_nil,clF_a,consX_a,nilX_a,va_a,shAt_s,shAt_0,shAt_1,Option.bind_some,hlo ps t ht,valO_some]
 .rw[notQ_a,trF_a,clF_a,CK,consX_a,oJ,consX_a,gx,consX_a,bin2_a,em _ rfl];simp only[vw_some,vw_none,vw_nil,nilX_a,va_a,shAt_s,shAt_0,shAt_1,cI_a,Option.bind_some,subD_ii,hw (c:Int) 0 (((prod ps:Nat):Int)-1),valO_some,e2];rfl
 .simp only[vw_o,vw_nil,map_some,testB_a,bin2_a,va_a,cI_a,shAt_s,shAt_0,shAt_1,Option.bind_some,subD_ii,jJ,asB_bl];have:(((((prod (ps.take t):Nat):Int)-1).toNat:Nat):Int)=((prod (ps.take t):Nat):Int)-1:=by omega
  rw[this];simp
 .show some (D.tup (w.reverse.map λ(k:Nat)=>D.int (k:Int)).reverse)=_;rw[<-List.map_reverse,List.reverse_reverse];rfl
end K16
namespace K16
open PySem PySem.Spec PyProof.Rows L2
def  oU(aB:Fn):US:=(gN (mI aB (x3 (va 0) (cI 0) (aa vi (cI 10) (cI 30)))))
def  fI(fg:Fn):US:=(ab (eV (nK (bB (iP (a7 c8 (x2 (va 1) (cu (x2 (cT "list") (cT "tuple"))))))) (al (aa (aK true) (cQ (va 1)) (cQ (va 0))))) (gN (b8 (cB false))) aH) (gN (bi (a7 fy (x1 (a6 (af [2] (jX ag (va 1)) (gNm 2) tQ (bf fg (x1 (va 2))))))) ag (fNo (x1 (a6 (af [2] (jX ag (va 1)) (gNm 2) tQ (bf fg (x1 (va 2))))))))))
def  gz(fl:Str->Str->Bool)(bI:Fn)(mt_many:MT)(kk:Nat):US:=(ab (eV (nK (bB (iP (a7 c8 (x2 (va 1) (cu (x2 (cT "list") (cT "tuple"))))))) (al (aa (aK true) (cQ (va 1)) (wa (va 0) ax mt_many kk "many")))) (ab noO' aH) aH) (ab (eV (bB (iP (a7 fy (x1 (a6 (af [2,3] (jX (JV (x2 (j8 fl "passes" (va 0)) (va 1))) (a7 ou (x2 (j8 fl "passes" (va 0)) (va 1)))) (l7 2 (au (gNm 2) (au (gNm 3) bt))) tQ (bf bI (x2 (va 2) (va 3))))))))) (ab noO' aH) aH) aH))
def  uD:US:=(gN (bi (a7 vm (x1 (a6 (af [3,4] (jX (JV (x2 (va 2) (iO (va 0) (aR (va 1)) lj))) (a7 ou (x2 (va 2) (iO (va 0) (aR (va 1)) lj)))) (l7 2 (au (gNm 3) (au (gNm 4) bt))) tQ (aa am (va 4) (va 3)))))) ag (fNo (x1 (a6 (af [3,4] (jX (JV (x2 (va 2) (iO (va 0) (aR (va 1)) lj))) (a7 ou (x2 (va 2) (iO (va 0) (aR (va 1)) lj)))) (l7 2 (au (gNm 3) (au (gNm 4) bt))) tQ (aa am (va 4) (va 3))))))))
def  uE:US:=(gN (bi (a7 vm (x1 (a6 (af [3] (jR (x1 (cQ (va 2)))) (gNm 3) tQ (aa am (aa am (va 0) (aa aC (va 1) (va 3))) (aa am (va 2) (va 3))))))) ag (fNo (x1 (a6 (af [3] (jR (x1 (cQ (va 2)))) (gNm 3) tQ (aa am (aa am (va 0) (aa aC (va 1) (va 3))) (aa am (va 2) (va 3)))))))))
def  TT:Int:=10^(30:Int).toNat
def S4:vi (.int 10) (.int 30)=!(.int TT):=by unfold vi;exact if_pos ⟨by decide,by decide,by decide⟩
def  cg(rs:List (U4)):D:=.lst (rs.map aA)
structure PrOk(ps:UV)(rs:List (U4)):Prop where
 len:rs.length=ps.length
 each:∀q∈ps.zip rs,q.2.length=q.1.length/\∀x∈q.2,0<=x/\x<=TT
def  wE(f:Fn):Prop:=∀v:Int,f [.int v]=!(.deep,.bl (decide (0<=v)&&decide (v<=TT)))
def Gn(hw:fH w):wE (aI 1 1 (oU w)):=λv=>by
 refine aj rfl ?_;show oU w [!(.sh,.int v)]=_;refine q_ret (evX_lf ?_ rfl);simp only[vw_some,vw_nil,clF_a,consX_a,nilX_a,bin2_a,va_a,shAt_0,cI_a,Option.bind_some,S4,hw v 0 TT,valO_some]
def  KE(f:Fn):Prop:=∀(p:List Pk)(row:U4),row.length=p.length->p.length<1000->(∀x∈row,0<=x/\x<=TT)->f [dH p,aA row]=!(.deep,.bl true)
def Oc(hg:wE g):KE (aI 2 3 (fI g)):=λp row hl h1 hx=>by
 have e1:seqD (dH p)=!_:=rfl;have e2:seqD (aA row)=!_:=rfl;refine aj rfl ?_;show fI g [!(.sh,dH p),!(.sh,aA row),none]=_;refine q_if0 ?_ (q_ret (evX_lf ?_ rfl))
 .have i1:a7 c8 (x2 (va 1) (cu (x2 (cT "list") (cT "tuple")))) (vw [!(.sh,dH p),!(.sh,aA row),none])=!(.bl true):=by simp[aA]
  have i2:al (aa (aK true) (cQ (va 1)) (cQ (va 0))) (vw [!(.sh,dH p),!(.sh,aA row),none])=!false:=by
   simp only[vw_some,vw_none,vw_nil,testB_a,bin2_a,biF_a,consX_a,nilX_a,va_a,shAt_s,shAt_0,shAt_1,Option.bind_some,bb,e1,e2,length_map,jJ,asB_bl,if_true,hl,decide_true];rfl
  rw[mh,notQ_a,trF_a,i1,i2];rfl
 .have hm:af [2] (jX ag (va 1)) (gNm 2) tQ (bf g (x1 (va 2))) (vw [!(.sh,dH p),!(.sh,aA row),none])=!(row.map λx=>.bl (decide (0<=x)&&decide (x<=TT))):=by
   refine ao (mk:=D.int) (by simp[e2]) (λx _=>?_) (Vm (show row.length<=1000 by omega) (!3));simp[hg x]
  rw[biF_a,gx,consX_a,lsF_a,hm];refine(cO row λx=>decide _&&decide _).trans ?_;rw[show(row.all λx=>decide _&&decide _)=true from List.all_eq_true.mpr λx h=>by
   rw[decide_eq_true (hx x h).1,decide_eq_true (hx x h).2];rfl]
def  se(f:Fn):Prop:=∀(ps:UV)(rs:List (U4)),Valid ps->PrOk ps rs->f [ay ps,cg rs]=!(.deep,.non)
def C7{fl g mt kk}(hfl:fl "Mill" "passes"=true)(hg:KE g)(hm:Ct mt kk):se (aI 2 4 (gz fl g mt kk)):=λps rs hv ok=>by
 have h6:=hv.len;have fm:mG fl "passes" (ay ps)=!(aq ps):=by simp[mG,ay,hfl]
 have e2:seqD (cg rs)=!_:=rfl;have em:∀Y:Vv,bF Y 0=!(ay ps)->wa (va 0) ax mt kk "many" Y=!(.int (ps.length:Nat)):=λY h=>by
  show b7 (km (va 0) ax mt kk "many" Y)=_;unfold km;rw[va_a,h,Option.bind_some];show b7 (iM mt kk "many" (ay ps) [])=_;rw[hm];rfl
 refine kA rfl (Y:=[!(.sh,ay ps),!(.sh,cg rs),none,none]) ?_;show gz fl g mt kk [!(.sh,ay ps),!(.sh,cg rs),none,none]=_;refine q_if0 ?_ (q_if0 ?_ rfl)
 .have i1:a7 c8 (x2 (va 1) (cu (x2 (cT "list") (cT "tuple")))) (vw [!(.sh,ay ps),!(.sh,cg rs),none,none])=!(.bl true):=by simp[cg]
  have i2:al (aa (aK true) (cQ (va 1)) (wa (va 0) ax mt kk "many")) (vw [!(.sh,ay ps),!(.sh,cg rs),none,none])=!false:=by
   rw[testB_a,bin2_a,em _ rfl];simp only[vw_some,vw_none,vw_nil,biF_a,consX_a,nilX_a,va_a,shAt_s,shAt_0,shAt_1,Option.bind_some,bb,e2,length_map,ok.len,jJ,asB_bl,if_true,decide_true];rfl
  rw[mh,notQ_a,trF_a,i1,i2];rfl
 .have hc:af [2,3] (jX (JV (x2 (j8 fl "passes" (va 0)) (va 1))) (a7 ou (x2 (j8 fl "passes" (va 0)) (va 1)))) (l7 2 (au (gNm 2) (au (gNm 3) bt))) tQ (bf g (x2 (va 2) (va 3))) (vw [!(.sh,ay ps),!(.sh,cg rs),none,none])=!((ps.zip rs).map λ_=>.bl true):=by
   refine ao (mk:=λq:List Pk×List Int=>.tup [dH q.1,aA q.2]) (Hy ?_) (λq hq=>?_) ?_
   .simp only[vw_some,vw_none,vw_nil,consX_a,nilX_a,B9,va_a,shAt_s,shAt_0,shAt_1,Option.bind_some,fm];rw[ui rfl rfl,oB]
   .have z:=ok.each q hq;have hp:=hv.p (List.of_mem_zip hq).1;simp[hg q.1 q.2 z.1 (!1) z.2]
   .rw[List.length_zip];exact Vm (show min ps.length rs.length<=6 by omega) (!3)
  rw[notQ_a,trF_a,biF_a,gx,consX_a,lsF_a,hc];have ha:=cO (ps.zip rs) λ_=>true;rw[show((ps.zip rs).all λ_=>true)=true from List.all_eq_true.mpr λ_ _=>rfl]at ha;show Option.map _ ((fy [.lst ((ps.zip rs).map λ_=>D.bl true)]).bind pD)=_;rw[ha];rfl
def uF{β:Type}(g:β->Int):∀xs:List β,yL (xs.map λx=>.int (g x))=!(xs.map g)
 |[]=>rfl
 |x::xs=>by
  show(yL (xs.map λx=>.int (g x))).bind _=_;rw[uF g xs];rfl
def uG{β:Type}(g:β->Int)(xs:List β):vm [.lst (xs.map λx=>.int (g x))]=!(.int (tF (xs.map g))):=by
 show(yL (xs.map λx=>.int (g x))).bind _=_;rw[uF];rfl
def  g9(rs:List (U4))(t:Nat)(w:U2):Int:=tF ((w.zip (rs.drop t)).map λq=>q.2.getD q.1 0)
def HG(ok:PrOk ps rs)(hk:WordOk ps t w)(hq:q∈w.zip (rs.drop t)):q.1<q.2.length:=by
 let⟨i,hi⟩:=List.getElem?_of_mem hq;let⟨h1,h2⟩:=List.getElem?_zip_eq_some.mp hi;rw[List.getElem?_drop]at h2;have hl:t+i<ps.length:=by rw[<-ok.len];exact(Vh.mp h2).1
 have hp:=getElem?_eq_getElem hl;have z:=ok.each (ps[t+i],q.2) (Vx (List.getElem?_zip_eq_some.mpr ⟨hp,h2⟩));have y:=hk.each (q.1,ps[t+i]) (Vx (List.getElem?_zip_eq_some.mpr ⟨h1,by rw[List.getElem?_drop];exact hp⟩));have z1:q.2.length=ps[t+i].length:=z.1;have y1:q.1<ps[t+i].length:=y;omega
def C8{k:Nat}(h:k<row.length):am (aA row) (.int (k:Int))=!(.int (row.getD k 0)):=by
 show pj (row.map D.int) (k:Int)=_;rw[aU (getElem?_eq_getElem h),List.getD_eq_getElem?_getD,getElem?_eq_getElem h];rfl
def Go(hv:Valid ps)(ok:PrOk ps rs)(t:Nat)(w:U2):(w.zip (rs.drop t)).length<big:=by
 have h6:=hv.len;have:=ok.len;rw[List.length_zip,List.length_drop];exact Vm (show min w.length (rs.length-t)<=6 by omega) (!3)
def  LB(f:Fn):Prop:=∀(ps:UV)(rs:List (U4))(t:Nat)(w:U2),Valid ps->PrOk ps rs->WordOk ps t w->f [cg rs,.int (t:Int),wD w]=!(.deep,.int (g9 rs t w))
def C9{lo hi}(e:a Y=!(.lst ds))(e1:lo Y=!l)(e2:hi Y=!h):iO a lo hi Y=!(.lst (cutD ds l h)):=by
 unfold iO a8 ra mC;simp[e,e1,e2]
def RY:LB (aI 3 5 uD):=λps rs t w hv ok hk=>by
 refine aj rfl ?_;refine q_ret (evX_lf ?_ rfl);have es:iO (va 0) (aR (va 1)) lj [!(cg rs),!(.int (t:Int)),!(wD w),none,none]=!(.lst ((rs.drop t).map aA)):=by
  refine(C9 rfl rfl rfl).trans ?_;rw[kI]
 have hc:af [3,4] (jX (JV (x2 (va 2) (iO (va 0) (aR (va 1)) lj))) (a7 ou (x2 (va 2) (iO (va 0) (aR (va 1)) lj)))) (l7 2 (au (gNm 3) (au (gNm 4) bt))) tQ (aa am (va 4) (va 3)) [!(cg rs),!(.int (t:Int)),!(wD w),none,none]=!((w.zip (rs.drop t)).map λq=>.int (q.2.getD q.1 0)):=by
  refine ao (mk:=λq:Nat×List Int=>.tup [.int (q.1:Int),aA q.2]) (Hy ?_) (λq hq=>?_) (Go hv ok t w)
  .rw[oJ,consX_a,gx,consX_a,es];simp only[va_a,shAt_s,shAt_0,shAt_1,nilX_a,Option.bind_some];rw[ui rfl rfl,oB]
  .simp only[stepF_a,wipe_cons,wipe_nil,HA,ug,xN,gNm_a,tQ_a,set_cons_succ,set_cons_zero,length_cons,List.length_nil,if_true,Option.bind_some,bin2_a,va_a,shAt_s,shAt_0,shAt_1,C8 (HG ok hk hq)]
 show a7 vm (x1 (a6 _)) [!(cg rs),!(.int (t:Int)),!(wD w),none,none]=_;rw[biF_a,gx,consX_a,lsF_a,hc];exact uG _ _
def Gp:LB (aI 3 4 uE):=λps rs t w hv ok hk=>by
 have h6:=hv.len;have hlw:=hk.len;rw[List.length_drop]at hlw;have ew:seqD (wD w)=!(w.map λ(i:Nat)=>.int (i:Int)):=rfl;have hzl:(w.zip (rs.drop t)).length=w.length:=by rw[List.length_zip,List.length_drop,ok.len];omega
 refine aj rfl ?_;refine q_ret (evX_lf ?_ rfl);have hc:af [3] (jR (x1 (cQ (va 2)))) (gNm 3) tQ (aa am (aa am (va 0) (aa aC (va 1) (va 3))) (aa am (va 2) (va 3))) [!(cg rs),!(.int (t:Int)),!(wD w),none]=!((List.range w.length).map λj=>.int ((λq:Nat×List Int=>q.2.getD q.1 0) ((w.zip (rs.drop t))[j]?.getD (0,[])))):=by
  refine ao (mk:=λ(i:Nat)=>D.int (i:Int)) (d7 ?_) (λj hj=>?_) (by rw[length_range];exact Vm (show w.length<=6 by omega) (!3))
  .simp only[consX_a,nilX_a,biF_a,va_a,shAt_s,shAt_0,shAt_1,Option.bind_some,bb,ew,length_map];exact aY (!1)
  .have hj:=Vw.mp hj;have hjr:j<(rs.drop t).length:=by rw[List.length_drop,ok.len];omega
   have hz:(w.zip (rs.drop t))[j]?=!(w[j],(rs.drop t)[j]):=List.getElem?_zip_eq_some.mpr ⟨getElem?_eq_getElem hj,getElem?_eq_getElem hjr⟩;have hlt:=HG ok hk (Vx hz);have ea:(t:Int)+(j:Int)=((t+j:Nat):Int):=by omega
   have eb:am (wD w) (.int (j:Int))=!(.int ((w[j]:Nat):Int)):=aU (getElem?_eq_getElem hj);have ec:am (cg rs) (.int ((t+j:Nat):Int))=!(aA (rs.drop t)[j]):=aU (by rw[<-List.getElem?_drop];exact getElem?_eq_getElem hjr);simp only[stepF_a,wipe_cons,wipe_nil,gNm_a,tQ_a,set_cons_succ,set_cons_zero,if_true,Option.bind_some,bin2_a,va_a,shAt_s,shAt_0,shAt_1,addD_ii,ea,eb,ec,C8 (hlt),hz,Option.getD_some]
 show a7 vm (x1 (a6 _)) [!(cg rs),!(.int (t:Int)),!(wD w),none]=_;rw[biF_a,gx,consX_a,lsF_a,hc];refine(uG _ _).trans ?_;rw[<-hzl,zj (w.zip _) (λq:Nat×List Int=>q.2.getD q.1 0) (0,[])];rfl
end K16
namespace K16
open PySem PySem.Spec PyProof.Rows L2
def  sf:US:=(ab (av 2 sE) (ab (av 3 (b8 (cI 0))) (ab (av 4 (b8 cN)) (ab (iQ (jX ag (va 1)) (zE 2 (cz (dq 5) (cz (dq 6) mF))) (ab (Lv (Ee (al (aa nI (va 3) (cQ (va 0)))) (al (aa nI (aa am (aa am (va 0) (va 3)) (cI 0)) (va 5)))) (ab (av 4 (b8 (Ef (al (aa (tI false) (va 4) cN)) (aa am (aa am (va 0) (va 3)) (cI 1)) (a7 minD' (x2 (va 4) (aa am (aa am (va 0) (va 3)) (cI 1))))))) (ab (av 3 (bi (aa aC (va 3) (cI 1)) (nW (va 3) (cI 1)) ag)) aH))) (ab (eV (al (aa (tI true) (va 4) cN)) (ab (gq 2 (bi (cu (x2 (va 5) (aa aC (va 4) (va 6)))) ag (uS (x2 (frX (va 5) ag ag) (frX (aa aC (va 4) (va 6)) (nW (va 4) (va 6)) ag))))) aH) aH) aH))) (ab (we 2) aH)))))
def  lt(a b:Sd):Bool:=HT.lexLt [a.1,a.2] [b.1,b.2]
def sg:lt a b=true↔a.1<b.1\/(a.1=b.1/\a.2<b.2):=by
 unfold lt;rw[HT.lexLt_cons,HT.lexLt_cons,HT.lexLt_nil_nil];by_cases h:a.1=b.1
 .rw[if_pos h];by_cases h2:a.2=b.2
  .rw[if_pos h2];exact⟨λz=>(nomatch z),λz=>by omega⟩
  .rw[if_neg h2,decide_eq_true_eq];omega
 .rw[if_neg h,decide_eq_true_eq];omega
abbrev Pe:=Sd×Int
def  hW(e:Pe):D:=.tup [di e.1,.int e.2]
def  rwD(r:List Pe):D:=.lst (r.map hW)
def  Up(A:List Pe):Prop:=A.Pairwise λa b=>lt b.1 a.1=false
def  lss(A:List Pe)(p:Sd):U4:=(A.filter λx=>lt x.1 p).map (·.2)
def  Da(A:List Pe)(e:Pe):Option Pe:=if(lss A e.1).isEmpty then none else !(e.1,xv (lss A e.1)+e.2)
def  jq(A C:List Pe):List Pe:=C.filterMap (Da A)
def  nb(A:List Pe)(p:Sd):Nat:=(A.takeWhile λx=>lt x.1 p).length
def Db:∀{A:List Pe}(p:Sd),Up A->A.filter (λx=>lt x.1 p)=A.take (nb A p)
 |[],_,_=>rfl
 |a::A,p,h=>by
  let⟨h1,h2⟩:=List.pairwise_cons.mp h;unfold nb;rw[List.takeWhile_cons];cases c:lt a.1 p with
  |true=>
   rw[List.filter_cons,c,if_pos rfl,Db p h2];rfl
  |false=>
   rw[List.filter_cons,c];refine List.filter_eq_nil_iff.mpr λx hx=>?_;have:=h1 x hx;rw[Bool.eq_false_iff,ne_eq,sg]at this c;rw[sg];omega
def HH(A:List Pe)(p:Sd):nb A p<=A.length:=(List.takeWhile_sublist _).length_le
def HI:∀{A:List Pe}{p:Sd}{k:Nat},k<nb A p->∃x,A[k]?=!x/\lt x.1 p=true
 |[],_,_,h=>absurd h (Nat.not_lt_zero _)
 |a::A,p,k,h=>by
  unfold nb at h;rw[List.takeWhile_cons]at h;cases c:lt a.1 p with
  |false=>rw[c]at h;exact absurd h (Nat.not_lt_zero _)
  |true=>
   rw[c]at h;cases k with
   |zero=>exact⟨a,rfl,c⟩
   |succ k=>exact HI (A:=A) (Nat.lt_of_succ_lt_succ h)
def KF(h:A[nb A p]?=!x):lt x.1 p=false:=by
 unfold nb at h;induction A with
 |nil=>cases h
 |cons a A ih=>
  rw[List.takeWhile_cons]at h;cases c:lt a.1 p with
  |false=>rw[c]at h;cases h;exact c
  |true=>rw[c]at h;exact ih h
def Gq(h:lt q p=false):nb A p<=nb A q:=by
 unfold nb;induction A with
 |nil=>exact Vy _
 |cons a A ih=>
  rw[List.takeWhile_cons,List.takeWhile_cons];cases c:lt a.1 p with
  |false=>exact Nat.zero_le _
  |true=>
   have:lt a.1 q=true:=by
    rw[Bool.eq_false_iff,ne_eq,sg]at h;rw[sg]at c⊢;omega
   rw[this];exact Nat.succ_le_succ ih
def  ml(A:List Pe)(k:Nat):Va:=if k=0 then none else !(xv ((A.take k).map (·.2)))
def Gs(x:Int)(h:l≠[]):xv (l++[x])=if x<xv l then x else xv l:=by
 cases l with
 |nil=>exact absurd rfl h
 |cons a l=>exact List.foldl_append
def Gu(h:A[k]?=!x):ml A (k+1)=!(match ml A k with|none=>x.2|some m=>if x.2<m then x.2 else m):=by
 unfold ml;rw[if_neg (Nat.succ_ne_zero k),List.take_succ,h,Option.toList_some,List.map_append];have hk:=(Vh.mp h).1;by_cases c:k=0
 .subst c;rfl
 .rw[if_neg c];refine congrArg some (Gs _ λz=>c ?_);have:=congrArg List.length z;rw[length_map,List.length_take]at this;have:min k A.length=0:=this;omega
def  Od:Va->D
 |none=>.non
 |some i=>.int i
def lf_oi(o:Va):lfD (Od o)=true:=by cases o<;>rfl
def Dc(r:List Pe):cF (r.map hW)=true:=cf λd hd=>by
 let⟨_,_,rfl⟩:=Vp.mp hd;rfl
def Dd(a b:Sd):nI (di a) (di b)=!(.bl (lt a b)):=rfl
def De(I:Nat->Ev->Prop)(hs:∀m Y,I (m+1) Y->c (vw Y)=!true/\∃Y',F Y=!(.nx Y')/\I m Y')(he:∀Y,I 0 Y->c (vw Y)=!false):∀(m n:Nat)(Y:Ev),m<n->I m Y->∃Y',Fs c F n Y=!(.nx Y')/\I 0 Y'
 |m,0,Y,h,_=>absurd h (Nat.not_lt_zero _)
 |0,n+1,Y,_,i=>⟨Y,by
   show(c (vw Y)).bind _=_;rw[he Y i];rfl,i⟩
 |m+1,n+1,Y,h,i=>by
  let⟨h1,Y1,h2,i1⟩:=hs m Y i;let⟨Y',e,i2⟩:=De I hs he m n Y1 (!1) i1;refine⟨Y',?_,i2⟩;show(c (vw Y)).bind _=_;rw[h1,Option.bind_some,if_pos rfl,h2];exact e
def RZ(I:Nat->Ev->Prop)(m:Nat)(hm:m<400)(h0:I m Y)(hs:∀m Y,I (m+1) Y->c (vw Y)=!true/\∃Y',F Y=!(.nx Y')/\I m Y')(he:∀Y,I 0 Y->c (vw Y)=!false)(k:∀Y',I 0 Y'->G Y'=out):ab (Lv c F) G Y=out:=by
 let⟨Y',e,i⟩:=De I hs he m 400 Y hm h0;exact(ar (e)).trans (k Y' i)
abbrev sR(A C R:List Pe)(k:Nat)(o5 o6:UX):Ev:=[sn (rwD A),sn (rwD C),dp (rwD R),dp (iN k),dp (Od (ml A k)),o5,o6]
def  KG(f:Fn):Prop:=∀A C:List Pe,Up A->Up C->A.length<100->C.length<100->f [rwD A,rwD C]=dp (rwD (jq A C))
def KH(h:Up A)(e:Pe):Da A e=(ml A (nb A e.1)).map λm=>(e.1,m+e.2):=by
 unfold Da lss ml;rw[Db e.1 h];by_cases c:nb A e.1=0
 .rw[c];rfl
 .rw[if_neg c,if_neg]
  .rfl
  .have:=HH A e.1;rw[List.isEmpty_iff];intro z;have:=congrArg List.length z;rw[length_map,List.length_take]at this;have:min (nb A e.1) A.length=0:=this;omega
def Oe:KG (aI 2 7 sf):=λA C hA hC la lc=>by
 refine aj rfl ?_;refine q_set (evX_lfs rfl rfl rfl rfl) (q_set (evX_lf rfl rfl) (q_set (evX_lf rfl rfl) (q_forB
  (λi Y=>∃k o5 o6,(∀e∈C.drop i,k<=nb A e.1)/\Y=sR A C (jq A (C.take i)) k o5 o6) rfl ⟨0,none,none,λ_ _=>Nat.zero_le _,rfl⟩ ?_ ?_)))
 .rintro i e Y he ⟨k,o5,o6,hk,rfl⟩;have hi:=(Vh.mp he).1;have ed:C.drop i=e::C.drop (i+1):=by
   rw[List.drop_eq_getElem_cons];rw[getElem?_eq_getElem hi]at he;cases he;rfl
  have h0:=hk e (by rw[ed];exact Vi);have hn:∀e'∈C.drop (i+1),nb A e.1<=nb A e'.1:=λe' h'=>by
   have h2:(C.drop i).Pairwise λa b=>lt b.1 a.1=false:=List.Pairwise.sublist (List.drop_sublist _ _) hC;rw[ed]at h2;exact Gq ((List.pairwise_cons.mp h2).1 e' h')
  have et:jq A (C.take (i+1))=jq A (C.take i)++(Da A e).toList:=by
   unfold jq;rw[List.take_succ,he,List.filterMap_append];cases h:Da A e<;>simp[h]
  have nl:=HH A e.1;refine⟨sR A C (jq A _) _ (sn (di e.1)) (sn (.int e.2)),?_,nb A e.1,_,_,hn,rfl⟩;refine RZ (λm Y=>∃k,k+m=nb A e.1/\Y=sR A C (jq A _) k (sn _) (sn _)) (nb A e.1-k) (!1) ⟨k,by omega,rfl⟩ ?_ ?_ ?_
  .rintro m Y ⟨k,hm,rfl⟩;let⟨x,hx,hl⟩:=HI (A:=A) (p:=e.1) (k:=k) (!1);have ex:am (rwD A) (iN k)=!(hW x):=aU hx;have ex0:am (hW x) (.int 0)=!_:=rfl;have ex1:am (hW x) (.int 1)=!_:=rfl;have kl:decide ((k:Int)<(A.length:Int))=true:=decide_eq_true (!1);refine⟨?_,sR A C (jq A _) (k+1) (sn _) (sn _),?_,k+1,by omega,rfl⟩
   .simp only[sB,bb,show seqD (rwD A)=some _ from rfl,length_map,wg,kl,ex,ex0,Dd,hl,if_true]
   .have hs:ml A (k+1)=_:=Gu hx;refine q_set (evX_lf ?_ (lf_oi _)) (q_set (evX_lf ?_ rfl) rfl)
    .rw[hs];simp only[sB,xK,ex,ex1];generalize ml A k=o;cases o<;>rfl
    .simp only[sB];rfl
  .rintro Y ⟨k,hm,rfl⟩;cases(show k=nb A e.1 from hm);by_cases c:nb A e.1<A.length
   .have hx:A[nb A e.1]?=some A[nb A e.1]:=getElem?_eq_getElem c;have hl:=KF hx;generalize A[nb A e.1]=x at hx hl;have ex:am (rwD A) (iN (nb A e.1))=!(hW x):=aU hx;have ex0:am (hW x) (.int 0)=!_:=rfl;have kl:decide (((nb A e.1:Nat):Int)<(A.length:Int))=true:=decide_eq_true (!1);simp only[sB,bb,show seqD (rwD A)=some _ from rfl,length_map,wg,kl,ex,ex0,Dd,hl,if_true]
   .have kl:decide (((nb A e.1:Nat):Int)<(A.length:Int))=false:=decide_eq_false (!1);simp only[sB,bb,show seqD (rwD A)=some _ from rfl,length_map,wg,kl];rfl
  .rintro Y ⟨k,hm,rfl⟩;cases(show k=nb A e.1 from hm);rw[et,KH hA e];cases hml:ml A (nb A e.1)with
   |none=>
    refine q_if0 ?_ ?_
    .show al (aa (tI true) (va 4) cN) [_,_,_,_,!(Od (ml A (nb A e.1))),_,_]=_;rw[hml];rfl
    .rw[Option.map_none];show some (Out.nx _)=!(Out.nx _);rw[show(none:Option Pe).toList=[]from rfl,List.append_nil]
   |some m=>
    refine(ar ((ifS_t ?_).trans (q_st (appF_deep (d:=hW (e.1,m+e.2)) rfl (evX_lf ?_ rfl) rfl ?_) rfl))).trans ?_
    .show al (aa (tI true) (va 4) cN) [_,_,_,_,!(Od (ml A (nb A e.1))),_,_]=_;rw[hml];rfl
    .show cu (x2 (va 5) (aa aC (va 4) (va 6))) [_,_,_,_,!(Od (ml A (nb A e.1))),!(di e.1),!(.int e.2)]=_;rw[hml];rfl
    .rw[length_map];have:(jq A (C.take i)).length<=(C.take i).length:=List.length_filterMap_le _ _;rw[List.length_take]at this;exact Vm (show _<=101 by omega) (!3)
    .rw[map_some];show some (Out.nx [_,_,dp (.lst _),_,_,_,_])=!(Out.nx [_,_,dp (.lst _),_,_,_,_]);rw[List.map_append];rfl
 .rintro Y ⟨k,o5,o6,_,rfl⟩;rw[List.take_length];rfl
end K16
namespace K16
open PySem PySem.Spec PyProof.Rows L2
def  si(fM:Fn):US:=(gN (mI fM (x3 (va 0) (aa am (!20) (cI 1)) (aa am (va 3) (cI 0)))))
def  kU(eB fL:Fn):US:=(gN (mI fL (x3 (va 3) (aa am (!20) (cI 1)) (bf eB (x4 (va 0) (va 1) (va 2) (va 4))))))
def  j3(bg du:Fn):US:=(ab (av 4 (mI du (x3 (va 0) (va 1) (va 2)))) (gN (bi (a6 (af [5] (jX ag (va 4)) (gNm 5) tQ (cu (x2 (va 5) (bf bg (x5 (va 0) (va 1) (va 2) (va 3) (va 5))))))) (af [5] (jX ag (va 4)) (gNm 5) tQ (cu (x2 (va 5) (bf bg (x5 (va 0) (va 1) (va 2) (va 3) (va 5)))))) (fCo [5] (jX ag (va 4)) (gNm 5) tQ (frX (cu (x2 (va 5) (bf bg (x5 (va 0) (va 1) (va 2) (va 3) (va 5))))) ag (uS (x2 (frX (va 5) ag ag) (frX (bf bg (x5 (va 0) (va 1) (va 2) (va 3) (va 5))) ag (Hw bg (x5 (va 0) (va 1) (va 2) (va 3) (va 5)))))))))))
def  mK(mt_one_order:MT)(kk:Nat):US:=(ab (eV (bB (iP (wa (va 0) ax mt_one_order kk "one_order"))) (ab noO' aH) aH) aH)
def  wF(mt_levels:MT)(kk:Nat):US:=(gN (bi (a6 (af [1] (jX ag (wa (va 0) ax mt_levels kk "levels")) (gNm 1) tQ (aa am (va 1) (cI 0)))) (af [1] (jX ag (wa (va 0) ax mt_levels kk "levels")) (gNm 1) tQ (aa am (va 1) (cI 0))) (fCo [1] (jX ag (wa (va 0) ax mt_levels kk "levels")) (gNm 1) tQ (frX (aa am (va 1) (cI 0)) ag ag))))
def ev_c(h:xs (vw Y)=!ds)(e:f ds=dp d):mI f xs Y=!((.deep,d),Y):=by
 cases l:lfD d with
 |true=>exact evX_lf (by rw[clF_a,h,Option.bind_some,e,valO_some]) l
 |false=>exact evX_call (by rw[clF_a,h,Option.bind_some,e,valO_some]) l rfl (by rw[fCl_a,h,Option.bind_some,e];rfl)
abbrev Pq:=Sd×List Nat
structure Opn(ps:UV)(ls:List Lz)(k:Nat)(l:Lz)(U:List Pq):Prop where
 pm:U.Perm (((wds (ps.drop l.2)).filter (fitW l.1 (ps.drop l.2))).map λw=>(DJ (uB ls k l) (pl (prod (ps.take l.2)) (ps.drop l.2) w ((prod (ps.take l.2):Int)-1,1)),w))
 up:U.Pairwise λa b=>HT.lexLt [b.1.1,b.1.2] [a.1.1,a.1.2]=false
structure Lok(ps:UV)(ls:List Lz):Prop where
 v:Valid ps
 c:prod ps<64
 n:ls.length<=24
 o:∀l∈ls,LzOk ps l
def Opn.w(h:Opn ps ls k l U)(hq:q∈U):WordOk ps l.2 q.2/\q.1.1=(pl (prod (ps.take l.2)) (ps.drop l.2) q.2 ((prod (ps.take l.2):Int)-1,1)).1:=by
 let⟨w,hw,rfl⟩:=Vp.mp (h.pm.mem_iff.mp hq);let⟨h1,h2⟩:=jf _ w (List.mem_filter.mp hw).1;exact⟨⟨h1,h2⟩,rfl⟩
def uH(h:ls[k]?=!l){A B:Fv}(hA:A Y=!(az ls))(hB:B Y=!(iN k)):aa am (aa am A B) (cI 1) Y=!(iN l.2):=by
 rw[bin2_a,bin2_a,hA,hB,Option.bind_some,Option.bind_some,show am (az ls) (iN k)=some _ from aU h];rfl
def  R0(f:Fn):Prop:=∀ps ls k l U,Lok ps ls->ls[k]?=!l->Opn ps ls k l U->∀q∈U,f [ay ps,az ls,iN k,di q.1]=dp (wD q.2)
def R1(h:RX cw):R0 (aI 4 4 (si cw)):=λps ls k l U L hk O q hq=>by
 let⟨w,e⟩:=O.w hq;have hl:=(L.o l (Vx hk));have ec:=h ps l.2 q.2 L.v hl.t w.len w.each;rw[<-e]at ec;refine aj rfl ?_;refine q_ret (evX_lf ?_ (lf_w _));rw[clF_a,CK,consX_a,oJ,consX_a,gx,consX_a,uH hk rfl rfl];show b7 (cw [ay ps,iN l.2,.int q.1.1])=_;rw[ec];rfl
def  R3(f:Fn):Prop:=∀ps ls k l U pr,Lok ps ls->ls[k]?=!l->Opn ps ls k l U->PrOk ps pr->∀q∈U,f [ay ps,az ls,iN k,cg pr,di q.1]=dp (.int (g9 pr l.2 q.2))
def R4(h1:R0 pw)(h2:LB wc):R3 (aI 5 5 (kU pw wc)):=λps ls k l U pr L hk O ok q hq=>by
 let⟨w,e⟩:=O.w hq;refine aj rfl ?_;show kU pw wc [sn (ay ps),sn (az ls),sn (iN k),sn (cg pr),sn (di q.1)]=_;refine q_ret (evX_lf ?_ rfl);have e1:bf pw (x4 (va 0) (va 1) (va 2) (va 4)) (vw [sn (ay ps),sn (az ls),sn (iN k),sn (cg pr),sn (di q.1)])=!(wD q.2):=by
  rw[clF_a];exact congrArg b7 (h1 ps ls k l U L hk O q hq)
 rw[clF_a,CK,consX_a,oJ,consX_a,gx,consX_a,uH hk rfl rfl,e1];show b7 (wc [cg pr,iN l.2,wD q.2])=_;rw[show wc [cg pr,iN l.2,wD q.2]=_ from h2 ps pr l.2 q.2 L.v ok w];rfl
def  uI(pr:List (U4))(l:Lz)(U:List Pq):List Pe:=U.map λq=>(q.1,g9 pr l.2 q.2)
def  KI(f:Fn):Prop:=∀ps ls k l U pr,Lok ps ls->ls[k]?=!l->Opn ps ls k l U->PrOk ps pr->f [ay ps,az ls,iN k,cg pr]=dp (rwD (uI pr l U))
def Opn.len(L:Lok ps ls)(h:Opn ps ls k l U):U.length<64:=by
 rw[h.pm.length_eq,length_map];have h1:=List.length_filter_le (fitW l.1 (ps.drop l.2)) (wds (ps.drop l.2));rw[m9]at h1;have h2:prod ps=prod (ps.take l.2)*prod (ps.drop l.2):=by rw[<-bN,List.take_append_drop]
 have h3:=(r9 L.v l.2).1;have h4:1*prod (ps.drop l.2)<=prod (ps.take l.2)*prod (ps.drop l.2):=Nat.mul_le_mul_right _ h3;have:=L.c;omega
def Of(h1:R3 pc)(h2:wC op):KI (aI 4 6 (j3 pc op)):=λps ls k l U pr L hk O ok=>by
 let⟨T,t1,t2,eo⟩:=h2 ps ls k l L.v L.c L.n L.o hk;have hl:=O.len L;have er:T.map (DJ (uB ls k l))=U.map (·.1):=by
  refine(zq (C4 L.v L.n (L.o l (Vx hk)) hk).1 t1 t2 O.pm O.up ?_).symm;unfold uT;rw[List.map_map,List.map_map];rfl
 have eo:op [ay ps,az ls,iN k]=dp (.lst (U.map λq=>di q.1)):=by
  refine eo.trans ?_;rw[er,List.map_map];rfl
 have hc:∀Y:Ev,Y=[sn (ay ps),sn (az ls),sn (iN k),sn (cg pr),dp (.lst (U.map λq=>di q.1)),none]->af [5] (jX ag (va 4)) (gNm 5) tQ (cu (x2 (va 5) (bf pc (x5 (va 0) (va 1) (va 2) (va 3) (va 5))))) (vw Y)=!((uI pr l U).map hW):=by
  rintro Y rfl;unfold uI;rw[List.map_map];refine ao rfl (λq hq=>?_) (Nat.lt_trans hl (!3));have e:=h1 ps ls k l U pr L hk O ok q hq;simp only[stepF_a,wipe_cons,wipe_nil,sB,iS,e];rfl
 refine aj rfl ?_;refine q_set (Y':=[sn _,sn _,sn (iN k),sn _,none,none]) ?_ (q_ret (evX_lfs (d:=rwD (uI pr l U)) ?_ rfl (hc _ rfl) (Dc _)))
 .exact ev_c rfl eo
 .exact congrArg _ (hc _ rfl)
def KJ{mt:MT}(hm:mt "Wish"=!(k0,f))(hk:k0<=kk)(h:F9 f)(hl:(levs ls gs).length<=24):iM mt kk "levels" (aZ ls gs) []=!(.deep,mJ (levs ls gs)):=by
 show((mt "Wish").bind λz=>if z.1<=kk/\("levels":Str) ∉ (["groups","level_letters","level_numbers"]:U3)then z.2 [aZ ls gs]else none)=_;rw[hm,Option.bind_some,if_pos ⟨hk,by decide⟩];exact h ls gs hl
def KL{mt:MT}(hm:mt "Wish"=!(k0,f))(hk:k0<=kk)(h:Gc f)(hl:(levs ls gs).length<=24):iM mt kk "one_order" (aZ ls gs) []=!(.deep,.bl (Ga (levs ls gs))):=by
 show((mt "Wish").bind λz=>if z.1<=kk/\("one_order":Str) ∉ (["groups","level_letters","level_numbers"]:U3)then z.2 [aZ ls gs]else none)=_;rw[hm,Option.bind_some,if_pos ⟨hk,by decide⟩];exact h ls gs hl
def Dg{mt}(h:iM mt kk m d []=!s)(h0:bF Y 0=!d):wa (va 0) ax mt kk m Y=!s.2:=by
 show b7 (km (va 0) ax mt kk m Y)=_;unfold km;rw[va_a,h0,Option.bind_some];show b7 (iM mt kk m d [])=_;rw[h];rfl
def  KM(ls:oK)(gs:List Gr)(os:U4):Prop:=levs ls gs=os.map ([·])/\os.length<=24
def  KN(f:Fn):Prop:=∀ls gs os,KM ls gs os->f [aZ ls gs]=dp .non
def Og{mt:MT}(hm:mt "Wish"=!(k0,f))(hk:k0<=kk)(h:Gc f):KN (aI 1 1 (mK mt kk)):=λls gs os ho=>by
 have e:=KL hm hk h (by rw[ho.1,length_map];exact ho.2);rw[show Ga (levs ls gs)=true by rw[ho.1];unfold Ga;rw[List.all_map,List.all_eq_true];exactλ_ _=>rfl]at e;refine kA rfl (Y:=[sn (aZ ls gs)]) ?_;refine q_if0 ?_ rfl;rw[notQ_a,trF_a,Dg e rfl];rfl
def  KO(f:Fn):Prop:=∀ls gs os,KM ls gs os->f [aZ ls gs]=dp (aA os)
def Oh{mt:MT}(hm:mt "Wish"=!(k0,f))(hk:k0<=kk)(h:F9 f):KO (aI 1 2 (wF mt kk)):=λls gs os ho=>by
 have e:=KJ hm hk h (by rw[ho.1,length_map];exact ho.2);have hc:af [1] (jX ag (wa (va 0) ax mt kk "levels")) (gNm 1) tQ (aa am (va 1) (cI 0)) (vw [sn (aZ ls gs),none])=!(os.map D.int):=by
  refine ao (mk:=λi=>aA [i]) ?_ (λi _=>rfl) (Vm ho.2 (!3));rw[bH,Dg e rfl];unfold mJ;rw[ho.1,List.map_map];rfl
 refine aj rfl ?_;exact q_ret (evX_lfs (congrArg _ hc) rfl hc (kM _))
end K16
namespace K16
open PySem PySem.Spec PyProof.Rows L2
def  pK(gQ eC bx bV ck aT:Fn):US:=(ab (jH (bf aT (x2 (va 0) (va 1)))) (ab (jH (bf ck (x1 (va 2)))) (ab (jH (bf bV (x2 (va 0) (va 3)))) (ab (av 4 sE) (ab (iQ (jX ag (bf gQ (x1 (va 2)))) (dq 5) (ab (av 6 (mI bx (x4 (va 0) (va 1) (va 5) (va 3)))) (ab (gq 4 (A4 (al (aa (aK false) (cQ (va 4)) (cI 0))) (Jh 6) (mI eC (x2 (aa am (va 4) (FE (cI 1))) (va 6))))) aH))) (ab (we 4) aH))))))
def nj{β:Type}{f}:∀{xs:List β},(∀x∈xs,lw (f x)=true/\pv (f x)<=n)->qi (xs.map f)=true/\dN (xs.map f)<=n
 |[],_=>⟨rfl,Nat.zero_le _⟩
 |x::xs,h=>by
  let⟨a,b⟩:=h x Vi;let⟨c,d⟩:=nj (xs:=xs) λy hy=>h y (Vj _ hy);refine⟨?_,?_⟩
  .show(lw (f x)&&qi (xs.map f))=true;rw[a,c];rfl
  .show max (pv (f x)) (dN (xs.map f))<=n;omega
def HJ(a:Pe):lw (hW a)=true/\pv (hW a)<=2:=⟨rfl,by show max (max 0 (max 0 0)+1) (max 0 0)+1<=2;decide⟩
def  tbD(T:List (List Pe)):D:=.lst (T.map rwD)
def  nxt(F:Nat->List Pe)(T:List (List Pe))(k:Nat):List Pe:=match T.getLast? with
 |none=>F k
 |some A=>jq A (F k)
def  tbl(F:Nat->List Pe)(r:U2):List (List Pe):=r.foldl (λT k=>T++[nxt F T k]) []
def kW(F:Nat->List Pe)(r:U2)(k:Nat):tbl F (r++[k])=tbl F r++[nxt F (tbl F r) k]:=by
 unfold tbl;rw[List.foldl_append];rfl
def sj(F:Nat->List Pe):∀r:U2,(tbl F r).length=r.length:=je rfl λr k ih=>by rw[kW,length_append,length_append,ih];rfl
def Gv(A:List Pe)(h:Up C):Up (jq A C):=by
 refine List.Pairwise.filterMap (Da A) (λa b hab x hx y hy=>?_) h;have key:∀{e z:Pe},Da A e=!z->z.1=e.1:=λ{e z} he=>by
  unfold Da at he;split at he
  .cases he
  .cases he;rfl
 rw[key hx,key hy];exact hab
def  uU(A:List Pe):Prop:=Up A/\A.length<100
def Dh(A:List Pe)(h:uU C):uU (jq A C):=⟨Gv A h.1,Vm (List.length_filterMap_le _ _) h.2⟩
def yd(h:uU (F k)):uU (nxt F T k):=by
 unfold nxt;split
 .exact h
 .exact Dh _ h
def ye{α:Type}{f:α->D}{T:List α}{A}(h:T.getLast?=!A):pj (T.map f) (-1)=!(f A):=by
 have hl:0<T.length:=by
  cases T with
  |nil=>cases h
  |cons _ _=>exact Nat.succ_pos _
 unfold pj DC;rw[length_map,if_neg (!3),if_pos (!1)];show(T.map f)[_]?=_;rw[getElem?_map,show(-1+(T.length:Int)).toNat=T.length-1 by omega,<-List.getLast?_eq_getElem?,h];rfl
def  ltz(ls:List Lz):oK:=ls.map λl=>(l.1,(l.2:Int))
def  Fk(pr:List (U4))(ls:List Lz)(U:Nat->List Pq)(k:Nat):List Pe:=uI pr (ls.getD k (1,0)) (U k)
def Opn.fin(L:Lok ps ls)(O:Opn ps ls k l (U k)):uU (Fk pr ls U k):=by
 refine⟨?_,?_⟩
 .unfold Fk uI Up;rw[List.pairwise_map];exact O.up
 .unfold Fk uI;rw[length_map];have:=O.len L;omega
structure TbOk(ps:UV)(ls:List Lz)(gs:List Gr)(r:U2)(pr:List (U4))(U:Nat->List Pq):Prop where
 L:Lok ps ls
 p:PrOk ps pr
 u:∀k l,ls[k]?=!l->Opn ps ls k l (U k)
 o:KM (ltz ls) gs (bZ r)
 r:∀k∈r,k<ls.length
def TbOk.fin{ps ls gs r pr U}(h:TbOk ps ls gs r pr U){k:Nat}(hk:k∈r):uU (Fk pr ls U k):=Opn.fin h.L (h.u k _ (getElem?_eq_getElem (h.r k hk)))
def  R5(f:Fn):Prop:=∀ps ls gs r pr U,TbOk ps ls gs r pr U->f [ay ps,az ls,aZ (ltz ls) gs,cg pr]=dp (tbD (tbl (Fk pr ls U) r))
abbrev sT(ps:UV)(ls:List Lz)(gs:List Gr)(pr:List (U4))(T:List (List Pe))(o5 o6:UX):Ev:=[sn (ay ps),sn (az ls),sn (aZ (ltz ls) gs),sn (cg pr),dp (tbD T),o5,o6]
def R6{oo rb pc lp lo ll}(h1:KO oo)(h2:KG rb)(h3:KI pc)(h4:se lp)(h5:KN lo)(h6:r6 ll):R5 (aI 4 7 (pK oo rb pc lp lo ll)):=λps ls gs r pr U t=>by
 have e1:=h1 _ _ _ t.o;refine aj rfl ?_;refine oI (clF_a.trans (congrArg b7 (h6 ps ls t.L.n t.L.o))) (oI (clF_a.trans (congrArg b7 (h5 _ _ _ t.o))) (oI (clF_a.trans (congrArg b7 (h4 ps pr t.L.v t.p))) (q_set (evX_lfs rfl rfl rfl rfl)
  (q_forB (xs:=r) (mk:=λk=>iN k) (λi Y=>∃o5 o6,(∀A∈tbl (Fk pr ls U) (r.take i),uU A)/\Y=sT ps ls gs pr (tbl (Fk pr ls U) (r.take i)) o5 o6) ?_ ⟨none,none,(λ_ z=>nomatch z),rfl⟩ ?_ ?_))))
 .rw[bH,clF_a];refine(congrArg (λo=>(b7 o).bind seqD) e1).trans ?_;show some ((bZ r).map D.int)=_;unfold bZ;rw[List.map_map];rfl
 .rintro i k Y hk ⟨o5,o6,hf,rfl⟩;have hkr:=Vx hk;have hl:=t.r k hkr;have hr24:r.length<=24:=by have:=t.o.2;unfold bZ at this;rwa [length_map]at this
  have ec:=h3 ps ls k _ (U k) pr t.L (getElem?_eq_getElem hl) (t.u k _ (getElem?_eq_getElem hl)) t.p;have eF:uI pr ls[k] (U k)=Fk pr ls U k:=by
   unfold Fk;rw[List.getD_eq_getElem?_getD,getElem?_eq_getElem hl];rfl
  rw[eF]at ec;have fF:=t.fin hkr;have et:tbl (Fk pr ls U) (r.take (i+1))=tbl (Fk pr ls U) (r.take i)++[nxt (Fk pr ls U) (tbl (Fk pr ls U) (r.take i)) k]:=by
   rw[List.take_succ,hk,Option.toList_some,kW]
  have tl:(tbl (Fk pr ls U) (r.take i)).length+1<big:=by
   rw[sj,List.length_take];exact Vm (show _<=25 by omega) (!3)
  have fin:∀A∈tbl (Fk pr ls U) (r.take i)++[nxt (Fk pr ls U) (tbl (Fk pr ls U) (r.take i)) k],uU A:=λA hA=>by
   rcases mem_append.mp hA with h|h
   .exact hf A h
   .rw[mem_singleton.mp h];exact yd fF
  rw[et];generalize tbl (Fk pr ls U) (r.take i)=T at*;generalize hC:Fk pr ls U k=C at*;cases hT:T.getLast? with
  |none=>
   have hT0:=List.getLast?_eq_none_iff.mp hT;subst hT0;have hN:nxt (Fk pr ls U) [] k=C:=hC;refine⟨sT ps ls gs pr [C] (sn (iN k)) none,?_,_,_,fin,by rw[hN];rfl⟩;refine q_set (ev_c rfl ec) (q_st (appF_deep rfl rfl rfl tl) rfl)
  |some A=>
   have hA:=hf A (List.mem_of_getLast? hT);have eb:=h2 A C hA.1 fF.1 hA.2 fF.2;have hN:nxt (Fk pr ls U) T k=jq A C:=by unfold nxt;rw[hT,hC]
   refine⟨sT ps ls gs pr _ (sn (iN k)) (dp (rwD C)),?_,_,_,fin,by rw[hN]⟩;have hne:T.length≠0:=λz=>by rw[List.length_eq_zero_iff.mp z]at hT;cases hT
   have hq:al (aa (aK false) (cQ (va 4)) (cI 0)) (vw (sT ps ls gs pr T (sn (iN k)) (dp (rwD C))))=!false:=by
    simp only[sB,bb,show seqD (tbD T)=some _ from rfl,length_map,jJ];rw[if_neg Bool.false_ne_true,decide_eq_false (!1)]
   have ex:am (tbD T) (.int (-1))=!(rwD A):=ye hT;refine q_set (ev_c rfl ec) (q_st (appF_deep (d:=rwD (jq A C)) (Y':=sT ps ls gs pr T (sn (iN k)) (dp (rwD C))) rfl ?_ rfl (by rw[length_map];exact tl)) ?_)
   .show A4 _ _ _ (sT ps ls gs pr T (sn (iN k)) (dp (rwD C)))=_;unfold A4;rw[hq,Option.bind_some,if_neg Bool.false_ne_true];refine ev_c ?_ eb;show((am (tbD T) (.int (-1))).bind _)=_;rw[ex];rfl
   .show some (Out.nx [_,_,_,_,dp (.lst _),_,_])=!(Out.nx [_,_,_,_,dp (.lst _),_,_]);rw[List.map_append];rfl
 .rintro Y ⟨o5,o6,_,rfl⟩;rw[List.take_length];rfl
def yg{β:Type}(g:β->Int):∀xs:List β,a9 (xs.map λx=>.int (g x))=!(xs.map g)
 |[]=>rfl
 |x::xs=>by
  show(a9 (xs.map λx=>.int (g x))).bind _=_;rw[yg g xs];rfl
def yh:∀r':U2,(∀k∈r',uU (F k))->∀A∈tbl F r',uU A:=je (λ_ _ z=>nomatch z) λr' k ih h A hA=>by
 rw[kW]at hA;rcases mem_append.mp hA with h1|h1
 .exact ih (λk hk=>h k (Vr _ hk)) A h1
 .rw[mem_singleton.mp h1];exact yd (h k (Vs _ Vi))
def Gw(t:TbOk ps ls gs r pr U):∀A∈tbl (Fk pr ls U) r,uU A:=yh r λk hk=>t.fin hk
end K16
namespace K16
open PySem PySem.Spec PyProof.Rows L2
def  kX(cE fO:Fn):US:=(ab (av 4 sE) (ab (iQ (jX ag (va 2)) (dq 5) (ab (av 6 sE) (ab (iQ (jX ag (bf cE (x3 (va 0) (va 1) (va 5)))) (zE 2 (cz (dq 7) (cz (dq 8) mF))) (ab (av 9 (mI fO (x3 (va 3) (aa am (aa am (va 1) (va 5)) (cI 1)) (va 8)))) (ab (eV (al (aa (aK false) (cQ (va 4)) (cI 0))) (ab (gq 6 (bi (cu (x2 (va 7) (va 9))) ag (uS (x2 (frX (va 7) ag ag) (frX (va 9) ag ag))))) aH) (ab (av 10 (bi (a6 (af [11,12] (jX ag (aa am (va 4) (FE (cI 1)))) (l7 2 (au (gNm 11) (au (gNm 12) bt))) (al (aa nI (va 11) (va 7))) (va 12))) (af [11,12] (jX ag (aa am (va 4) (FE (cI 1)))) (l7 2 (au (gNm 11) (au (gNm 12) bt))) (al (aa nI (va 11) (va 7))) (va 12)) (fCo [11,12] (jX ag (aa am (va 4) (FE (cI 1)))) (l7 2 (au (gNm 11) (au (gNm 12) bt))) (al (aa nI (va 11) (va 7))) (frX (va 12) ag ag)))) (ab (eV (al (aa Aw (cQ (va 10)) (cI 0))) (ab (gq 6 (bi (cu (x2 (va 7) (aa aC (a7 minD' (x1 (va 10))) (va 9)))) ag (uS (x2 (frX (va 7) ag ag) (frX (aa aC (a7 minD' (x1 (va 10))) (va 9)) (nW (a7 minD' (x1 (va 10))) (va 9)) ag))))) aH) aH) aH))) aH))) (ab (mH 4 6 (b8 (va 6)) (va 6)) aH)))) (ab (we 4) aH)))
def  fq(pr:List (U4))(l:Lz)(q:Pq):Pe:=(q.1,g9 pr l.2 q.2)
def  gP(T:List (List Pe))(C:List Pe):List Pe:=match T.getLast? with
 |none=>C
 |some A=>jq A C
def Di(T:List (List Pe))(C:List Pe):(gP T C).length<=C.length:=by
 unfold gP;split
 .exact Vy _
 .exact List.length_filterMap_le _ _
abbrev sV(ps:UV)(ls:List Lz)(r:U2)(pr:List (U4))(c:Cat)(T:List (List Pe))(o5 o6 o7 o8 o9 o10:UX):Ev:=[sn (aq ps),sn (az ls),sn (aA (bZ r)),sn (cg pr),!(c,tbD T),o5,o6,o7,o8,o9,o10,none,none]
def  Gx(op f:Fn):Prop:=∀ps ls r pr U,Lok ps ls->PrOk ps pr->(∀k l,ls[k]?=!l->Opn ps ls k l (U k)/\op [aq ps,az ls,iN k]=dp (.lst ((U k).map xW)))->(∀k∈r,k<ls.length)->r.length<=24->
 ∃c,f [aq ps,az ls,aA (bZ r),cg pr]=!(c,tbD (tbl (Fk pr ls U) r))
def oV(h1:gq i g Y=none)(h0:ownL Y i=!(c0,ds0))(h2:R (c9 (frzS [j] Y))=!d)(ho:ownL (frzS [j] Y) i=!(c,ds))(hl:ds.length+1<big):
  mH i j g R Y=!(.nx ((frzS [j] Y).set i (!(.top,.lst (ds++[d]))))):=by
 unfold mH a8
 rw[h1]
 unfold gq vz
 simp only[h0,h2,ho,Option.bind_some]
 rw[if_pos hl]
 unfold newCat
 rw[if_neg (by rintro⟨_,h⟩;cases h)]
def KP(p:Sd)(hA:A.length<100){J:Fx}(hJ:J [d0,d1,d2,d3,d4,d5,d6,!(di p),d8,d9,d10,none,none]=!(A.map hW)):
  af [11,12] J (l7 2 (au (gNm 11) (au (gNm 12) bt))) (al (aa nI (va 11) (va 7))) (va 12) [d0,d1,d2,d3,d4,d5,d6,!(di p),d8,d9,d10,none,none]=!((lss A p).map D.int):=by
 unfold lss
 rw[List.map_map]
 refine pI hJ (λx _=>?_) (Nat.lt_trans hA (!3))
 show(al (aa nI (va 11) (va 7)) [d0,d1,d2,d3,d4,d5,d6,!(di p),d8,d9,d10,!(di x.1),!(.int x.2)]).bind (λc=>if c=true then !(!(D.int x.2))else !none)=_
 simp only[sB,Dd]
 cases lt x.1 p<;>rfl
def Oi(h1:LB lc):Gx op (aI 4 13 (kX op lc)):=λps ls r pr U L ok hU hr r24=>by
 suffices h:∃c:Cat,kX op lc [sn _,sn _,sn _,sn _,none,none,none,none,none,none,none,none,none]=!(.rt (c,tbD (tbl _ r)))/\True by
  let⟨c,h,_⟩:=h;exact⟨c,aj rfl h⟩
 refine x_set (evX_lfs rfl rfl rfl rfl) (x_for (xs:=r) (mk:=λk=>iN k) (λi Y=>∃c o5 o6 o7 o8 o9 o10,c≠.sh/\Y=sV ps ls r pr c (tbl (Fk pr ls U) (r.take i)) o5 o6 o7 o8 o9 o10) ?_ ⟨.deep,none,none,none,none,none,none,(λz=>nomatch z),rfl⟩ ?_ ?_)
 .rw[bH,va_a];show some ((bZ r).map D.int)=_;unfold bZ;rw[List.map_map];rfl
 .rintro i k Y hk ⟨c,o5,o6,o7,o8,o9,o10,hc,rfl⟩;have hkr:=Vx hk;have hl:=hr k hkr;let⟨O,eo⟩:=hU k _ (getElem?_eq_getElem hl);have et:tbl (Fk pr ls U) (r.take (i+1))=tbl (Fk pr ls U) (r.take i)++[gP (tbl (Fk pr ls U) (r.take i)) (Fk pr ls U k)]:=by
   rw[List.take_succ,hk,Option.toList_some,kW];rfl
  have eF:(U k).map (fq pr ls[k])=Fk pr ls U k:=by
   unfold Fk;rw[List.getD_eq_getElem?_getD,getElem?_eq_getElem hl];rfl
  have tl:(tbl (Fk pr ls U) (r.take i)).length+1<big:=by
   rw[sj,List.length_take];exact Vm (show _<=25 by omega) (!3)
  have ul:=O.len L;have hf:∀A∈tbl (Fk pr ls U) (r.take i),A.length<100:=λA hA=>(yh _ (λk hk=>Opn.fin L (hU k _ (getElem?_eq_getElem (hr k (List.mem_of_mem_take hk)))).1) A hA).2;rw[et];generalize tbl (Fk pr ls U) (r.take i)=T at*;generalize hl':ls[k]=l at*;have hk':ls[k]?=!l:=by rw[getElem?_eq_getElem hl,hl']
  have hlen:al (aa (aK false) (cQ (va 4)) (cI 0)) [!(aq ps),!(az ls),!(aA (bZ r)),!(cg pr),!(tbD T)]=!(decide (T.length=0)):=by
   simp only[sB,bb,show seqD (tbD T)=some _ from rfl,length_map,jJ];rw[if_neg Bool.false_ne_true];congr 1;rw[decide_eq_decide];omega
  rw[show dq 5 (iN k) (sV ps ls r pr c T o5 o6 o7 o8 o9 o10)=some (sV ps ls r pr c T _ o6 o7 o8 o9 o10)from rfl];simp only[Option.bind_some];refine x_set (evX_lfs rfl rfl rfl rfl) (x_for (xs:=U k) (mk:=xW) (λj Y=>∃o7 o8 o9 o10,Y=sV ps ls r pr c T (sn (iN k)) (dp (rwD (gP T (((U k).take j).map (fq pr l))))) o7 o8 o9 o10) ?_ ⟨o7,o8,o9,o10,?_⟩ ?_ ?_)
  .rw[bH,clF_a];have:∀o,x3 (va 0) (va 1) (va 5) (c9 ((sV ps ls r pr c T (sn (iN k)) o6 o7 o8 o9 o10).set 6 o))=![aq ps,az ls,iN k]:=λo=>rfl;rw[this,Option.bind_some,eo];rfl
  .show _=sV ps ls r pr c T _ (dp (rwD (gP T []))) o7 o8 o9 o10;have:gP T []=[]:=by unfold gP;cases T.getLast?<;>rfl
   rw[this];rfl
  .rintro j q Y hq ⟨p7,p8,p9,p10,rfl⟩;have hqU:=Vx hq;let⟨w,_⟩:=O.w hqU;have ej:((U k).take (j+1)).map (fq pr l)=((U k).take j).map (fq pr l)++[fq pr l q]:=by
    rw[List.take_succ,hq,Option.toList_some,List.map_append];rfl
   have el:(((U k).take j).map (fq pr l)).length<=64:=by rw[length_map,List.length_take];omega
   rw[ej];generalize ((U k).take j).map (fq pr l)=C at*;have ew:lc [cg pr,iN l.2,wD q.2]=dp (.int _):=h1 ps pr l.2 q.2 L.v ok w;have cl:=Di T C;refine x_set (ev_c ?_ ew) ?_
   .rw[CK,consX_a,oJ,consX_a,uH hk' rfl rfl];rfl
   cases hT:T.getLast? with
   |none=>
    have hT0:=List.getLast?_eq_none_iff.mp hT;subst hT0;refine kP ((ifS_t hlen).trans (q_st (appF_deep rfl (evX_lf rfl rfl) rfl (by rw[length_map];exact Vm (show _<=65 by omega) (!3))) rfl)) (x_end ⟨sn (di q.1),sn (wD q.2),dp (.int (g9 pr l.2 q.2)),p10,?_⟩);show sV ps ls r pr c [] (sn (iN k)) (dp (.lst (C.map hW++[hW (fq pr l q)]))) _ _ _ _=sV ps ls r pr c [] (sn (iN k)) (dp (.lst ((C++[fq pr l q]).map hW))) _ _ _ _;rw[List.map_append];rfl
   |some A=>
    have hne:T.length≠0:=λz=>by rw[List.length_eq_zero_iff.mp z]at hT;cases hT
    rw[decide_eq_false hne]at hlen;have ex:am (tbD T) (.int (-1))=!(rwD A):=ye hT;have hA:=hf A (List.mem_of_getLast? hT);have er:gP T (C++[fq pr l q])=gP T C++(Da A (fq pr l q)).toList:=by
     unfold gP jq;rw[hT];cases h:Da A (fq pr l q)<;>simp[h]
    have hc2:∀Y:Ev,Y=sV ps ls r pr c T (sn (iN k)) (dp (rwD (gP T C))) (sn (di q.1)) (sn (wD q.2)) (dp (.int (g9 pr l.2 q.2))) p10->af [11,12] (jX ag (aa am (va 4) (FE (cI 1)))) (l7 2 (au (gNm 11) (au (gNm 12) bt))) (al (aa nI (va 11) (va 7))) (va 12) (vw Y)=!((lss A q.1).map D.int):=by
     rintro Y rfl;refine KP q.1 hA ?_;show((am (tbD T) (.int (-1))).bind seqD)=_;rw[ex];rfl
    rw[er];unfold Da;rw[show(fq pr l q).1=q.1 from rfl,show(fq pr l q).2=g9 pr l.2 q.2 from rfl];have hs:=evX_lfs (R:=a6 (af [11,12] (jX ag (aa am (va 4) _)) (l7 2 (au _ (au _ bt))) (al _) (va 12))) (Sp:=fCo [11,12] (jX ag (aa am (va 4) (FE (cI 1)))) (l7 2 (au (gNm 11) (au (gNm 12) bt))) (al (aa nI (va 11) (va 7))) (frX (va 12) ag ag)) (congrArg _ (hc2 _ rfl)) rfl (hc2 _ rfl) (kM _);have hg:∀o6,al (aa Aw (cQ (va 10)) (cI 0)) (vw (sV ps ls r pr c T (sn (iN k)) o6 (sn (di q.1)) (sn (wD q.2)) (dp (.int (g9 pr l.2 q.2))) (dp (aA (lss A q.1)))))=!(not (lss A q.1).isEmpty):=λo6=>by
     simp only[sB,bb,seq_sc,length_map,J0];congr 1;cases lss A q.1 with
     |nil=>rfl
     |cons _ _=>exact decide_eq_true (by simp only[length_cons];omega)
    cases hE:(lss A q.1).isEmpty with
    |true=>
     have hg:=hg (dp (rwD (gP T C)));rw[hE]at hg;refine kP ((eZ hlen).trans (q_set hs (q_if0 hg rfl))) (x_end ⟨sn (di q.1),sn (wD q.2),dp (.int (g9 pr l.2 q.2)),dp (aA (lss A q.1)),?_⟩);rw[if_pos rfl,show(none:Option Pe).toList=[]from rfl,List.append_nil];rfl
    |false=>
     have hg:=hg (dp (rwD (gP T C)));rw[hE]at hg;have em:minD' [aA (lss A q.1)]=!(.int (xv (lss A q.1))):=by
      show(a9 ((lss A q.1).map D.int)).bind _=_;rw[yg,Option.bind_some,List.map_id'];rw[hE,if_neg Bool.false_ne_true]
     refine kP ((eZ hlen).trans (q_set hs (q_st ((ifS_t hg).trans (q_st (appF_deep (d:=hW (q.1,xv (lss A q.1)+g9 pr l.2 q.2)) rfl (evX_lf ?_ rfl) rfl (by rw[length_map];exact Vm (show _<=65 by omega) (!3))) rfl)) rfl))) (x_end ⟨sn (di q.1),sn (wD q.2),dp (.int (g9 pr l.2 q.2)),dp (aA (lss A q.1)),?_⟩)
     .show cu (x2 (va 7) (aa aC (a7 minD' (x1 (va 10))) (va 9))) [_,_,_,_,_,_,_,!(di q.1),_,!(.int (g9 pr l.2 q.2)),!(aA (lss A q.1)),_,_]=_;simp only[iS,sB,em];rfl
     .rw[if_neg Bool.false_ne_true];show sV ps ls r pr c T (sn (iN k)) (dp (.lst ((gP T C).map hW++[_]))) _ _ _ _=sV ps ls r pr c T (sn (iN k)) (dp (.lst ((gP T C++[_]).map hW))) _ _ _ _;rw[List.map_append];rfl
  .rintro Y ⟨p7,p8,p9,p10,rfl⟩;rw[List.take_length,eF];have ow:∀o5 o6 o7 o8 o9 o10,ownL (sV ps ls r pr c T o5 o6 o7 o8 o9 o10) 4=!(c,T.map rwD):=λ_ _ _ _ _ _=>by cases c<;>first|exact absurd rfl hc|rfl
   refine kP (oV (rQ (evX_fz rfl rfl rfl rfl rfl rfl) rfl) (ow _ _ _ _ _ _) rfl (ow _ (sn (rwD (gP T _))) _ _ _ _) (by rw[length_map];exact tl)) (x_end ⟨.top,sn (iN k),sn (rwD (gP T (Fk pr ls U k))),p7,p8,p9,p10,(λz=>nomatch z),?_⟩);show[_,_,_,_,!(Cat.top,D.lst (T.map rwD++[rwD (gP T (Fk pr ls U k))])),_,_,_,_,_,_,_,_]=[_,_,_,_,!(Cat.top,D.lst ((T++[gP T (Fk pr ls U k)]).map rwD)),_,_,_,_,_,_,_,_];rw[List.map_append];rfl
 .rintro Y ⟨c,o5,o6,o7,o8,o9,o10,hc,rfl⟩;rw[List.take_length];exact⟨c,rfl,trivial⟩
end K16
namespace K16
open PySem PySem.Spec PyProof.Rows L2
def  kY:US:=(ab (av 1 (bi (a6 (fV (x1 (cu ax)))) (fV (x1 (cu ax))) (B7 (x1 (frX (cu ax) ag (uS ax)))))) (ab (iQ (jX ag (va 0)) (dq 2) (ab (av 3 sE) (ab (B8 1 (jX ag (va 1)) (dq 4) (ab (iQ (jR (x1 (cQ (va 2)))) (dq 5) (ab (gq 3 (bi (aa aC (va 4) (cu (x1 (va 5)))) (nW (va 4) (cu (x1 (va 5)))) ag)) aH)) aH)) (ab (av 1 (b8 (va 3))) aH)))) (ab (we 1) aH)))
def x_forW{α β:Type}{J:Fx}{out:α->Option Out}{Pr:α->Prop}{xs:List β}{mk}(I:Nat->Ev->Prop)(hh:(J (c9 Y)=none/\Y1=frzS [j] Y)\/Y1=Y)(hJ:J (c9 Y1)=!(xs.map mk))(h0:I 0 Y1)(hs:∀(i:Nat)(x:β)(Y:Ev),xs[i]?=!x->I i Y->∃Y',(tg (mk x) Y).bind F=!(.nx Y')/\I (i+1) Y')(k:∀Y',I xs.length Y'->∃a,G Y'=out a/\Pr a):∃a,ab (B8 j J tg F) G Y=out a/\Pr a:=by
 have hs':∀(i:Nat)(d:D)(Y:Ev),(xs.map mk)[i]?=!d->I i Y->∃Y',(tg d Y).bind F=!(.nx Y')/\I (i+1) Y':=λi d Y hd hi=>by
  rw[getElem?_map]at hd;cases hx:xs[i]? with
  |none=>rw[hx]at hd;cases hd
  |some x=>rw[hx]at hd;cases hd;exact hs i x Y hx hi
 let⟨Y',e,i⟩:=iR (xs.map mk) I _ h0 hs';rw[length_map]at i;have e':iL J tg F Y1=!(.nx Y'):=by unfold iL;rw[hJ];exact e
 refine kP ?_ (k _ i);rcases hh with⟨hN,rfl⟩|rfl
 .exact Kj hN e'
 .unfold B8 a8;rw[e']
noncomputable def  wst(W:List (U2))(n:Nat):List (U2):=W.flatMap λw=>(!19).map λk=>w++[k]
def yi(n:Nat):∀W:List (U2),(wst W n).length=W.length*n
 |[]=>by rw[List.length_nil,Nat.zero_mul];rfl
 |w::W=>by
  show((!19).map _++wst W n).length=_;rw[length_append,length_map,length_range,yi n W,length_cons,Nat.succ_mul,Nat.add_comm]
def  wdw(rs:UV):List (U2):=rs.foldl (λW p=>wst W p.length) [[]]
def uJ(rs:UV)(p:List Pk):wdw (rs++[p])=wst (wdw rs) p.length:=by unfold wdw;rw[List.foldl_append];rfl
def yj{α β:Type}(g:α->β)(f:α->List β):∀l:List α,(l.flatMap λa=>g a::f a).Perm (l.map g++l.flatMap f)
 |[]=>.nil
 |a::l=>by
  rw[List.flatMap_cons,List.flatMap_cons,List.map_cons,List.cons_append,List.cons_append];refine List.Perm.cons _ (((yj g f l).append_left (f a)).trans ?_);rw[<-List.append_assoc,<-List.append_assoc];exact List.perm_append_comm.append_right _
def uK(n:Nat):∀W:List (U2),(wst W n).Perm ((!19).flatMap λk=>W.map λw=>w++[k])
 |[]=>by
  have:((!19).flatMap λk=>([]:List (U2)).map λw=>w++[k])=[]:=by simp
  rw[this];exact .nil
 |w::W=>by
  show((!19).map _++wst W n).Perm _;exact((uK n W).append_left _).trans (yj (λk=>w++[k]) (λk=>W.map λw=>w++[k]) (!19)).symm
def oW:∀rs:UV,(wdw rs).Perm (wds rs):=je (List.Perm.refl _) λrs p ih=>by
 rw[uJ,kQ];exact(List.Perm.flatMap_right _ ih).trans (uK p.length _)
def  LC(W:List (U2)):D:=.lst (W.map wD)
abbrev sU(rs:UV)(c:Cat)(W:List (U2))(o2 o3 o4 o5:UX):Ev:=[sn (aq rs),!(c,LC W),o2,o3,o4,o5]
def Oj(h6:w.length<=6)(h4:bF Y 4=!(wD w))(h5:bF Y 5=!(iN m)):aa aC (va 4) (cu (x1 (va 5))) Y=!(wD (w++[m])):=by
 rw[bin2_a,va_a,h4,Option.bind_some,iS,gx,consX_a,va_a,h5,Option.bind_some,nilX_a,Option.bind_some,capL_1,Option.bind_some];show(if(w.map _).length+1<big then !(D.tup _)else none)=_;rw[if_pos (by rw[length_map];exact Vm (show _<=7 by omega) (!3))];unfold wD;rw[List.map_append];rfl
def  KQ(f:Fn):Prop:=∀rs:UV,prod rs<64->(∀p∈rs,1<=p.length/\p.length<=6)->rs.length<=6->∃c,f [aq rs]=!(c,LC (wdw rs))
def Ol:KQ (aI 1 6 kY):=λrs h64 hp hl6=>by
 suffices h:∃c:Cat,kY [sn _,none,none,none,none,none]=!(.rt (c,LC _))/\True by
  let⟨c,h,_⟩:=h;exact⟨c,aj rfl h⟩
 have wl:∀i,(wdw (rs.take i)).length<=64:=λi=>by
  rw[(oW _).length_eq,m9];have h1:prod rs=prod (rs.take i)*prod (rs.drop i):=by rw[<-bN,List.take_append_drop]
  have h2:1<=prod (rs.drop i):=ni λp h=>(hp p (List.mem_of_mem_drop h)).1;have h3:prod (rs.take i)*1<=prod (rs.take i)*prod (rs.drop i):=Nat.mul_le_mul_left _ h2;omega
 refine x_set (evX_lfs rfl rfl rfl rfl) (x_for (λi Y=>∃c o2 o3 o4 o5,(c=.deep\/c=.sh)/\Y=sU rs c (wdw (rs.take i)) o2 o3 o4 o5) rfl ⟨.deep,none,none,none,none,.inl rfl,rfl⟩ ?_ ?_)
 .rintro i p Y hi ⟨c,o2,o3,o4,o5,hc,rfl⟩;have hpp:=hp p (Vx hi);have et:wdw (rs.take (i+1))=wst (wdw (rs.take i)) p.length:=by rw[List.take_succ,hi,Option.toList_some,uJ]
  have hw1:=wl (i+1);have hw:=wl i;rw[et]at hw1⊢;have hw6:∀w∈wdw (rs.take i),w.length<=6:=λw h=>by
   rw[(jf _ w ((oW _).mem_iff.mp h)).1,List.length_take];omega
  generalize wdw (rs.take i)=W at*;rw[show dq 2 (dH p) (sU rs c W o2 o3 o4 o5)=some (sU rs c W _ o3 o4 o5)from rfl];simp only[Option.bind_some];refine x_set (evX_lfs rfl rfl rfl rfl) (x_forW (λj Y=>∃o4 o5,Y=sU rs .sh W (sn (dH p)) (dp (LC (wst (W.take j) p.length))) o4 o5) ?_ rfl ⟨o4,o5,rfl⟩ ?_ ?_)
  .rcases hc with rfl|rfl
   .exact .inl ⟨rfl,rfl⟩
   .exact .inr rfl
  .rintro j w Y hj ⟨o4,o5,rfl⟩;have hwW:=Vx hj;have h6:=hw6 w hwW;have ej:wst (W.take (j+1)) p.length=wst (W.take j) p.length++(List.range p.length).map λk=>w++[k]:=by
    unfold wst;rw[List.take_succ,hj,Option.toList_some,List.flatMap_append];simp
   have hle:(wst (W.take j) p.length).length+p.length<=64*6+6:=by
    rw[yi,List.length_take];have:=Nat.mul_le_mul (show min j W.length<=64 by omega) hpp.2;omega
   rw[ej];generalize wst (W.take j) p.length=V at*;rw[show dq 4 (wD w) (sU rs .sh W (sn (dH p)) (dp (LC V)) o4 o5)=some (sU rs .sh W _ _ _ o5)from rfl];refine x_rng (n:=p.length) (v:=λi=>(i:Int)) (λm Y=>∃o5,Y=sU rs .sh W _ (dp (LC (V++(List.range m).map λk=>w++[k]))) _ o5) (d7 ?_) ⟨o5,by rw[List.range_zero,List.map_nil,List.append_nil]⟩ ?_ ?_
   .show jU [.int ((p.map j9).length:Int)]=_;rw[length_map];exact aY (!1)
   .rintro m Y hm ⟨o5,rfl⟩;refine⟨_,q_st (appF_deep (d:=wD (w++[m])) rfl (evX_lf ?_ (lf_w _)) rfl ?_) rfl,sn (iN m),?_⟩
    .exact Oj h6 rfl rfl
    .rw[length_map,length_append,length_map,length_range];exact Vm (show _<=400 by omega) (!3)
    .show sU rs .sh W (sn (dH p)) (dp (.lst (_++[wD (w++[m])]))) (sn (wD w)) _=sU rs .sh W _ (dp (.lst ((V++(List.range (m+1)).map λk=>w++[k]).map wD))) _ _;have eR:V++(List.range (m+1)).map (λk=>w++[k])=(V++(List.range m).map λk=>w++[k])++[w++[m]]:=by
      rw[List.range_succ,List.map_append,<-List.append_assoc];rfl
     rw[eR,List.map_append (l₁:=V++_)];rfl
   .rintro Y ⟨o5,rfl⟩;exact x_end ⟨sn (wD w),o5,rfl⟩
  .rintro Y ⟨o4,o5,rfl⟩;rw[List.take_length];refine x_set (evX_fz rfl rfl rfl rfl rfl rfl) (x_end ⟨.sh,_,_,_,_,.inr rfl,rfl⟩)
 .rintro Y ⟨c,o2,o3,o4,o5,hc,rfl⟩;rw[List.take_length];exact⟨c,rfl,trivial⟩
end K16
namespace K16
open PySem PySem.Spec PyProof.Rows L2
def yk:∀{rs:UV}{w:U2},w.length=rs.length->(fitW s rs w=true↔∀i,i<w.length->s<=(jp (rs.getD i []) (w.getD i 0)).2)
 |[],[],_=>by simp[fitW]
 |[],_::_,h=>by cases h
 |_::_,[],h=>by cases h
 |p::rs,k::w,h=>by
  show(decide (s<=(jp p k).2)&&fitW s rs w)=true↔_;rw[and_eq_true,decide_eq_true_eq,yk (Nat.succ.inj h)];constructor
  .rintro⟨h1,h2⟩ i hi;cases i with
   |zero=>exact h1
   |succ i=>exact h2 i (Nat.lt_of_succ_lt_succ hi)
  .intro z;exact⟨z 0 (Nat.succ_pos _),λi hi=>z (i+1) (Nat.succ_lt_succ hi)⟩
def S5{i k:Nat}(h:w[i]?=!k):am (wD w) (.int (i:Int))=!(.int (k:Int)):=aU h
def Om{ps:UV}{w:U2}(r:w.length=(!5).length)(l:∀q∈w.zip (!5),q.1<q.2.length)(hi:i<w.length):
  ∃(p:List Pk)(k:Nat)(a:Pk),ps[t+i]?=!p/\(!5)[i]?=!p/\w[i]?=!k/\p[k]?=!a/\jp p k=a:=by
 have g:(!5)[i]?=some (!5)[i]:=getElem?_eq_getElem (!1)
 have e2:=getElem?_eq_getElem hi
 have m:(w[i],(!5)[i])∈w.zip (!5):=Vx (List.getElem?_zip_eq_some.mpr ⟨e2,g⟩)
 have o:=l _ m
 have j:(!5)[i][w[i]]?=some (!5)[i][w[i]]:=getElem?_eq_getElem o
 exact⟨_,_,_,by rw[<-List.getElem?_drop];exact g,g,e2,j,C0 j⟩
def Gy(b:Bool):decide (kd b=("pile":Str))=not b:=RK b
def On(h:R (c9 Y)=!d)(j:g d Y=!Y'):Rj R g Y=!(.nx Y'):=by
 unfold Rj a8 EJ;simp[h,j]
def KR(U:List (Sd×List Nat)):cF (U.map xW)=true:=cf λd hd=>by
 let⟨q,_,rfl⟩:=Vp.mp hd;show(lfD (di q.1)&&(lfD (wD q.2)&&true))=true;rw[lf_w];rfl
end K16
namespace K16
open PySem PySem.Spec PyProof.Rows L2
def  sk:US:=(ab (av 4 (b8 (aa am (!20) (cI 1)))) (ab (av 5 (b8 (cI 1))) (ab (iQ (jX ag (iO (va 0) lj (aR (va 4)))) (dq 6) (ab (av 5 (b8 (aa aJ (va 5) (cQ (va 6))))) aH)) (ab (av 7 (b8 (aa fQ (va 5) (cI 1)))) (ab (av 8 (b8 (cI 1))) (ab (iQ (jR (x1 (cQ (va 3)))) (dq 9) (ab (eV (al (aa (aK false) (aa am (aa am (aa am (va 0) (aa aC (va 4) (va 9))) (aa am (va 3) (va 9))) (cI 0)) (cS "pile"))) (ab (av 7 (b8 (aa fQ (aa fQ (va 5) (cI 1)) (va 7)))) (ab (av 8 (b8 (FE (va 8)))) aH)) aH) (ab (av 7 (bi (aa aC (aa aJ (aa am (va 3) (va 9)) (va 5)) (va 7)) (nW (a8 (aa aJ (aa am (va 3) (va 9)) (va 5)) (a6 ag)) (va 7)) ag)) (ab (av 5 (b8 (aa aJ (va 5) (cQ (aa am (va 0) (aa aC (va 4) (va 9))))))) aH)))) (gN (bi (cu (x2 (va 7) (aa aJ (va 8) (aa aC (va 2) (aa aJ (cQ (va 1)) (va 4)))))) ag (uS (x2 (frX (va 7) ag ag) (frX (aa aJ (va 8) (aa aC (va 2) (aa aJ (cQ (va 1)) (va 4)))) ag ag)))))))))))
def  uL(eG bX:Fn):US:=(ab (Rj (!20) (zE 2 (cz (dq 5) (cz (dq 6) mF)))) (ab (av 3 sE) (ab (iQ (jX ag (bf eG (x1 (iO (va 0) (aR (va 6)) lj)))) (dq 4) (ab (eV (iP (a7 fy (x1 (a6 (af [7] (jR (x1 (cQ (va 4)))) (gNm 7) tQ (aa Lr (aa am (aa am (aa am (va 0) (aa aC (va 6) (va 7))) (aa am (va 4) (va 7))) (cI 1)) (va 5))))))) (ab (gq 3 (bi (cu (x2 (bf bX (x4 (va 0) (va 1) (va 2) (va 4))) (va 4))) ag (uS (x2 (frX (bf bX (x4 (va 0) (va 1) (va 2) (va 4))) ag (Hw bX (x4 (va 0) (va 1) (va 2) (va 4)))) (frX (va 4) ag ag))))) aH) aH) aH)) (gN (bi (DH (x1 (va 3)) (wb (x1 (va 3)))) (wb (x1 (va 3))) (fNo (x1 (va 3))))))))
def KS(h0:bF Y 0=!(aq ps))(h1:bF Y a=!(iN t)):iO (va 0) lj (aR (va a)) Y=!(aq (ps.take t)):=by
 unfold iO a8 ra;simp[h0,h1,aq,kJ]
def KU(h0:bF Y 0=!(aq ps))(h1:bF Y a=!(iN t)):iO (va 0) (aR (va a)) lj Y=!(aq (!5)):=by
 unfold iO a8 ra;simp[h0,h1,aq,kI]
def Dj(h:ps[i]?=!p):am (aq ps) (iN i)=!(dH p):=aU h
def Dk(h:p[k]?=!a):am (dH p) (iN k)=!(j9 a):=aU h
abbrev R7(ps:UV)(t:Nat)(w:U2):Sd:=pl (prod (ps.take t)) (!5) w ((prod (ps.take t):Int)-1,1)
def  KW(f:Fn):Prop:=∀ps ls k l w,Lok ps ls->ls[k]?=!l->w.length=(ps.drop l.2).length->(∀q∈w.zip (ps.drop l.2),q.1<q.2.length)->f [aq ps,az ls,iN k,wD w]=dp (di (DJ (uB ls k l) (R7 ps l.2 w)))
abbrev sP(ps:UV)(ls:List Lz)(k:Nat)(w:U2)(t:Nat)(n:Nat)(o6 o7 o8 o9:UX):Ev:=[sn (aq ps),sn (az ls),sn (iN k),sn (wD w),dp (iN t),dp (iN n),o6,o7,o8,o9]
def Oo:KW (aI 4 10 sk):=λps ls k l w L hk hl hq=>by
 let⟨s,t⟩:=l;have hv:=L.v;have h64:=L.c;have hlo:=L.o _ (Vx hk);have hr:=C4 hv L.n hlo hk;have hle:=nh hv;have hl5:=hv.len;simp only at hl hq;have hd:(!5).length=ps.length-t:=List.length_drop;unfold R7;obtain⟨n0,hn0⟩:∃n,n=prod (ps.take t):=⟨_,rfl⟩;have hcut:∀i,n0*prod ((!5).take i)<=prod ps:=λi=>by rw[hn0,kT];exact hle _
 refine aj rfl ?_;refine q_set (evX_lf ?_ rfl) (q_set (evX_lf rfl rfl) (q_forB (xs:=ps.take t) (mk:=dH) (λi Y=>∃o6,Y=sP ps ls k w t (prod ((ps.take t).take i)) o6 none none none) ?_ ⟨none,rfl⟩ ?_ ?_))
 .exact uH hk rfl rfl
 .show jX ag _ (c9 _)=_;rw[bH,KS rfl rfl];rfl
 .rintro i p Y hp ⟨o6,rfl⟩;have hP:prod ((ps.take t).take i)<1000000:=by
   rw[List.take_take];have:=hle (min i t);omega
  refine⟨_,ar (ca (evX_lf (d:=iN (prod ((ps.take t).take i)*p.length)) ?_ rfl)),⟨sn (dH p),?_⟩⟩
  .show aJ (iN _) (.int ((p.map j9).length:Int))=_;rw[length_map];exact Cy hP
  .rw[List.take_add_one,hp];show _=sP ps ls k w t (prod ((ps.take t).take i++[p])) _ _ _ _;rw[dh];rfl
 .rintro Y ⟨o6,rfl⟩;rw[List.take_length,<-hn0];refine q_set (evX_lf rfl rfl) (q_set (evX_lf rfl rfl) (q_rng (n:=w.length) (v:=λi=>(i:Int))
   (λi Y=>∃o9,∃(c m:Int),pl n0 ((!5).take i) (w.take i) ((n0:Int)-1,1)=(c,m)/\Y=sP ps ls k w t (n0*prod ((!5).take i)) o6 (dp (.int c)) (dp (.int m)) o9) (d7 ?_) ⟨none,(n0:Int)-1,1,rfl,?_⟩ ?_ ?_))
  .show jU [.int ((w.map _).length:Int)]=_;rw[length_map];exact aY (!1)
  .have e:n0*prod ((!5).take 0)=n0:=Nat.mul_one n0;rw[e];rfl
  .rintro i Y hi ⟨o9,c,m,hc,rfl⟩;let⟨p,j,⟨b,wd⟩,m1,m2,m3,m4,m5⟩:=Om hl hq hi;have hP:=hcut i;have hti:(t:Int)+(i:Int)=((t+i:Nat):Int):=by omega
   have f1:am (aq ps) (.int ((t:Int)+(i:Int)))=!(dH p):=by rw[hti];exact Dj m1
   have f2:=S5 m3;have f3:=Dk m4;have x0:am (j9 (b,wd)) (.int 0)=!_:=qu _ _;have hw:w.take (i+1)=w.take i++[j]:=by rw[List.take_add_one,m3];rfl
   have hpl:pl n0 ((!5).take (i+1)) (w.take (i+1)) ((n0:Int)-1,1)=bY (n0*prod ((!5).take i)) j (b,wd) (c,m):=by
    rw[jg ps t i p m2,hw,m8 _ _ _ _ (by rw[List.length_take,List.length_take,hl]),hc,m5]
   rw[hpl];have hN:n0*prod ((!5).take (i+1))=n0*prod ((!5).take i)*p.length:=by rw[jg ps t i p m2,dh,Nat.mul_assoc]
   rw[hN];generalize n0*prod ((!5).take i)=N at hP;refine wv (b:=not b) ?_ ?_
   .show al _ [!(aq ps),!(az ls),!(iN k),!(wD w),!(iN t),!(iN N),_,!(.int c),!(.int m),!(iN i)]=_;simp only[testB_a,bin2_a,va_a,shAt_s,shAt_0,shAt_1,cI_a,cS_a,Option.bind_some,addD_ii,f1,f2,f3,x0,xM,asB_bl];rw[<-Gy b];rfl
   .have rest:∀c' m':Int,∃a,(ab (av 7 (bi (aa aC (aa aJ (aa am (va 3) (va 9)) (va 5)) (va 7)) (nW (a8 (aa aJ (aa am (va 3) (va 9)) (va 5)) (a6 ag)) (va 7)) ag)) (ab (av 5 (b8 (aa aJ (va 5) (cQ (aa am (va 0) (aa aC (va 4) (va 9))))))) aH))
      (sP ps ls k w t N o6 (dp (.int c')) (dp (.int m')) (sn (iN i)))=!(.nx a)/\a=sP ps ls k w t (N*p.length) o6 (dp (.int ((j:Int)*(N:Int)+c'))) (dp _) _:=λc' m'=>by
     refine x_set (evX_lf ?_ rfl) (x_set (evX_lf ?_ rfl) (x_end rfl))
     .show aa aC (aa aJ (aa am (va 3) (va 9)) (va 5)) (va 7) [!(aq ps),!(az ls),!(iN k),!(wD w),!(iN t),!(iN N),_,!(.int c'),!(.int m'),!(iN i)]=_;simp only[bin2_a,va_a,shAt_s,shAt_0,shAt_1,Option.bind_some,f2,ez (show -1000000<(N:Int)by omega) (!1),addD_ii]
     .show aa aJ _ _ [!(aq ps),!(az ls),!(iN k),!(wD w),!(iN t),!(iN N),_,_,!(.int m'),!(iN i)]=_;simp only[bin2_a,biF_a,gx,consX_a,nilX_a,va_a,shAt_s,shAt_0,shAt_1,Option.bind_some,addD_ii,f1];show aJ (iN N) (.int ((p.map j9).length:Int))=_;rw[length_map];exact Cy (!1)
    cases b with
    |true=>
     refine⟨_,rfl,?_⟩;let⟨a,ea,rfl⟩:=rest c m;exact⟨_,ea,⟨_,_,m,rfl,rfl⟩⟩
    |false=>
     refine⟨_,q_set (evX_lf rfl rfl) (q_set (evX_lf rfl rfl) rfl),?_⟩;let⟨a,ea,rfl⟩:=rest ((N:Int)-1-c) (-m);exact⟨_,ea,⟨_,_,-m,rfl,rfl⟩⟩
  .rintro Y ⟨o9,c,m,hc,rfl⟩;rw[List.take_of_length_le (!1),List.take_length]at hc;rw[hc];have ml:aJ (.int (ls.length:Int)) (iN t)=!(.int ((ls.length:Int)*(t:Int))):=wt (by have:=L.n;omega);have mr:aJ (.int m) (.int (uB ls k (s,t)))=!(.int _):=ez (!1) (!1);refine q_ret (evX_lf ?_ rfl);show cu _ [!(aq ps),!(az ls),!(iN k),!(wD w),!(iN t),_,_,!(.int c),!(.int m),_]=_;have y3:seqD (az ls)=!_:=rfl;simp only[iS,consX_a,nilX_a,bin2_a,biF_a,gx,va_a,shAt_s,shAt_0,shAt_1,Option.bind_some,bb,y3,length_map,ml,addD_ii,mr,capL_2];first
   |rfl
   |(rw[show((k:Int)+(ls.length:Int)*(t:Int))=uB ls k (s,t)from rfl,mr];rfl)
abbrev HK(ps:UV)(ls:List Lz)(k:Nat)(l:Lz)(w:U2):Pq:=(DJ (uB ls k l) (R7 ps l.2 w),w)
abbrev sO(ps:UV)(ls:List Lz)(k:Nat)(l:Lz)(V:List Pq)(o4:UX):Ev:=[sn (aq ps),sn (az ls),sn (iN k),dp (.lst (V.map xW)),o4,sn (.int l.1),sn (iN l.2),none]
def  KY(f:Fn):Prop:=∀ps ls k l,Lok ps ls->ls[k]?=!l->∃U,Opn ps ls k l U/\f [aq ps,az ls,iN k]=dp (.lst (U.map xW))
def Op(hwo:KQ wo)(hco:KW co):KY (aI 3 8 (uL wo co)):=λps ls k l L hk=>by
 let⟨s,t⟩:=l;have hv:=L.v;have h64:=L.c;have hpd:prod (!5)<=prod ps:=by
  have h1:=uA hv 0 t;have h2:=kT ps t (!5).length;rw[List.take_length]at h2;have h3:=nh hv (t+(!5).length);have h4:prod (!5)<=prod (ps.take t)*prod (!5):=Nat.le_mul_of_pos_left _ h1;omega
 let⟨cw,ew⟩:=hwo (!5) (!1) (λp h=>⟨(hv.p (List.mem_of_mem_drop h)).1,(hv.p (List.mem_of_mem_drop h)).2.1⟩) (by rw[List.length_drop];have:=hv.len;omega);have hpm:=oW (!5);have hWl:(wdw (!5)).length<=63:=by rw[hpm.length_eq,m9];omega
 have hWm:∀w∈wdw (!5),w.length=(!5).length/\∀q∈w.zip (!5),q.1<q.2.length:=λw h=>jf _ w (hpm.mem_iff.mp h);have hfp:=(hpm.filter (fitW s (!5))).map (HK ps ls k (s,t));generalize wdw (!5)=W at*;have hfl:∀i,((W.take i).filter (fitW s (!5))).length<=63:=λi=>by
  refine Vn (List.length_filter_le _ _) ?_;rw[List.length_take];omega
 let⟨U,u1,u2,u3⟩:=FY (L:=(W.filter (fitW s (!5))).map (HK ps ls k (s,t))) (by
  rw[length_map];have:=hfl W.length;rw[List.take_length]at this;omega) (λq hq=>by
  let⟨w,hw,rfl⟩:=Vp.mp hq;exact(hWm w (List.mem_filter.mp hw).1).1)
 refine⟨U,⟨u1.trans hfp,u2⟩,aj rfl ?_⟩;refine q_st (On (d:=ya (s,t)) ?_ rfl) (q_set (evX_lfs rfl rfl rfl rfl) (q_forB (xs:=W) (mk:=wD)
  (λi Y=>∃o4,Y=sO ps ls k (s,t) (((W.take i).filter (fitW s (!5))).map (HK ps ls k (s,t))) o4) ?_ ⟨none,rfl⟩ ?_ ?_))
 .show am (az ls) (iN k)=_;exact C3 hk
 .show jX ag _ [!(aq ps),!(az ls),!(iN k),none,none,!(.int s),!(iN t),none]=_;rw[bH,clF_a,gx,consX_a,KU rfl rfl,Option.bind_some,nilX_a,Option.bind_some,Option.bind_some,ew];rfl
 .rintro i w Y hw ⟨o4,rfl⟩;let⟨hwl,hwq⟩:=hWm w (Vx hw);have hw6:w.length<=6:=by rw[hwl,List.length_drop];have:=hv.len;omega
  have ec:=hco ps ls k (s,t) w L hk hwl hwq;have hT:(W.take (i+1)).filter (fitW s (!5))=(W.take i).filter (fitW s (!5))++(if fitW s (!5) w=true then[w]else[]):=by
   rw[List.take_add_one,hw,List.filter_append];show _++List.filter _ [w]=_;rw[List.filter_cons];cases fitW s (!5) w<;>rfl
  rw[hT,List.map_append];have hlen:=hfl i;generalize (W.take i).filter (fitW s (!5))=V at hlen;rw[show dq 4 (wD w) (sO ps ls k (s,t) (V.map (HK ps ls k (s,t))) o4)=some (sO ps ls k (s,t) (V.map _) _)from rfl];have hb:((List.range w.length).all λj=>decide (s<=(jp ((!5).getD j []) (w.getD j 0)).2))=fitW s (!5) w:=by
   rw[Bool.eq_iff_iff,yk hwl,List.all_eq_true];exact⟨λz j hj=>Vk (z j (Vw.mpr hj)),λz j hj=>decide_eq_true (z j (Vw.mp hj))⟩
  refine wv (b:=fitW s (!5) w) ?_ ?_
  .show iP (a7 fy (x1 (a6 _))) [!(aq ps),!(az ls),!(iN k),_,!(wD w),!(.int s),!(iN t),none]=_;rw[trF_a,biF_a,gx,consX_a,lsF_a,ao (mk:=λ(j:Nat)=>D.int (j:Int)) ?_ (λj hj=>?_) (by rw[length_range];exact Vm hw6 (!3))]
   .show(fy [.lst _]).bind pD=_;rw[cO,hb];rfl
   .refine d7 ?_;show jU [.int ((w.map _).length:Int)]=_;rw[length_map];exact aY (!1)
   .let⟨p,kk,⟨b,wd⟩,m1,m2,m3,m4,m5⟩:=Om hwl hwq (Vw.mp hj);have hti:(t:Int)+(j:Int)=((t+j:Nat):Int):=by omega
    have f1:am (aq ps) (.int ((t:Int)+(j:Int)))=!(dH p):=by rw[hti];exact Dj m1
    have f2:=S5 m3;have f3:=Dk m4;have e1:(!5).getD j []=p:=by rw[List.getD_eq_getElem?_getD,m2];rfl
    have e2:w.getD j 0=kk:=by rw[List.getD_eq_getElem?_getD,m3];rfl
    rw[e1,e2,m5];simp only[stepF_a,wipe_cons,wipe_nil,gNm_a,set_cons_succ,set_cons_zero,Option.bind_some,tQ_a,bin2_a,va_a,shAt_s,shAt_0,shAt_1,cI_a,addD_ii,f1,f2,f3,x1,J2];rfl
  .cases e:fitW s _ w with
   |false=>
    refine⟨_,rfl,⟨_,rfl,⟨sn (wD w),?_⟩⟩⟩;show _=sO ps ls k (s,t) (V.map (HK ps ls k (s,t))++[]) _;rw[List.append_nil]
   |true=>
    refine⟨_,q_st (appF_deep (d:=xW (HK ps ls k (s,t) w)) rfl (evX_lf ?_ ?_) rfl ?_) rfl,⟨_,rfl,⟨sn (wD w),?_⟩⟩⟩
    .show cu (x2 (bf co _) _) [!(aq ps),!(az ls),!(iN k),_,!(wD w),!(.int s),!(iN t),none]=_;rw[iS,oJ,consX_a,clF_a,show x4 (va 0) (va 1) (va 2) (va 4) [!(aq ps),!(az ls),!(iN k),_,!(wD w),!(.int s),!(iN t),none]=some [aq ps,az ls,iN k,wD w]from rfl,Option.bind_some,ec];rfl
    .show(lfD (di (HK ps ls k (s,t) w).1)&&(lfD (wD w)&&true))=true;rw[lf_w];rfl
    .rw[length_map,length_map];exact Vm (show V.length+1<=64 by omega) (!3)
    .rw[if_pos rfl];unfold sO;rw[List.map_append];rfl
 .rintro Y ⟨o4,rfl⟩;rw[List.take_length];have s1:wb (x1 (va 3)) (vw (sO ps ls k (s,t) ((W.filter (fitW s (!5))).map (HK ps ls k (s,t))) o4))=!(U.map xW):=by
   exact u3
  exact q_ret (evX_lfs (mq s1) rfl s1 (KR U))
end K16
namespace K16
open PySem PySem.Spec PyProof.Rows L2
def  so(aS bR:Fn):US:=(ab (eV (al (aa (aK false) (aa aV (bf aS (x2 (va 0) (cI 0))) (cI 2)) (cI 1))) (gN (bi (a6 (af [5] (jR (x1 (va 1))) (gNm 5) tQ (bf bR (x2 (bf aS (x2 (va 0) (aa aC (cI 1) (aa aV (va 5) (cI 16))))) (aa c6 (va 5) (cI 16)))))) (af [5] (jR (x1 (va 1))) (gNm 5) tQ (bf bR (x2 (bf aS (x2 (va 0) (aa aC (cI 1) (aa aV (va 5) (cI 16))))) (aa c6 (va 5) (cI 16))))) (fCo [5] (jR (x1 (va 1))) (gNm 5) tQ (frX (bf bR (x2 (bf aS (x2 (va 0) (aa aC (cI 1) (aa aV (va 5) (cI 16))))) (aa c6 (va 5) (cI 16)))) ag (Hw bR (x2 (bf aS (x2 (va 0) (aa aC (cI 1) (aa aV (va 5) (cI 16))))) (aa c6 (va 5) (cI 16)))))))) aH) (ab (av 2 (b8 (cI 7))) (ab (iQ (jX ag (va 0)) (dq 3) (ab (av 2 (b8 (aa aV (aa aC (aa aC (aa aJ (va 2) (va 2)) (aa aJ (va 3) (cI 131))) (cI 17)) (cI 1000000000039)))) aH)) (ab (av 4 sE) (ab (iQ (jR (x1 (va 1))) (dq 5) (ab (av 2 (b8 (aa aV (aa aC (aa aC (aa aJ (va 2) (va 2)) (aa aJ (cI 977) (va 5))) (cI 3)) (cI 1000000000039)))) (ab (mH 4 2 (b8 (va 2)) (va 2)) aH))) (ab (iQ (jR (x1 (cQ (va 0)))) (dq 5) (ab (av 6 (b8 (aa aV (va 5) (va 1)))) (ab (ud 4 (va 6) (b8 (aa aV (aa aC (aa aJ (aa am (va 4) (va 6)) (cI 131)) (aa am (va 0) (va 5))) (cI 1000000000039))) (aa aV (aa aC (aa aJ (aa am (va 4) (va 6)) (cI 131)) (aa am (va 0) (va 5))) (cI 1000000000039))) aH))) (ab (we 4) aH)))))))
def  iU:US:=(ab (av 1 sE) (ab (iQ (jR (x1 (aa aC (cI 1) (aa aV (va 0) (cI 3))))) (dq 2) (ab (av 3 (b8 (aa am (a6 (fV (x2 (cS "queue") (cS "pile")))) (aa aV (aa c6 (va 0) (aa am (a6 (fV (x3 (cI 3) (cI 6) (cI 12)))) (va 2))) (cI 2))))) (ab (av 4 (b8 (aa am (a6 (fV (x2 (cI 9) (aa aV (aa c6 (va 0) (aa am (a6 (fV (x3 (cI 96) (cI 960) (cI 9600)))) (va 2))) (cI 10))))) (a7 qq (x1 (aa (aK false) (aa aV (aa c6 (va 0) (cI 24)) (cI 4)) (cI 0))))))) (ab (gq 1 (bi (cu (x2 (va 3) (va 4))) ag (uS (x2 (frX (va 3) ag ag) (frX (va 4) ag ag))))) aH)))) (gN (bi (a7 cG (x1 (va 1))) ag (fNo (x1 (va 1)))))))
def  pL(bS:Fn):US:=(gN (bi (a7 cG (x1 (a6 (af [2] (jR (x1 (aa aV (aa am (va 0) (va 1)) (cI 4)))) (gNm 2) tQ (bf bS (x1 (aa am (va 0) (aa aC (aa aC (va 1) (cI 1)) (va 2))))))))) ag (fNo (x1 (a6 (af [2] (jR (x1 (aa aV (aa am (va 0) (va 1)) (cI 4)))) (gNm 2) tQ (bf bS (x1 (aa am (va 0) (aa aC (aa aC (va 1) (cI 1)) (va 2)))))))))))
def  iV:US:=(ab (av 4 sE) (ab (iQ (jR (x1 (va 2))) (dq 5) (ab (av 6 (b8 (aa am (va 0) (aa aC (va 1) (va 5))))) (ab (av 7 (b8 (aa am (a6 (fV (x2 (cI 0) (aa aV (aa c6 (va 6) (cI 12)) (aa aC (cQ (va 3)) (cI 1)))))) (a7 qq (x1 (aa (aK false) (aa aV (aa c6 (va 6) (cI 3)) (cI 4)) (cI 0))))))) (ab (gq 4 (bi (cu (x2 (aa aC (cI 1) (aa aV (va 6) (cI 3))) (va 7))) ag (uS (x2 (frX (aa aC (cI 1) (aa aV (va 6) (cI 3))) (nW (cI 1) (aa aV (va 6) (cI 3))) ag) (frX (va 7) ag ag))))) aH)))) (ab (we 4) aH)))
def  jN:US:=(ab (av 3 sE) (ab (iQ (jR (x1 (cQ (va 2)))) (dq 4) (ab (av 5 sE) (ab (iQ (jR (x1 (cQ (aa am (va 2) (va 4))))) (dq 6) (ab (av 7 (b8 (aa am (va 0) (aa aC (aa aC (aa aC (va 1) (cI 3)) (aa aJ (cI 3) (va 4))) (va 6))))) (ab (eV (al (aa (aK false) (aa aV (aa am (va 0) (aa aC (va 1) (va 4))) (cI 4)) (cI 3))) (ab (av 7 (b8 (aa aJ (aa aJ (va 7) (va 7)) (va 7)))) aH) aH) (ab (gq 5 (b8 (aa aV (va 7) (aa am (a6 (fV (x4 (cI 4) (cI 10) (cI 1000000) (aa aC (aa vi (cI 10) (cI 30)) (cI 1))))) (aa aV (aa am (va 0) (aa aC (va 1) (va 4))) (cI 4)))))) aH)))) (ab (mH 3 5 (b8 (va 5)) (va 5)) aH)))) (ab (we 3) aH)))
abbrev Bn(cs:U4):Prop:=∀x∈cs,0<=x/\x<1000000000039
def mdB(x:Int):0<=x%1000000000039/\x%1000000000039<1000000000039:=⟨Int.emod_nonneg _ (!3),Int.emod_lt_of_pos _ (!3)⟩
def Gz(h:Bn cs)(k:0<=v/\v<1000000000039):Bn (cs++[v]):=λx hx=>by
 rcases mem_append.mp hx with z|z
 .exact h x z
 .rw[mem_singleton.mp z];exact k
def GA(h:Bn cs)(k:0<=v/\v<1000000000039):Bn (cs.set j v):=λx hx=>by
 rcases List.mem_or_eq_of_mem_set hx with z|z
 .exact h x z
 .rw[z];exact k
def  wG(f:Fn):Prop:=∀(ns:U4)(m:Nat),ns.length<1000->0<m->m<1000->∃cs:U4,cs.length=m/\Bn cs/\f [aA ns,.int (m:Int)]=!(.deep,aA cs)
def GB(hc:Cv ce)(hp:Cw pa):wG (aI 2 7 (so ce pa)):=λns m hn h0 hm=>by
  have hs:aD 7 [aA ns,.int (m:Int)]=[!_,!(.sh,.int (m:Int)),none,none,none,none,none]:=rfl
  have hc0:=hc ns 0
  have hT:al (aa (aK false) (aa aV (bf ce (x2 (va 0) (cI 0))) (cI 2)) (cI 1)) [!(aA ns),!(.int (m:Int)),none,none,none,none,none]=!(decide (ns[0]?.getD 0%2=1)):=by
    have e:(0:Int)=((0:Nat):Int):=rfl
    simp only[testB_a,bin2_a,clF_a,consX_a,va_a,shAt_0,cI_a,nilX_a,Option.bind_some]
    rw[e,hc0]
    simp only[valO_some,Option.bind_some,cc (show(0:Int)<2 by decide),jJ]
    rfl
  cases hd:decide (ns[0]?.getD 0%2=1)with
  |true=>
    rw[hd]at hT
    let⟨cs,l,hb,e⟩:=uq (ks:=[5]) (J:=jR (x1 (va 1))) (g:=gNm 5) (ft:=tQ) (fe:=bf pa (x2 (bf ce (x2 (va 0) (aa aC (cI 1) (aa aV (va 5) (cI 16))))) (aa c6 (va 5) (cI 16))))
      (Y:=[!(aA ns),!(.int (m:Int)),none,none,none,none,none]) (out:=D.int) (P:=λx:Int=>0<=x/\x<1000000000039) (d7 (by simp;exact aY (!1))) (λk hk=>by
        have hk':=Vw.mp hk
        have e1:(1+(k:Int)%16)=((1+k%16:Nat):Int):=by omega
        have e2:(k:Int)/16=((k/16:Nat):Int):=by omega
        let⟨v,hv1,hv2,ev⟩:=hp (ns[1+k%16]?.getD 0) (k/16) (!1)
        refine⟨v,⟨hv1,Int.lt_trans hv2 (!3)⟩,?_⟩
        simp only[stepF_a,wipe_cons,wipe_nil,gNm_a,set_cons_succ,set_cons_zero,Option.bind_some,tQ_a,if_true,clF_a,consX_a,va_a,shAt_0,shAt_s,shAt_1,bin2_a,cI_a,nilX_a,cc (show(0:Int)<16 by decide),cb (show(0:Int)<16 by decide) (!3),addD_ii,e1,e2,hc ns (1+k%16),valO_some,ev]) (by rw[length_range];exact Nat.lt_trans hm (!3))
    rw[length_range]at l
    refine⟨cs,l,hb,aj rfl ?_⟩
    rw[hs]
    refine aO ((ifS_t hT).trans (aO (bj (evX_lfs (d:=aA cs) ?_ rfl (e) (kM cs)))))
    simp only[vw_some,vw_none,vw_nil,lsF_a,e]
    rfl
  |false=>
    rw[hd]at hT
    have L1:=ja (J:=jX ag (va 0)) (tg:=dq 3) (F:=ab (av 2 (b8 (aa aV (aa aC (aa aC (aa aJ (va 2) (va 2)) (aa aJ (va 3) (cI 131))) (cI 17)) (cI 1000000000039)))) aH) (ds:=ns.map D.int)
     
      (λi Y=>∃v o,0<=v/\v<1000000000039/\Y=[!(.sh,aA ns),!(.sh,.int (m:Int)),!(.deep,.int v),o,none,none,none]) (by simp) ⟨7,none,by decide,by decide,rfl⟩ (by
        rintro i d Y hd ⟨v,o,h1,h2,rfl⟩
        rw[getElem?_map]at hd
        cases hq:ns[i]? with
        |none=>rw[hq]at hd;cases hd
        |some p=>
          rw[hq]at hd
          cases hd
          refine⟨_,ar (ca (evX_lf (d:=.int ((v*v+p*131+17)%1000000000039)) ?_ rfl)),⟨_,_,Int.emod_nonneg _ (!3),Int.emod_lt_of_pos _ (!3),rfl⟩⟩
          simp[wr h1 h2,ez (show(-1000000:Int)<131 by decide) (!3)]
          exact cc (!3))
    let⟨Y1,e1,v1,o1,g1,g2,rfl⟩:=L1
    have L2:=kL (J:=jR (x1 (va 1))) (s:=5) (F:=ab (av 2 (b8 (aa aV (aa aC (aa aC (aa aJ (va 2) (va 2)) (aa aJ (cI 977) (va 5))) (cI 3)) (cI 1000000000039)))) (ab (mH 4 2 (b8 (va 2)) (va 2)) aH))
     
      (λi Y=>∃v o,∃cs:U4,cs.length=i/\(∀x∈cs,0<=x/\x<1000000000039)/\0<=v/\v<1000000000039/\Y=[!(.sh,aA ns),!(.sh,.int (m:Int)),!(.deep,.int v),o1,!(.deep,aA cs),o,none]) (d7 (by simp;exact aY (!1))) ⟨v1,none,[],rfl,(λ_ h=>nomatch h),g1,g2,rfl⟩ (by
        rintro i Y hi ⟨v,o,cs,hl,hB,h1,h2,rfl⟩
        have hi':(i:Int)<1000000:=by omega
        have hi0:(-1000000:Int)<i:=by omega
        refine⟨_,(ar (ca (evX_lf (d:=.int ((v*v+977*i+3)%1000000000039)) ?_ rfl))).trans (ar (qv rfl (evX_lf rfl rfl) rfl (by rw[length_map,hl];exact Nat.lt_trans (show i+1<1001 by omega) (!3)))),
          ⟨(v*v+977*i+3)%1000000000039,!(.sh,.int i),cs++[(v*v+977*i+3)%1000000000039],by simp[hl],Gz hB (mdB _),Int.emod_nonneg _ (!3),Int.emod_lt_of_pos _ (!3),?_⟩⟩
        · simp[vw_o,wr h1 h2,ez hi0 hi']
          exact cc (!3)
        · simp only[aA,List.map_append];rfl)
    let⟨Y2,e2,v2,o2,cs2,l2,b2,_,_,rfl⟩:=L2
    have L3:=kL (J:=jR (x1 (cQ (va 0)))) (s:=5) (F:=ab (av 6 (b8 (aa aV (va 5) (va 1)))) (ab (ud 4 (va 6) (b8 (aa aV (aa aC (aa aJ (aa am (va 4) (va 6)) (cI 131)) (aa am (va 0) (va 5))) (cI 1000000000039))) (aa aV (aa aC (aa aJ (aa am (va 4) (va 6)) (cI 131)) (aa am (va 0) (va 5))) (cI 1000000000039))) aH))
     
      (λi Y=>∃o o6,∃cs:U4,cs.length=m/\(∀x∈cs,0<=x/\x<1000000000039)/\Y=[!(.sh,aA ns),!(.sh,.int (m:Int)),!(.deep,.int v2),o1,!(.deep,aA cs),o,o6]) (d7 (by simp;exact aY (!1))) ⟨o2,none,cs2,l2,b2,rfl⟩ (by
        rintro i Y hi ⟨o,o6,cs,hl,hB,rfl⟩
        have hm0:(0:Int)<m:=by omega
        have hk0:0<=(i:Int)%(m:Int):=Int.emod_nonneg _ (!1)
        have hk1:(i:Int)%(m:Int)<m:=Int.emod_lt_of_pos _ hm0
        let⟨x,ex⟩:=oG hk0 (by rw[hl];exact hk1)
        let⟨y,ey⟩:=oG (ns:=ns) (i:=(i:Int)) (!1) (!1)
        refine⟨_,(ar (ca (evX_lf (by simp;exact cc hm0) rfl))).trans (ar (zh (d:=.int ((x*131+y)%1000000000039)) (evX_lf ?_ rfl) rfl rfl hk0 (by rw[length_map,hl];exact hk1))),
          ⟨!(.sh,.int i),!(.deep,.int ((i:Int)%(m:Int))),cs.set ((i:Int)%(m:Int)).toNat ((x*131+y)%1000000000039),by simp[hl],GA hB (mdB _),?_⟩⟩
        · simp[vw_o,ex,ey,ez (show(-1000000:Int)<131 by decide) (!3)]
          exact cc (!3)
        · simp only[aA,List.map_set];rfl)
    let⟨Y3,e3,o3,o6,cs3,l3,b3,rfl⟩:=L3
    refine⟨cs3,l3,b3,aj rfl ?_⟩
    refine(ar ((eZ hT).trans rfl)).trans ((ar (ca (evX_lf rfl rfl))).trans ((ar e1).trans ((ar (ca (evX_lfs (d:=.lst []) (by simp) rfl (by simp) rfl))).trans ((ar e2).trans ((ar e3).trans (aO ?_))))))
    rfl
def GC(a b c:D):bJ (![a,b,c])=![a,b,c]:=fG (show 3<big by decide)
def GD(x:Int):∃b:Bool,am (.lst [.str "queue",.str "pile"]) (.int (x%2))=!(.str (kd b)):=by
 rcases(show x%2=0\/x%2=1 by omega)with h|h
 .exact⟨true,by rw[h];exact qu _ _⟩
 .exact⟨false,by rw[h];exact uf _ _ _⟩
def HL(a b c:Int){i:Nat}(hi:i<3)(h:(0<a/\a<1073741824)/\(0<b/\b<1073741824)/\(0<c/\c<1073741824)):∃d:Int,0<d/\d<1073741824/\am (.lst [.int a,.int b,.int c]) (.int (i:Int))=!(.int d):=by
 let⟨⟨a1,a2⟩,⟨b1,b2⟩,⟨c1,c2⟩⟩:=h;rcases(show i=0\/i=1\/i=2 by omega)with rfl|rfl|rfl
 .exact⟨a,a1,a2,dP (!3) rfl⟩
 .exact⟨b,b1,b2,dP (!3) rfl⟩
 .exact⟨c,c1,c2,dP (!3) rfl⟩
def GE(a b:Int):aK false (.int a) (.int b)=!(.bl (decide (a=b))):=by rw[jJ];rfl
def wH(b:Bool):qq [.bl b]=!(.int (if b then 1 else 0)):=rfl
def KZ(x y:Int)(b:Bool):am (.lst [.int x,.int y]) (.int (if b then 1 else 0))=!(.int (if b then y else x)):=by
 cases b
 .exact qu _ _
 .exact uf _ _ _
structure Pas(p:List Pk):Prop where
 lo:1<=p.length
 hi:p.length<=3
 w:∀k∈p,0<=k.2/\k.2<=9
def  K0(f:Fn):Prop:=∀c:Int,∃p:List Pk,Pas p/\f [.int c]=!(.deep,dH p)
def Oq:K0 (aI 1 5 iU):=λc=>by
 have hn:(1+c%3)=(((1+c%3).toNat:Nat):Int):=by omega
 have hn3:(1+c%3).toNat<=3/\1<=(1+c%3).toNat:=by omega
 generalize (1+c%3).toNat=n at hn hn3;have H:∃p:List Pk,iU [!(.sh,.int c),none,none,none,none]=!(.rt (.deep,dH p))/\Pas p:=by
  refine x_set (evX_lfs (d:=.lst []) (ds:=[]) (by simp) rfl (by simp) rfl) ?_;refine x_rng (n:=n) (v:=λi=>(i:Int)) (λi Y=>∃o2 o3 o4,∃p:List Pk,p.length=i/\(∀k∈p,0<=k.2/\k.2<=9)/\Y=[!_,!(.deep,.lst (p.map j9)),o2,o3,o4]) ?_ ⟨none,none,none,[],rfl,λ_ h=>(nomatch h),rfl⟩ ?_ ?_
  .refine d7 ?_;show(x1 _ [!(.int c),none,none,none,none]).bind jU=_;simp only[consX_a,nilX_a,bin2_a,cI_a,va_a,shAt_0,Option.bind_some,oH _ 3 (!3),addD_ii,hn];exact aY (!1)
  .rintro i Y hi ⟨o2,o3,o4,p,hl,hw,rfl⟩;let⟨d1,p1,p2,x1⟩:=HL 3 6 12 (i:=i) (!1) (!3);let⟨d2,q1,q2,x2⟩:=HL 96 960 9600 (i:=i) (!1) (!3);let⟨b,xb⟩:=GD (c/d1);have hwd:∀g:Bool,0<=(if g then c/d2%10 else 9)/\(if g then c/d2%10 else 9)<=9:=λg=>by cases g<;>simp<;>omega
   refine⟨_,q_set (evX_lf (d:=.str (kd b)) ?_ rfl) (q_set (evX_lf (d:=.int (if decide (c/24%4=0)then c/d2%10 else 9)) ?_ rfl) (q_st (appF_deep (d:=j9 (b,if decide (c/24%4=0)then c/d2%10 else 9)) rfl (evX_lf ?_ rfl) rfl (by rw[length_map,hl];exact Nat.lt_trans (show i+1<5 by omega) (!3))) rfl)),⟨!(.sh,.int (i:Int)),!(.deep,.str (kd b)),!(.deep,.int (if decide (c/24%4=0)then c/d2%10 else 9)),p++[(b,if decide (c/24%4=0)then c/d2%10 else 9)],by simp[hl],λk hk=>?_,?_⟩⟩
   .simp only[set_cons_succ,set_cons_zero,vw_o,map_some,bin2_a,lsF_a,dpF_a,consX_a,nilX_a,cS_a,cI_a,va_a,shAt_s,shAt_0,shAt_1,Option.bind_some,capL_2,GC,x1,cb p1 p2,oH _ 2 (!3),xb]
   .simp only[set_cons_succ,set_cons_zero,vw_o,map_some,bin2_a,lsF_a,dpF_a,consX_a,nilX_a,cS_a,cI_a,va_a,shAt_s,shAt_0,shAt_1,Option.bind_some,capL_2,GC,x2,cb q1 q2,cb (show(0:Int)<24 by decide) (!3),oH _ 10 (!3),oH _ 4 (!3),biF_a,GE,wH,KZ]
   .simp only[set_cons_succ,set_cons_zero,vw_o,map_some,iS,consX_a,nilX_a,va_a,shAt_s,shAt_0,shAt_1,Option.bind_some,capL_2];rfl
   .rcases mem_append.mp hk with z|z
    .exact hw k z
    .rw[mem_singleton.mp z];exact hwd _
   .simp only[List.map_append,set_cons_succ,set_cons_zero];rfl
  .rintro Y ⟨o2,o3,o4,p,hl,hw,rfl⟩;refine⟨p,q_ret (evX_lf ?_ (HB p)),⟨by omega,by omega,hw⟩⟩;rfl
 let⟨p,h1,h2⟩:=H;exact⟨p,h2,aj rfl h1⟩
def  K1(f:Fn):Prop:=∀(cs:U4)(t:Nat),t+4<cs.length->∃ps:UV,ps.length<=3/\(∀p∈ps,Pas p)/\f [aA cs,.int (t:Int)]=!(.deep,aq ps)
def Os(hp:K0 po):K1 (aI 2 3 (pL po)):=λcs t ht=>by
 have hs:aD 3 [aA cs,.int (t:Int)]=[!_,!(.sh,.int (t:Int)),none]:=rfl;let⟨x,ex⟩:=oG (ns:=cs) (i:=(t:Int)) (!1) (!1);let⟨m0,m1⟩:=md x (show(0:Int)<4 by decide);let⟨ps,hl,hP,e⟩:=uq (ks:=[2]) (J:=(jR (x1 (aa aV (aa am (va 0) (va 1)) (cI 4))))) (g:=gNm 2) (ft:=tQ) (fe:=(bf po (x1 (aa am (va 0) (aa aC (aa aC (va 1) (cI 1)) (va 2))))))
  (Y:=[!(aA cs),!(.int (t:Int)),none]) (out:=dH) (d7 (by
   simp only[consX_a,nilX_a,bin2_a,va_a,shAt_0,shAt_1,cI_a,Option.bind_some,ex,cc (show(0:Int)<4 by decide)];exact Ck m0 (!1))) (λk hk=>by
   have hk':=Vw.mp hk;let⟨y,ey⟩:=oG (ns:=cs) (i:=(t:Int)+1+(k:Int)) (!1) (!1);let⟨p,h1,h2⟩:=hp y;refine⟨p,h1,?_⟩;simp only[stepF_a,wipe_cons,wipe_nil,gNm_a,tQ_a,set_cons_succ,set_cons_zero,Option.bind_some,if_true,clF_a,consX_a,nilX_a,bin2_a,va_a,shAt_s,shAt_0,shAt_1,cI_a,addD_ii,ey,h2,valO_some]) (by rw[length_range];exact Nat.lt_trans (show(x%4).toNat<6 by omega) (!3))
 rw[length_range]at hl;refine⟨ps,by omega,hP,aj rfl ?_⟩;rw[hs];refine q_ret (evX_lf ?_ (J6 ps));simp only[vw_some,vw_none,vw_nil,biF_a,consX_a,nilX_a,lsF_a,e,map_some,Option.bind_some,Cd,Cc];rfl
def oX:∀ps:UV,(∀p∈ps,Pas p)->prod ps<=3^ps.length
 |[],_=>by simp[prod]
 |p::ps,h=>by
  have a:=(h p Vi).hi;have b:=oX ps λq hq=>h q (Vj _ hq);rw[show prod (p::ps)=p.length*prod ps from rfl,length_cons,Nat.pow_succ,Nat.mul_comm];exact Nat.mul_le_mul b a
def zA(hl:ps.length<=3)(h:∀p∈ps,Pas p):Valid ps:=by
 refine⟨by omega,λp hp=>?_,?_⟩
 .have q:=h p hp;unfold J8;rw[and_eq_true,and_eq_true,decide_eq_true_eq,decide_eq_true_eq,List.all_eq_true];refine⟨⟨q.lo,by have:=q.hi;omega⟩,λk hk=>?_⟩;have:=q.w k hk;unfold LA;rw[and_eq_true,decide_eq_true_eq,decide_eq_true_eq];omega
 .refine Vn (oX ps h) (Vn (Nat.pow_le_pow_right (!3) hl) (!3))
def  K2(f:Fn):Prop:=∀(cs:U4)(ps:UV)(a n:Nat),a+n<=cs.length->n<1000->Valid ps->∃ls:List Lz,ls.length=n/\(∀l∈ls,LzOk ps l)/\f [aA cs,.int (a:Int),.int (n:Int),aq ps]=!(.deep,az ls)
def Ot:K2 (aI 4 8 iV):=λcs ps a n ha hn hv=>by
 have yl:seqD (aq ps)=!_:=rfl;have H:∃ls:List Lz,iV [!(.sh,aA cs),!(.sh,.int (a:Int)),!(.sh,.int (n:Int)),!(.sh,aq ps),none,none,none,none]=!(.rt (.deep,az ls))/\(ls.length=n/\∀l∈ls,LzOk ps l):=by
  refine x_set (evX_lfs (d:=.lst []) (ds:=[]) (by simp) rfl (by simp) rfl) ?_;refine x_rng (n:=n) (v:=λi=>(i:Int)) (λi Y=>∃o5 o6 o7,∃ls:List Lz,ls.length=i/\(∀l∈ls,LzOk ps l)/\Y=[!_,!(.sh,.int (a:Int)),!(.sh,.int (n:Int)),!_,!(.deep,az ls),o5,o6,o7]) ?_ ⟨none,none,none,[],rfl,λ_ h=>(nomatch h),rfl⟩ ?_ ?_
  .refine d7 ?_;exact aY (!1)
  .rintro i Y hi ⟨o5,o6,o7,ls,hl,hok,rfl⟩;let⟨x,ex⟩:=oG (ns:=cs) (i:=(a:Int)+(i:Int)) (!1) (!1);have hlen:(0:Int)<(ps.length:Int)+1:=by omega
   have ml:=md (x/12) hlen;obtain⟨t,ht,ht2⟩:∃t:Nat,(if decide (x/3%4=0)then x/12%((ps.length:Int)+1)else 0)=(t:Int)/\t<=ps.length:=by
    cases decide (x/3%4=0)with
    |true=>exact⟨(x/12%((ps.length:Int)+1)).toNat,by simp;omega,by omega⟩
    |false=>exact⟨0,rfl,Nat.zero_le _⟩
   refine⟨_,q_set (evX_lf (d:=.int x) ?_ rfl) (q_set (evX_lf (d:=.int (t:Int)) ?_ rfl) (q_st (appF_deep (d:=ya (1+x%3,t)) rfl (evX_lf ?_ rfl) rfl (by rw[length_map,hl];exact Nat.lt_trans (show i+1<1001 by omega) (!3))) rfl)),⟨!(.sh,.int (i:Int)),!(.deep,.int x),!(.deep,.int (t:Int)),ls++[(1+x%3,t)],by simp[hl],λl hm=>?_,?_⟩⟩
   .simp only[set_cons_succ,set_cons_zero,vw_o,map_some,bin2_a,va_a,shAt_s,shAt_0,shAt_1,Option.bind_some,addD_ii,ex]
   .simp only[set_cons_succ,set_cons_zero,vw_o,map_some,bin2_a,lsF_a,dpF_a,consX_a,nilX_a,cI_a,va_a,shAt_s,shAt_0,shAt_1,Option.bind_some,capL_2,cb (show(0:Int)<12 by decide) (!3),cb (show(0:Int)<3 by decide) (!3),oH _ 4 (!3),biF_a,bb,yl,length_map,addD_ii,cc hlen,GE,wH,KZ,ht]
   .simp only[set_cons_succ,set_cons_zero,vw_o,map_some,bin2_a,iS,consX_a,nilX_a,cI_a,va_a,shAt_s,shAt_0,shAt_1,Option.bind_some,oH _ 3 (!3),addD_ii,capL_2];rfl
   .rcases mem_append.mp hm with z|z
    .exact hok l z
    .rw[mem_singleton.mp z];exact⟨by show 1<=1+x%3;omega,by show 1+x%3<=9;omega,ht2⟩
   .simp only[az,List.map_append,set_cons_succ,set_cons_zero];rfl
  .rintro Y ⟨o5,o6,o7,ls,hl,hok,rfl⟩;exact⟨ls,rfl,hl,hok⟩
 let⟨ls,h1,h2,h3⟩:=H;exact⟨ls,h2,h3,aj rfl h1⟩
def GF(x:Int):∃d:Int,0<d/\d<=TT+1/\am (.lst [.int 4,.int 10,.int 1000000,.int (TT+1)]) (.int (x%4))=!(.int d):=by
 have hT:(1000000:Int)<=TT:=by unfold TT;decide
 rcases(show x%4=0\/x%4=1\/x%4=2\/x%4=3 by omega)with h|h|h|h<;>rw[h]
 .exact⟨4,by decide,by omega,dP (!3) rfl⟩
 .exact⟨10,by decide,by omega,dP (!3) rfl⟩
 .exact⟨1000000,by decide,by omega,dP (!3) rfl⟩
 .exact⟨TT+1,by omega,by omega,dP (!3) rfl⟩
def Dl{i:Int}(hb:Bn cs)(h:0<=i)(h2:i<cs.length):∃v,0<=v/\v<1000000000039/\am (aA cs) (.int i)=!(.int v):=by
 have hl:i.toNat<cs.length:=by omega
 have e:am (aA cs) (.int i)=!_:=dP h (by rw[getElem?_map,getElem?_eq_getElem hl];rfl);exact⟨_,(hb _ (List.getElem_mem hl)).1,(hb _ (List.getElem_mem hl)).2,e⟩
def zB{ps:UV}(hp:ps[i]?=!p)(ok:PrOk (ps.take i) rs)(hr:row.length=p.length/\∀x∈row,0<=x/\x<=TT):PrOk (ps.take (i+1)) (rs++[row]):=by
 have e:ps.take (i+1)=ps.take i++[p]:=by rw[List.take_add_one,hp];rfl
 rw[e];refine⟨by rw[length_append,length_append,ok.len];rfl,λq hq=>?_⟩;rw[List.zip_append ok.len.symm]at hq;rcases mem_append.mp hq with z|z
 .exact ok.each q z
 .rw[mem_singleton.mp z];exact hr
def  sr(f:Fn):Prop:=∀(cs:U4)(ps:UV)(a:Nat),Bn cs->a+12<=cs.length->a<1000->ps.length<=3->(∀p∈ps,Pas p)->∃(c:Cat)(rs:List (U4)),c=(if ps.length=0 then .deep else .top)/\PrOk ps rs/\f [aA cs,.int (a:Int),aq ps]=!(c,cg rs)
def Dm:sr (aI 3 8 jN):=λcs ps a hB ha ha2 hl3 hP=>by
 have yl:seqD (aq ps)=!_:=rfl;have H:∃rs:List (U4),jN [!(.sh,aA cs),!(.sh,.int (a:Int)),!(.sh,aq ps),none,none,none,none,none]=!(.rt (if ps.length=0 then .deep else .top,cg rs))/\PrOk ps rs:=by
  refine x_set (evX_lfs (d:=.lst []) (ds:=[]) (by simp) rfl (by simp) rfl) ?_;refine x_rng (n:=ps.length) (v:=λi=>(i:Int)) (λi Y=>∃o4 o5 o6 o7,∃rs:List _,PrOk (ps.take i) rs/\Y=[!_,!(.sh,.int (a:Int)),!_,!(if i=0 then .deep else .top,cg rs),o4,o5,o6,o7]) ?_ ⟨none,none,none,none,[],⟨by simp,λq h=>by simp at h⟩,rfl⟩ ?_ ?_
  .refine d7 ?_;show(x1 _ [!(aA cs),!(.int (a:Int)),!(aq ps),_,none,none,none,none]).bind jU=_;simp only[consX_a,nilX_a,biF_a,va_a,shAt_s,shAt_0,shAt_1,Option.bind_some,bb,yl,length_map];exact aY (!1)
  .rintro i Y hi ⟨o4,o5,o6,o7,rs,ok,rfl⟩;have hp:=getElem?_eq_getElem hi;have hpP:=hP _ (List.getElem_mem hi);generalize ps[i]=p at hp hpP;have h3:=hpP.hi;have f1:am (aq ps) (.int (i:Int))=!(dH p):=aU hp;have yp:seqD (dH p)=!_:=rfl;let⟨y,_,_,ey⟩:=Dl (i:=(a:Int)+(i:Int)) hB (!1) (!1);let⟨d,d0,d1,ed⟩:=GF y;have hrl:rs.length=i:=by rw[ok.len,List.length_take];omega
   refine x_set (evX_lfs (d:=.lst []) (ds:=[]) (by simp) rfl (by simp) rfl) ?_;refine x_rng (n:=p.length) (v:=λj=>(j:Int)) (λj Y=>∃o6 o7,∃row:U4,row.length=j/\(∀x∈row,0<=x/\x<=TT)/\Y=[!_,!(.sh,.int (a:Int)),!_,!_,!(.sh,.int (i:Int)),!(.deep,aA row),o6,o7]) ?_ ⟨o6,o7,[],rfl,λ_ h=>(nomatch h),rfl⟩ ?_ ?_
   .refine d7 ?_;simp only[set_cons_succ,set_cons_zero,CJ,consX_a,nilX_a,biF_a,bin2_a,va_a,shAt_s,shAt_0,shAt_1];show((((am (aq ps) (.int (i:Int))).bind λd=>![d]).bind dM).bind λd=>![d]).bind jU=_;simp only[f1,Option.bind_some,bb,yp,length_map];exact aY (!1)
   .rintro j Y hj ⟨o6,o7,row,hrow,hx,rfl⟩;have m3:aJ (.int 3) (.int (i:Int))=!(.int (3*(i:Int))):=ez (!1) (!1);let⟨v,v0,v1,ev⟩:=Dl (i:=(a:Int)+3+3*(i:Int)+(j:Int)) hB (!1) (!1);have mm:=wr (j:=v) v0 v1;have mc:aJ (.int (v*v)) (.int v)=!(.int _):=Ce (!1) (!1);refine x_set (evX_lf (d:=.int v) ?_ rfl) ?_
    .simp only[set_cons_succ,set_cons_zero,vw_o,map_some,bin2_a,cI_a,va_a,shAt_s,shAt_0,shAt_1,Option.bind_some,addD_ii,m3,ev]
    refine wv (b:=decide (y%4=3)) ?_ ?_
    .simp only[set_cons_succ,set_cons_zero,vw_o,map_some,testB_a,bin2_a,cI_a,va_a,shAt_s,shAt_0,shAt_1,Option.bind_some,addD_ii,ey,oH _ 4 (!3),GE,asB_bl]
    obtain⟨u,eu⟩:∃u:Int,(if decide (y%4=3)then ab (av 7 (b8 (aa aJ (aa aJ (va 7) (va 7)) (va 7)))) aH [!(.sh,aA cs),!(.sh,.int (a:Int)),!(.sh,aq ps),!(if i=0 then .deep else .top,cg rs),!(.sh,.int (i:Int)),!(.deep,aA row),!(.sh,.int (j:Int)),!(.deep,.int v)]else aH [!(.sh,aA cs),!(.sh,.int (a:Int)),!(.sh,aq ps),!(if i=0 then .deep else .top,cg rs),!(.sh,.int (i:Int)),!(.deep,aA row),!(.sh,.int (j:Int)),!(.deep,.int v)])
      =!(.nx [!_,!(.sh,.int (a:Int)),!_,!_,!(.sh,.int (i:Int)),!_,!(.sh,.int (j:Int)),!(.deep,.int u)]):=by
     cases decide (y%4=3)with
     |true=>
      refine⟨v*v*v,q_set (evX_lf ?_ rfl) rfl⟩;simp only[vw_o,map_some,bin2_a,va_a,shAt_s,shAt_0,shAt_1,Option.bind_some,mm,mc]
     |false=>exact⟨v,rfl⟩
    refine⟨_,eu,_,q_st (appF_deep (d:=.int (u%d)) rfl (evX_lf ?_ rfl) rfl (by rw[length_map,hrow];exact Nat.lt_trans (show j+1<5 by omega) (!3))) rfl,⟨!(.sh,.int (j:Int)),!(.deep,.int u),row++[u%d],by simp[hrow],λx hm=>?_,?_⟩⟩
    .simp only[vw_o,map_some,bin2_a,lsF_a,dpF_a,consX_a,nilX_a,cI_a,va_a,shAt_s,shAt_0,shAt_1,Option.bind_some,addD_ii,S4,Km,ey,oH _ 4 (!3),ed,cc d0]
    .rcases mem_append.mp hm with z|z
     .exact hx x z
     .rw[mem_singleton.mp z];have:=md u d0;omega
    .simp only[aA,List.map_append];rfl
   .rintro Y ⟨o6,o7,row,hrow,hx,rfl⟩;refine N2 (oV (d:=aA row) (ds:=rs.map aA) (ds0:=rs.map aA) (c:=if i=0 then .deep else .top) (c0:=if i=0 then .deep else .top) ?_ ?_ ?_ ?_ (by rw[length_map,hrl];exact Nat.lt_trans (show i+1<5 by omega) (!3))) ⟨!(.sh,.int (i:Int)),!(.sh,aA row),o6,o7,rs++[row],zB hp ok ⟨hrow,hx⟩,?_⟩
    .exact rQ (evX_fz (d:=aA row) (by simp[vw_o]) rfl rfl rfl rfl (by simp[aA,CJ,IV])) rfl
    .by_cases z:i=0<;>simp only[z,if_true,if_false]<;>rfl
    .rfl
    .by_cases z:i=0<;>simp only[z,if_true,if_false]<;>rfl
    .rw[if_neg (Nat.succ_ne_zero i)];simp only[cg,List.map_append];rfl
  .rintro Y ⟨o4,o5,o6,o7,rs,ok,rfl⟩;rw[List.take_length]at ok;refine⟨rs,?_,ok⟩;by_cases z:ps.length=0<;>simp only[z,if_true,if_false]<;>rfl
 let⟨rs,h1,h2⟩:=H;exact⟨_,rs,rfl,h2,aj rfl h1⟩
end K16
namespace K16
open PySem PySem.Spec PyProof.Rows L2
def  jO:US:=(ab (av 3 sE) (ab (iQ (jR (x1 (va 2))) (dq 4) (ab (Bw 3 (aa aV (aa c6 (aa am (va 0) (aa aC (va 1) (va 4))) (cI 60)) (aa aC (va 4) (cI 1))) (va 4)) aH)) (ab (av 5 sE) (ab (av 4 (b8 (cI 0))) (ab (Lv (al (aa nI (va 4) (va 2))) (ab (av 6 (b8 (aa am (a6 (fV (x3 (cS "row") (cS "come") (cS "any")))) (aa aV (aa am (va 0) (aa aC (va 1) (va 4))) (cI 3))))) (ab (av 7 (bi (iO (va 3) (aR (va 4)) (aR (aa aC (aa aC (va 4) (cI 1)) (aa aV (aa c6 (aa am (va 0) (aa aC (va 1) (va 4))) (cI 3)) (cI 4))))) (mC (va 3) (aR (va 4)) (aR (aa aC (aa aC (va 4) (cI 1)) (aa aV (aa c6 (aa am (va 0) (aa aC (va 1) (va 4))) (cI 3)) (cI 4))))) ag)) (ab (eV (al (aa (aK false) (va 6) (cS "any"))) (ab (av 7 (bi (iO (va 7) lj (aR (cI 1))) (mC (va 7) lj (aR (cI 1))) ag)) aH) aH) (ab (mH 5 7 (bi (cu (x2 (va 6) (va 7))) ag (uS (x2 (frX (va 6) ag ag) (frX (va 7) ag ag)))) (cu (x2 (va 6) (va 7)))) (ab (av 4 (bi (aa aC (va 4) (cQ (va 7))) (nW (va 4) (cQ (va 7))) ag)) aH)))))) (ab (we 5) aH))))))
def GG(h0:ownL Y i=!(.deep,ds))(hk:fk (c9 Y)=!(.int (k:Int)))(hkl:k<=ds.length)(hd:R (c9 Y)=!d)(lf:lfD d=true)(hl:ds.length+1<big):
  Bw i fk R Y=!(.nx (Y.set i (!(.deep,.lst (jn k ds d))))):=by
 have e:Fl ds.length (.int (k:Int))=!k:=by
  show(if 0<=(k:Int)/\(k:Int)<=(ds.length:Int)then some (k:Int).toNat else none)=_;rw[if_pos ⟨by omega,by omega⟩,Int.toNat_natCast]
 unfold Bw
 simp only[h0,Option.bind_some,hk,e,hd,sC,lf]
 show(if ds.length+1<big then _ else _)=_
 rw[if_pos hl]
 rfl
def GH(f:α->β)(k:Nat)(l:List α)(x:α):jn k (l.map f) (f x)=(jn k l x).map f:=by
 unfold jn;rw[List.map_append,List.map_cons,List.map_take,List.map_drop]
def Dn(k:Nat)(l:List α)(x:α):(jn k l x).Perm (l++[x]):=by
 refine List.perm_middle.trans ?_;rw[List.take_append_drop];exact(List.perm_append_singleton x l).symm
def HM(I:Nat->Ev->Prop)(hs:∀q Y,I (q+1) Y->c (vw Y)=!true/\∃Y',F Y=!(.nx Y')/\∃q',q'<=q/\I q' Y')(he:∀Y,I 0 Y->c (vw Y)=!false):∀(n m:Nat)(Y:Ev),m<n->I m Y->∃Y',Fs c F n Y=!(.nx Y')/\I 0 Y'
 |0,m,Y,h,_=>absurd h (Nat.not_lt_zero _)
 |n+1,0,Y,_,i=>⟨Y,by
   show(c (vw Y)).bind _=_;rw[he Y i];rfl,i⟩
 |n+1,m+1,Y,h,i=>by
  let⟨h1,Y1,h2,q,hq,i1⟩:=hs m Y i;let⟨Y',e,i2⟩:=HM I hs he n q Y1 (!1) i1;refine⟨Y',?_,i2⟩;show(c (vw Y)).bind _=_;rw[h1,Option.bind_some,if_pos rfl,h2];exact e
def x_wm{α:Type}{out:α->Option Out}{P:α->Prop}(I:Nat->Ev->Prop)(m:Nat)(hm:m<400)(h0:I m Y)(hs:∀q Y,I (q+1) Y->c (vw Y)=!true/\∃Y',F Y=!(.nx Y')/\∃q',q'<=q/\I q' Y')(he:∀Y,I 0 Y->c (vw Y)=!false)(k:∀Y',I 0 Y'->∃a,G Y'=out a/\P a):∃a,ab (Lv c F) G Y=out a/\P a:=by
 let⟨Y',e,i⟩:=HM I hs he 400 m Y hm h0;exact kP (e) (k Y' i)
def Ou(x:Int):∃j:Nat,j<3/\am (.lst [.str "row",.str "come",.str "any"]) (.int (x%3))=!(.str (kdS j)):=by
 rcases(show x%3=0\/x%3=1\/x%3=2 by omega)with h|h|h<;>rw[h]
 .exact⟨2,by decide,rfl⟩
 .exact⟨1,by decide,rfl⟩
 .exact⟨0,by decide,rfl⟩
def K3(h:j<3):decide (kdS j=("any":Str))=decide (j=0):=by
 rcases(show j=0\/j=1\/j=2 by omega)with rfl|rfl|rfl<;>decide
def HN{β:Type}(xs:List β)(f:β->D)(a b:Nat)(ha:a<=xs.length):cutD (xs.map f) (!(a:Int)) (!(b:Int))=((xs.drop a).take (min b xs.length-a)).map f:=by
 unfold L2.cutD;rw[HT.sIx_nat,HT.sIx_nat,length_map,Nat.min_eq_left ha,<-List.map_drop,<-List.map_take]
def Do{lo hi}{l h:Va}(e:a Y=!(.lst ds))(e1:lo Y=!l)(e2:hi Y=!h):mC a lo hi Y=!(cutD ds l h):=by
 unfold mC;simp[e,e1,e2]
abbrev sQ(cs:U4)(a m:Nat)(r:U2)(k:Nat)(c5:Cat)(gs:List Gr)(o6 o7:UX):Ev:=[sn (aA cs),sn (iN a),sn (iN m),dp (rowD r),dp (iN k),!(c5,fw gs),o6,o7]
def  wI(gs:List Gr):Prop:=∀g∈gs,g.1=0->g.2.length=1
def  K4(f:Fn):Prop:=∀(cs:U4)(a m:Nat),a+m<=cs.length->a<1000->m<=24->∃c gs,c≠Cat.sh/\Good m gs/\wI gs/\f [aA cs,iN a,iN m]=!(c,fw gs)
def Ov:K4 (aI 3 8 jO):=λcs a m ha ha2 hm=>by
 suffices h:∃z:Cat×List Gr,jO [sn _,sn (iN a),sn (iN m),none,none,none,none,none]=!(.rt (z.1,fw z.2))/\z.1≠Cat.sh/\Good m z.2/\wI z.2 by
  let⟨⟨c,gs⟩,h1,h2,h3,h4⟩:=h;exact⟨c,gs,h2,h3,h4,aj rfl h1⟩
 refine x_set (evX_lfs rfl rfl rfl rfl) (x_rng (λi Y=>∃o4,∃r:U2,r.Perm (List.range i)/\Y=[sn _,sn (iN a),sn (iN m),dp (rowD r),o4,none,none,none]) (d7 (aY (!1))) ⟨none,[],.refl _,rfl⟩ ?_ ?_)
 .rintro i Y hi ⟨o4,r,pm,rfl⟩;have hl:r.length=i:=by rw[pm.length_eq,length_range]
  let⟨y,ey⟩:=oG (ns:=cs) (i:=(a:Int)+(i:Int)) (!1) (!1);have h0:(0:Int)<(i:Int)+1:=by omega
  let⟨m0,m1⟩:=md (y/60) h0;have hk:y/60%((i:Int)+1)=(((y/60%((i:Int)+1)).toNat:Nat):Int):=by omega
  have hk2:(y/60%((i:Int)+1)).toNat<=i:=by omega
  generalize (y/60%((i:Int)+1)).toNat=k at hk hk2;refine⟨_,q_st (GG (k:=k) rfl ?_ (by rw[length_map];omega) rfl rfl (by rw[length_map,hl];exact Nat.lt_trans (show i+1<26 by omega) (!3))) rfl,⟨sn (iN i),jn k r i,?_,?_⟩⟩
  .show aa aV (aa c6 (aa am (va 0) (aa aC (va 1) (va 4))) (cI 60)) (aa aC (va 4) (cI 1)) [!(aA cs),!(iN a),!(iN m),none,!(iN i),none,none,none]=_;simp only[bin2_a,va_a,shAt_s,shAt_0,shAt_1,cI_a,Option.bind_some,addD_ii,ey,cb (show(0:Int)<60 by decide) (!3),cc h0,hk]
  .refine(Dn k r i).trans ?_;rw[List.range_succ];exact pm.append_right _
  .rw[GH];rfl
 .rintro Y ⟨o4,r,pm,rfl⟩;have hl:r.length=m:=by rw[pm.length_eq,length_range]
  refine x_set (evX_lfs rfl rfl rfl rfl) (x_set (evX_lf rfl rfl) (x_wm (λq Y=>∃k gs c5 o6 o7,k+q=m/\bP gs=r.take k/\(∀g∈gs,g.2≠[]/\g.1<3/\(g.1=0->g.2.length=1))/\gs.length<=k/\c5≠Cat.sh/\Y=sQ cs a m r k c5 gs o6 o7) m (!1) ⟨0,[],.deep,none,none,by omega,rfl,λ_ h=>(nomatch h),Vy _,by decide,rfl⟩ ?_ ?_ ?_))
  .rintro q Y ⟨k,gs,c5,o6,o7,hkq,hf,hg,hgl,hc5,rfl⟩;have hkm:(k:Int)<(m:Int):=by omega
   refine⟨?_,?_⟩
   .show al (aa nI (va 4) (va 2)) [!(aA cs),!(iN a),!(iN m),_,!(iN k),_,_,_]=_;show((nI (.int (k:Int)) (.int (m:Int))).bind D.asB)=_;rw[show nI (.int (k:Int)) (.int (m:Int))=some (.bl (decide ((k:Int)<(m:Int))))from rfl,decide_eq_true hkm];rfl
   .let⟨x,ex⟩:=oG (ns:=cs) (i:=(a:Int)+(k:Int)) (!1) (!1);let⟨j,hj,ej⟩:=Ou x;obtain⟨w,hw,hw4⟩:∃w:Nat,x/3%4=(w:Int)/\w<4:=⟨(x/3%4).toNat,by omega,by omega⟩;obtain⟨p1,hp1⟩:∃p1,p1=(r.drop k).take (min (k+1+w) r.length-k):=⟨_,rfl⟩;obtain⟨n,p,hp,hn1,hnm,hpj,hpn⟩:∃(n:Nat)(p:U2),p=(if decide (j=0)then p1.take 1 else p1)/\1<=n/\k+n<=m/\(j=0->n=1)/\p=(r.drop k).take n:=by
     by_cases z:j=0
     .exact⟨1,p1.take 1,by rw[decide_eq_true z];rfl,by omega,by omega,λ_=>rfl,by rw[hp1,List.take_take,show min 1 (min (k+1+w) r.length-k)=1 by omega]⟩
     .exact⟨min _ r.length-k,p1,by rw[decide_eq_false z];rfl,by omega,by omega,λh=>absurd h z,hp1⟩
    have hpl:p.length=n:=by rw[hpn,List.length_take,List.length_drop];omega
    have hE:aR (aa aC (aa aC (va 4) (cI 1)) (aa aV (aa c6 (aa am (va 0) (aa aC (va 1) (va 4))) (cI 3)) (cI 4))) [!(aA cs),!(iN a),!(iN m),!(rowD r),!(iN k),!(fw gs),!(.str (kdS j)),o7.map (·.2)]=!(!((k+1+w:Nat):Int)):=by
     unfold aR;simp only[bin2_a,va_a,shAt_s,shAt_0,shAt_1,cI_a,Option.bind_some,addD_ii,ex,cb (show(0:Int)<3 by decide) (!3),oH _ 4 (!3),hw];congr 2
    refine x_set (evX_lf (d:=.str (kdS j)) ?_ rfl) (x_set (evX_lfs (d:=rowD p1) ?_ rfl ?_ (wy p1)) (wv (b:=decide (j=0)) ?_ ?_))
    .show aa am (a6 (fV (x3 (cS "row") (cS "come") (cS "any")))) (aa aV (aa am (va 0) (aa aC (va 1) (va 4))) (cI 3)) [!(aA cs),!(iN a),!(iN m),_,!(iN k),_,_,_]=_;simp only[bin2_a,lsF_a,dpF_a,CK,consX_a,nilX_a,cS_a,cI_a,va_a,shAt_s,shAt_0,shAt_1,Option.bind_some,GC,map_some,addD_ii,ex,oH _ 3 (!3),ej]
    .show iO (va 3) (aR (va 4)) _ [!(aA cs),!(iN a),!(iN m),!(rowD r),!(iN k),_,_,_]=_;rw[C9 rfl rfl ?_,HN _ _ _ _ (!1),<-hp1]
     .rfl
     .exact hE
    .show mC (va 3) (aR (va 4)) _ [!(aA cs),!(iN a),!(iN m),!(rowD r),!(iN k),_,_,_]=_;rw[Do rfl rfl ?_,HN _ _ _ _ (!1),<-hp1];exact hE
    .show al (aa (aK false) (va 6) (cS "any")) [!(aA cs),!(iN a),!(iN m),!(rowD r),!(iN k),_,!(.str (kdS j)),!(rowD p1)]=_;simp only[testB_a,bin2_a,va_a,shAt_s,shAt_0,shAt_1,cS_a,Option.bind_some,xM,asB_bl];rw[<-K3 hj];rfl
    .have br:(if decide (j=0)then ab (av 7 (bi (iO (va 7) lj (aR (cI 1))) (mC (va 7) lj (aR (cI 1))) ag)) aH (sQ cs a m r k c5 gs (dp (.str (kdS j))) (dp (rowD p1)))else aH (sQ cs a m r k c5 gs (dp (.str (kdS j))) (dp (rowD p1))))=!(.nx (sQ cs a m r k c5 gs (dp (.str (kdS j))) (dp (rowD p)))):=by
      rw[hp];cases decide (j=0)with
      |false=>rfl
      |true=>
       refine(ar (ca (evX_lfs (d:=rowD (p1.take 1)) (ds:=(p1.take 1).map λ(i:Nat)=>D.int (i:Int)) ?_ rfl ?_ (wy _)))).trans rfl
       .show iO (va 7) _ _ [!(aA cs),!(iN a),!(iN m),!(rowD r),!(iN k),_,!(.str (kdS j)),!(rowD p1)]=_;rw[C9 (h:=!((1:Nat):Int)) rfl rfl rfl,kJ];rfl
       .show mC (va 7) _ _ [!(aA cs),!(iN a),!(iN m),!(rowD r),!(iN k),_,!(.str (kdS j)),!(rowD p1)]=_;rw[Do (h:=!((1:Nat):Int)) rfl rfl rfl,kJ]
     have est:List.set (frzS [7] (sQ cs a m r k c5 gs (dp (.str (kdS j))) (dp (rowD p)))) 5 (!(.top,.lst (gs.map rV++[rV (j,p)])))=sQ cs a m r k .top (gs++[(j,p)]) (dp (.str (kdS j))) (sn (rowD p)):=by
      show _=[_,_,_,_,_,!(Cat.top,D.lst ((gs++[(j,p)]).map rV)),_,_];rw[List.map_append];rfl
     refine⟨_,br,kP (oV (d:=rV (j,p)) (ds:=gs.map rV) (ds0:=gs.map rV) (c:=c5) (c0:=c5) ?_ ?_ rfl ?_ ?_) ?_⟩
     .refine rQ (evX_fz rfl rfl rfl rfl rfl rfl) ?_;cases c5<;>rfl
     .cases c5 with
      |sh=>exact absurd rfl hc5
      |_=>rfl
     .cases c5 with
      |sh=>exact absurd rfl hc5
      |_=>rfl
     .rw[length_map];exact Vm (show gs.length+1<=30 by omega) (!3)
     rw[est];refine x_set (evX_lf ?_ rfl) (x_end ⟨m-(k+n),by omega,k+n,gs++[(j,p)],.top,_,_,by omega,?_,?_,?_,by decide,rfl⟩)
     .show aC (iN k) (.int ((p.map λ(i:Nat)=>D.int (i:Int)).length:Int))=_;rw[length_map,hpl];show some (D.int ((k:Int)+(n:Int)))=!(D.int ((k+n:Nat):Int));rw[Int.natCast_add]
     .unfold bP;rw[List.flatMap_append,List.take_add,<-hpn];show bP gs++_=_;rw[hf];simp
     .intro g h;rcases mem_append.mp h with h|h
      .exact hg g h
      .rw[mem_singleton.mp h];exact⟨λe=>by have e':p=[]:=e;rw[e']at hpl;simp at hpl;omega,hj,λe=>by show p.length=1;rw[hpl];exact hpj e⟩
     .rw[length_append,List.length_singleton];omega
  .rintro Y ⟨k,gs,c5,o6,o7,hkq,hf,hg,hgl,hc5,rfl⟩;show((nI (.int (k:Int)) (.int (m:Int))).bind D.asB)=_;rw[show nI (.int (k:Int)) (.int (m:Int))=some (.bl (decide ((k:Int)<(m:Int))))from rfl,decide_eq_false (!1)];rfl
  .rintro Y ⟨k,gs,c5,o6,o7,hkq,hf,hg,hgl,hc5,rfl⟩;refine⟨(c5,gs),rfl,hc5,⟨?_,λg h=>(hg g h).1,λg h=>(hg g h).2.1,hm⟩,λg h=>(hg g h).2.2⟩;rw[hf,List.take_of_length_le (!1)];exact pm
end K16
namespace K16
open PySem PySem.Spec PyProof.Rows L2
def  ss:US:=(ab (av 2 sE) (ab (iQ (jX ag (va 0)) (zE 2 (cz (dq 3) (cz (dq 4) mF))) (ab (eV (al (aa (aK false) (va 3) (cS "come"))) (ab (lB 2 (a6 (af [5] (jX ag (DH (x1 (a6 (af [6] (jX ag (va 4)) (gNm 6) tQ (cu (x2 (aa am (aa am (va 1) (va 6)) (cI 1)) (va 6)))))) (wb (x1 (a6 (af [6] (jX ag (va 4)) (gNm 6) tQ (cu (x2 (aa am (aa am (va 1) (va 6)) (cI 1)) (va 6))))))))) (gNm 5) tQ (aa am (va 5) (cI 1))))) aH) (ab (lB 2 (va 4)) aH)) aH)) (ab (we 2) aH)))
def  jr(ls:oK)(g:Gr):U4:=if g.1=1 then gy ls (bZ g.2)else bZ g.2
def  ordI(ls:oK)(gs:List Gr):U4:=gs.flatMap (jr ls)
def qJ(h:bO ls)(g:Gr):(jr ls g).Perm (bZ g.2):=by
 unfold jr;by_cases z:g.1=1
 .rw[if_pos z];exact jd h _
 .rw[if_neg z]
def lI(h:bO ls):∀gs:List Gr,(ordI ls gs).Perm (bZ (bP gs))
 |[]=>.refl _
 |g::gs=>by
  show(jr ls g++ordI ls gs).Perm (bZ (g.2++bP gs));unfold bZ;rw[List.map_append];exact(qJ h g).append (lI h gs)
def GI(h:j<3):decide (kdS j=("come":Str))=decide (j=1):=by
 rcases(show j=0\/j=1\/j=2 by omega)with rfl|rfl|rfl<;>decide
def Ow{k:Nat}(h:ls[k]?=!l):dQ (ltz ls) (k:Int)=(l.2:Int):=by
 unfold dQ ltz;rw[Int.toNat_natCast,List.getD_eq_getElem?_getD,getElem?_map,h];rfl
abbrev P2(gs:List Gr)(ls:List Lz)(os:U4)(o3 o4:UX):Ev:=[sn (fw gs),sn (az ls),dp (aA os),o3,o4,none,none]
def  Dp(f:Fn):Prop:=∀ls gs,bO (ltz ls)->ls.length<=24->Good ls.length gs->f [fw gs,az ls]=dp (aA (ordI (ltz ls) gs))
def K5:Dp (aI 2 7 ss):=λls gs hL h24 hG=>by
 have hfl:(bP gs).length=ls.length:=by rw[hG.pm.length_eq,length_range]
 have hle:∀i,(ordI (ltz ls) (gs.take i)).length<=24:=λi=>by
  rw[(lI hL _).length_eq];have e:bP gs=bP (gs.take i)++bP (gs.drop i):=by unfold bP;rw[<-List.flatMap_append,List.take_append_drop]
  have e2:=congrArg List.length e;rw[length_append]at e2;unfold bZ;rw[length_map];omega
 refine aj rfl ?_;refine q_set (evX_lfs rfl rfl rfl rfl) (q_forB (λi Y=>∃o3 o4,Y=P2 gs ls (ordI (ltz ls) (gs.take i)) o3 o4) rfl ⟨none,none,rfl⟩ ?_ ?_)
 .rintro i g Y hg ⟨o3,o4,rfl⟩;have hgm:=Vx hg;have hk3:=hG.kd g hgm;have hin:∀a∈g.2,a<ls.length:=λa ha=>Vw.mp (hG.pm.mem_iff.mp (List.mem_flatMap.mpr ⟨g,hgm,ha⟩));have hl1:=hle (i+1);have et:ordI (ltz ls) (gs.take (i+1))=ordI (ltz ls) (gs.take i)++jr (ltz ls) g:=by
   unfold ordI;rw[List.take_add_one,hg,Option.toList_some,List.flatMap_append];simp
  rw[et]at hl1⊢;rw[length_append]at hl1;have hgl:(jr (ltz ls) g).length=g.2.length:=by rw[(qJ hL g).length_eq];unfold bZ;rw[length_map]
  generalize ordI (ltz ls) (gs.take i)=V at*;have ext:∀(R:Fv),R (c9 (P2 gs ls V (sn (.str (kdS g.1))) (sn (rowD g.2))))=!(aA (jr _ g))->ab (lB 2 R) aH (P2 gs ls V (sn (.str _)) (sn _))=!(.nx (P2 gs ls (V++jr _ g) (sn (.str _)) (sn _))):=λR hR=>by
   refine(ar (lE rfl hR (kM _) ?_)).trans ?_
   .rw[length_map,length_map];exact Vm (!1) (!3)
   .show some (Out.nx [_,_,!(Cat.deep,D.lst (V.map D.int++(jr (ltz ls) g).map D.int)),_,_,_,_])=!(Out.nx [_,_,!(Cat.deep,D.lst ((V++jr _ g).map D.int)),_,_,_,_]);rw[List.map_append]
  refine wv (b:=decide (g.1=1)) ?_ ?_
  .show al (aa (aK false) (va 3) (cS "come")) [!(fw gs),!(az ls),_,!(.str (kdS g.1)),_,none,none]=_;simp only[testB_a,bin2_a,va_a,shAt_s,shAt_0,shAt_1,cS_a,Option.bind_some,xM,asB_bl];rw[<-GI hk3];rfl
  .by_cases z:g.1=1
   .rw[decide_eq_true z];refine⟨_,ext _ ?_,⟨_,rfl,_,_,rfl⟩⟩;let⟨T,t1,t2,t3⟩:=lG (λ_=>⟨_,rfl⟩) (L:=bZ g.2) (by unfold bZ;rw[length_map];omega) (qE _ _);have eT:T=gy _ _:=xU hL t1 t2;have eO:jr (ltz ls) g=T:=by unfold jr;rw[if_pos z,eT]
    have hTl:T.length=g.2.length:=by rw[<-eO,hgl]
    rw[eO];have c1:af [6] (jX ag (va 4)) (gNm 6) tQ (cu (x2 (aa am (aa am (va 1) (va 6)) (cI 1)) (va 6))) [!(fw gs),!(az ls),none,!(.str (kdS g.1)),!(rowD g.2),none,none]=!((bZ g.2).map (keyL (ltz ls))):=by
     unfold bZ;rw[List.map_map];refine ao rfl (λk hk=>?_) (Vm (show g.2.length<=24 by omega) (!3));have hkl:=hin k hk;have e0:=getElem?_eq_getElem hkl;show(cu (x2 (aa am (aa am (va 1) (va 6)) (cI 1)) (va 6)) [!(fw gs),!(az ls),none,!(.str (kdS g.1)),!(rowD g.2),none,!(iN k)]).bind _=_;rw[iS,oJ,consX_a,uH e0 rfl rfl];show some (!(D.tup [.int (ls[k].2:Int),.int (k:Int)]))=!(!(D.tup [.int (dQ (ltz ls) (k:Int)),.int (k:Int)]));rw[Ow e0]
    show a6 (af [5] _ _ _ _) [!(fw gs),!(az ls),none,!(.str (kdS g.1)),!(rowD g.2),none,none]=_;have s1:wb (x1 (a6 (af [6] (jX ag (va 4)) (gNm 6) tQ (cu (x2 (aa am (aa am (va 1) (va 6)) (cI 1)) (va 6)))))) [!(fw gs),!(az ls),none,!(.str (kdS g.1)),!(rowD g.2),none,none]=!(T.map (keyL (ltz ls))):=by
     show(x1 _ _).bind cM=_;rw[gx,consX_a,lsF_a,c1];exact t3
    rw[lsF_a,ao (mk:=keyL (ltz ls)) ?_ (λk hk=>rfl) (lt_of_le_of_lt (show T.length<=24 by omega) (!3))]
    .rfl
    .rw[bH,mq s1];rfl
   .rw[decide_eq_false z];refine⟨_,ext _ ?_,⟨_,rfl,_,_,rfl⟩⟩;have eO:jr (ltz ls) g=bZ g.2:=by unfold jr;rw[if_neg z]
    rw[eO];show some (rowD g.2)=!(.lst ((g.2.map λ(k:Nat)=>(k:Int)).map D.int));rw[List.map_map];rfl
 .rintro Y ⟨o3,o4,rfl⟩;rw[List.take_length];rfl
def uM:∀gs:List Gr,(∀g∈gs,g.1<3)->wI gs->levs ls gs=(ordI ls gs).map ([·])
 |[],_,_=>rfl
 |g::gs,h,ha=>by
  show levG ls g++levs ls gs=(jr ls g++ordI ls gs).map ([·]);rw[List.map_append,uM gs (λq hq=>h q (mem_cons_of_mem _ hq)) λq hq=>ha q (mem_cons_of_mem _ hq)];congr 1;unfold levG jr;by_cases z:g.1=0
  .let⟨a,e⟩:=List.length_eq_one_iff.mp (ha g Vi z);rw[if_pos z,if_neg (!1),e,show fT (bZ [a])=bZ [a]from List.perm_singleton.mp (jc (bZ [a]))];rfl
  .rw[if_neg z];by_cases y:g.1=1
   .rw[if_pos y,if_pos y]
   .rw[if_neg y,if_neg y]
end K16
namespace K16
open PySem PySem.Spec PyProof.Rows L2
def wJ{Y:Vv}{k:Nat}{d:D}(hk:k<Y.length):bF ((Y.set k none).set k (!d)) k=!d:=by
 unfold bF;rw[List.getElem?_set_self (by rw[List.length_set];exact hk)]
section
variable{β:Type}{k:Nat}{J:Fx}{Y:Vv}{xs:List β}{g:β->U7}
def Ox(hJ:J Y=!(xs.map λx=>.lst (g x)))(hk:k<Y.length)(hl:xs.length<big):af [k] J (gNm k) tQ (liF (x1 (va k))) Y=!(xs.map λx=>.lst (g x)):=by
 refine ao (mk:=λx=>.lst (g x)) hJ (λx _=>?_) hl;simp only[stepF_a,wipe_cons,wipe_nil,gNm_a,tQ_a,Option.bind_some,if_true,oz,consX_a,nilX_a,va_a,wJ hk,map_some];rfl
def R8(hJ:J Y=!(xs.map λx=>.lst (g x)))(hk:k<Y.length)(hl:xs.length<big)(lf:∀x∈xs,cF (g x)=true):frX (a6 (af [k] J (gNm k) tQ (liF (x1 (va k))))) (af [k] J (gNm k) tQ (liF (x1 (va k)))) (fCo [k] J (gNm k) tQ (frX (liF (x1 (va k))) (l1F (x1 (va k))) (fNo (x1 (va k))))) Y=!(.lst (xs.map λx=>.lst (g x))):=by
 have c1:=Ox hJ hk hl;have c2:af [k] J (gNm k) tQ (frX (liF (x1 (va k))) (l1F (x1 (va k))) (fNo (x1 (va k)))) Y=!(xs.map λx=>.lst (g x)):=by
  refine ao (mk:=λx=>.lst (g x)) hJ (λx hx=>?_) hl;have e2:frX (liF (x1 (va k))) (l1F (x1 (va k))) (fNo (x1 (va k))) ((Y.set k none).set k (!(.lst (g x))))=!(.lst (g x)):=j2 (by simp only[oz,consX_a,nilX_a,va_a,wJ hk,Option.bind_some];rfl) (by simp only[xJ,consX_a,nilX_a,va_a,wJ hk,Option.bind_some];rfl) (lf x hx);simp only[stepF_a,wipe_cons,wipe_nil,gNm_a,tQ_a,Option.bind_some,if_true,e2]
 cases xs with
 |nil=>exact j2 (by rw[lsF_a,c1];rfl) c1 rfl
 |cons x xs=>
  refine Eq.trans ?_ (show fCo [k] J (gNm k) tQ (frX (liF (x1 (va k))) (l1F (x1 (va k))) (fNo (x1 (va k)))) Y=_ by unfold fCo;rw[c2];rfl);generalize fCo [k] J (gNm k) tQ (frX (liF (x1 (va k))) (l1F (x1 (va k))) (fNo (x1 (va k))))=Z;unfold frX a8;dsimp only;rw[lsF_a,c1];rfl
end
def Oy{T:List (List Pe)}{k:Nat}{A:List Pe}(h:T[k]?=!A):am (tbD T) (iN k)=!(rwD A):=aU h
def Dq(T:List (List Pe)):dM [tbD T]=!(iN T.length):=by rw[bb];show some (D.int ((T.map rwD).length:Nat))=_;rw[length_map]
def Dr(A:List Pe):dM [rwD A]=!(iN A.length):=by rw[bb];show some (D.int ((A.map hW).length:Nat))=_;rw[length_map]
def  Mo{α:Type}(F:Vv->Option α)(Y:Ev):Prop:=F (c9 Y)=none\/F (c9 Y)=F (vw Y)
def cR(i:Nat)(Y:Ev):Mo (va i) Y:=by
 show bF (c9 Y) i=none\/bF (c9 Y) i=bF (vw Y) i;unfold bF c9 vw;rw[getElem?_map,getElem?_map];rcases Y[i]? with _|_|⟨c,d⟩
 .exact .inl rfl
 .exact .inl rfl
 .have key:(if lfD d then !d else none)=none\/(if lfD d then !d else none)=!d:=by
   cases lfD d
   .exact .inl rfl
   .exact .inr rfl
  cases c with
  |sh=>exact .inr rfl
  |top=>
   show(match some (if lfD d then !d else none)with|some (!d)=>!d|_=>none)=none\/(match some (if lfD d then !d else none)with|some (!d)=>!d|_=>none)=!d;rcases key with k|k<;>rw[k]
   .exact .inl rfl
   .exact .inr rfl
  |deep=>
   show(match some (if lfD d then !d else none)with|some (!d)=>!d|_=>none)=none\/(match some (if lfD d then !d else none)with|some (!d)=>!d|_=>none)=!d;rcases key with k|k<;>rw[k]
   .exact .inl rfl
   .exact .inr rfl
section
variable{Y:Ev}{α β γ:Type}
def Mo.of{F:Vv->Option α}{G:Vv->Option β}{g:β->Option α}(h:Mo G Y)(e:∀Y,F Y=(G Y).bind g):Mo F Y:=by
 unfold Mo;rw[e,e];rcases h with h|h
 .rw[h];exact .inl rfl
 .rw[h];exact .inr rfl
def Mo.two{F:Vv->Option α}{G:Vv->Option β}{K:Vv->Option γ}{g:β->γ->Option α}(h:Mo G Y)(k:Mo K Y)(e:∀Y,F Y=(G Y).bind λx=>(K Y).bind (g x)):Mo F Y:=by
 unfold Mo;rw[e,e];rcases h with h|h
 .rw[h];exact .inl rfl
 .rw[h];rcases k with k|k
  .rw[k];left;cases G (vw Y)<;>rfl
  .rw[k];exact .inr rfl
def wK{g:D->D->U9}{a b:Fv}(h:Mo a Y)(k:Mo b Y):Mo (aa g a b) Y:=h.two k λ_=>rfl
def jt{a:Fv}{b:Fx}(h:Mo a Y)(k:Mo b Y):Mo (ac a b) Y:=h.two k λ_=>rfl
def mL{a:Fv}(h:Mo a Y):Mo (x1 a) Y:=jt h (.inr rfl)
def Oz{f:Fn}{xs:Fx}(h:Mo xs Y):Mo (bf f xs) Y:=h.of λ_=>clF_a
def OA{a:Fv}(h:Mo a Y):Mo (cQ a) Y:=(mL h).of λ_=>biF_a
def OB{L:Fx}(h:Mo L Y):Mo (a6 L) Y:=h.of (g:=λds=>!(.lst ds)) λY=>by rw[lsF_a];cases L Y<;>rfl
def OC{xs:Fx}(h:Mo xs Y):Mo (fV xs) Y:=h.of (g:=λds=>bJ (!ds)) λY=>by rw[dpF_a];cases xs Y<;>rfl
def mM(n:Int):Mo (cI n) Y:=.inr rfl
def K6(Y:Ev):vw (db Y)=vw Y:=by
 unfold vw db;rw[List.map_map];refine List.map_congr_left λs _=>?_;cases s<;>rfl
def vw_set(Y:Ev)(i:Nat)(s:Sl):vw (Y.set i (!s))=(vw Y).set i (!s.2):=by unfold vw;rw[List.map_set];rfl
def K7{R Sp:Fv}{d:D}(h:R (vw Y)=!d)(m:Mo R Y)(hs:∀e,Sp (vw Y)=!e->e=d):∃z:Cat×Ev,bi R ag Sp Y=!((z.1,d),z.2)/\vw z.2=vw Y:=by
 cases f:lfD d with
 |true=>exact⟨(.deep,Y),evX_lf h f,rfl⟩
 |false=>
  cases hp:Sp (vw Y)with
  |some e=>
   cases hs e hp;exact⟨(.deep,Y),evX_call h f rfl hp,rfl⟩
  |none=>
   rcases m with m|m
   .exact⟨(.sh,db Y),evX_fz h f rfl hp rfl m,K6 Y⟩
   .exact⟨(.sh,Y),ox h f rfl hp rfl (m.trans h),rfl⟩
def oY{f:Fn}{xs:Fx}{ds:U7}{c:Cat}{d:D}(hx:xs (vw Y)=!ds)(m:Mo xs Y)(e:f ds=!(c,d)):∃z:Cat×Ev,mI f xs Y=!((z.1,d),z.2)/\vw z.2=vw Y:=
 K7 (by rw[clF_a,hx,Option.bind_some,e];rfl) (Oz m) λe' h=>by
  rw[fCl_a,hx,Option.bind_some,e]at h;cases c<;>cases h;rfl
def fX{i:Nat}{g:UU}{d:D}{G:US}{out:Option Out}{v:Vv}(hv:vw Y=v)(h:∃z:Cat×Ev,g Y=!((z.1,d),z.2)/\vw z.2=vw Y)(k:∀Y',vw Y'=v.set i (!d)->G Y'=out):ab (av i g) G Y=out:=by
 let⟨⟨c,Y'⟩,e,e2⟩:=h;exact q_set e (k _ (by rw[vw_set];rw[show vw Y'=vw Y from e2,hv]))
end
def K8(ls:List Lz):lw (az ls)=true/\pv (az ls)<=3:=by
 let⟨x,y⟩:=nj (f:=ya) (n:=2) (xs:=ls) λl _=>⟨rfl,by show max 0 (max 0 0)+1<=2;decide⟩;exact⟨x,Nat.succ_le_succ y⟩
def OD(l:U4):lw (aA l)=true/\pv (aA l)<=2:=by
 let⟨x,y⟩:=nj (f:=D.int) (n:=1) (xs:=l) λl _=>⟨rfl,Nat.zero_le _⟩;exact⟨x,Nat.succ_le_succ y⟩
def OE(rs:List (U4)):lw (cg rs)=true/\pv (cg rs)<=3:=by
 let⟨x,y⟩:=nj (f:=aA) (n:=2) (xs:=rs) λl _=>OD l;exact⟨x,Nat.succ_le_succ y⟩
def Ds{ps:UV}{ls:List Lz}(hv:Valid ps)(h:∀l∈ls,LzOk ps l):bO (ltz ls):=λp hp=>by
 let⟨l,h1,rfl⟩:=Vp.mp hp;have:=(h l h1).3;have:=hv.len;exact⟨Int.natCast_nonneg _,by show(l.2:Int)<10;omega⟩
def OF(ls:List Lz):az ls=lsD' (ltz ls):=by
 unfold az lsD' ltz;rw[List.map_map];rfl
def GJ{l:U4}(h:∀x∈l,0<=x):bZ (l.map Int.toNat)=l:=by
 unfold bZ;rw[List.map_map];refine(List.map_congr_left λx hx=>?_).trans (List.map_id l);show((x.toNat:Nat):Int)=x;have:=h x hx;omega
end K16
namespace K16
open PySem PySem.Spec PyProof.Rows L2
def  su:US:=(gN (b8 (pC (a7 c8 (x2 (va 0) (cT "int"))) (Ax (a7 c8 (x2 (va 0) (cT "bool")))))))
def  dR(eI:Fn):US:=(ab (eV (nK (bB (iP (a7 c8 (x2 (va 0) (cT "tuple"))))) (al (aa (aK true) (cQ (va 0)) (cI 2)))) (gN (b8 (cB false))) aH) (ab (eV (nK (bB (iP (a7 c8 (x2 (aa am (va 0) (cI 0)) (cT "tuple"))))) (al (aa (aK true) (cQ (aa am (va 0) (cI 0))) (cI 2)))) (gN (b8 (cB false))) aH) (ab (eV (bB (iP (a7 fy (x1 (a6 (af [2] (jX ag (a6 (fV (x3 (aa am (aa am (va 0) (cI 0)) (cI 0)) (aa am (aa am (va 0) (cI 0)) (cI 1)) (aa am (va 0) (cI 1)))))) (gNm 2) tQ (bf eI (x1 (va 2))))))))) (gN (b8 (cB false))) aH) (gN (b8 (aa (aK false) (va 0) (va 1)))))))
def  dS(cm:Fn):US:=(ab (eV (nK (bB (iP (a7 c8 (x2 (va 0) (cT "list"))))) (al (aa (aK true) (cQ (va 0)) (cQ (va 1))))) (gN (b8 (cB false))) aH) (ab (iQ (jR (x1 (cQ (va 1)))) (dq 2) (ab (eV (nK (bB (iP (a7 c8 (x2 (aa am (va 0) (va 2)) (cT "list"))))) (al (aa (aK true) (cQ (aa am (va 0) (va 2))) (cQ (!20))))) (gN (b8 (cB false))) aH) (ab (eV (bB (iP (a7 fy (x1 (a6 (af [3] (jR (x1 (cQ (!20)))) (gNm 3) tQ (bf cm (x2 (aa am (aa am (va 0) (va 2)) (va 3)) (aa am (!20) (va 3)))))))))) (gN (b8 (cB false))) aH) aH))) (gN (b8 (cB true)))))
def  K9(f:Fn):Prop:=∀i:Int,f [.int i]=dp (.bl true)
def OG:K9 (aI 1 1 su):=λi=>aj rfl rfl
def  La(f:Fn):Prop:=∀e:Pe,f [hW e,hW e]=dp (.bl true)
def Lb(e:Pe):aK false (hW e) (hW e)=!(.bl true):=rS false (HJ e).1 (Vn (HJ e).2 (!3)) rfl rfl
def OH{wh}(h:K9 wh):La (aI 2 3 (dR wh)):=λe=>by
 refine aj rfl ?_;show dR wh [sn (hW e),sn (hW e),none]=_;unfold dR;have hc:af [2] (jX ag (a6 (fV (x3 (aa am (aa am (va 0) (cI 0)) (cI 0)) (aa am (aa am (va 0) (cI 0)) (cI 1)) (aa am (va 0) (cI 1)))))) (gNm 2) tQ (bf wh (x1 (va 2))) [!(hW e),!(hW e),none]=!([e.1.1,e.1.2,e.2].map λ_=>.bl true):=by
  refine ao (mk:=D.int) ?_ (λi _=>?_) (show 3<big by decide)
  .show((bJ (![D.int e.1.1,D.int e.1.2,D.int e.2])).map D.lst).bind seqD=_;rw[GC];rfl
  .simp only[sB,show wh [.int i]=dp (.bl true)from h i]
 refine q_if0 rfl (q_if0 rfl (q_if0 ?_ (q_ret (evX_lf (d:=.bl true) (Lb e) rfl))));show bB (iP (a7 fy (x1 (a6 _)))) [!(hW e),!(hW e),none]=_;rw[notQ_a,trF_a,biF_a,gx,consX_a,lsF_a,hc];rfl
def  R9(f:Fn):Prop:=∀T:List (List Pe),T.length<=24->(∀A∈T,A.length<100)->f [tbD T,tbD T]=dp (.bl true)
def OI{β:Type}(xs:List β):fy [.lst (xs.map λ_=>.bl true)]=!(.bl true):=by
 have h:tz (xs.map λ_=>D.bl true)=!(xs.map λ_=>true):=by
  induction xs with
  |nil=>rfl
  |cons x xs ih=>show(tz (xs.map λ_=>D.bl true)).bind _=_;rw[ih];rfl
 show(tz (xs.map λ_=>D.bl true)).bind _=_;rw[h];show some (D.bl ((xs.map λ_=>true).all λz=>z))=_;rw[List.all_map];congr 2;exact List.all_eq_true.mpr λ_ _=>rfl
def Sa{en}(h:La en):R9 (aI 2 4 (dS en)):=λT hT hA=>by
 refine aj rfl ?_;show dS en [sn (tbD T),sn (tbD T),none,none]=_;unfold dS;refine q_if0 ?_ (q_rng (n:=T.length) (v:=λi=>(i:Int)) (λ_ Y=>∃o2,Y=[sn (tbD T),sn (tbD T),o2,none]) ?_ ⟨none,rfl⟩ (λk Y hk=>?_) λY=>?_)
 .show nK _ (al (aa (aK true) (cQ (va 0)) (cQ (va 1)))) [!(tbD T),!(tbD T),none,none]=_;rw[mh];show al (aa (aK true) (cQ (va 0)) (cQ (va 1))) [!(tbD T),!(tbD T),none,none]=_;simp only[sB,Dq,jJ,if_true,decide_true];rfl
 .refine d7 ?_;show(x1 (cQ (va 1)) [!(tbD T),!(tbD T),none,none]).bind jU=_;simp only[sB,Dq];exact aY (n:=T.length) (!1)
 .rintro⟨o2,rfl⟩;have hg:T[k]?=some T[k]:=getElem?_eq_getElem hk;have hAk:=hA _ (List.getElem_mem hk);generalize T[k]=A at hg hAk;have ix:=Oy hg;have hc:af [3] (jR (x1 (cQ (!20)))) (gNm 3) tQ (bf en (x2 (aa am (aa am (va 0) (va 2)) (va 3)) (aa am (!20) (va 3)))) [!(tbD T),!(tbD T),!(iN k),none]=!((List.range A.length).map λ_=>.bl true):=by
   refine ao (xs:=List.range A.length) (mk:=λ(j:Nat)=>D.int (j:Int)) (d7 ?_) (λj hj=>?_) (by rw[length_range];exact Nat.lt_trans hAk (!3))
   .simp only[sB,ix,Dr];exact aY (n:=A.length) (!1)
   .have hj':=Vw.mp hj;have ij:am (rwD A) (iN j)=!(hW A[j]):=aU (getElem?_eq_getElem hj');simp only[sB,ix,ij,show en [hW A[j],hW A[j]]=dp (.bl true)from h _]
  refine⟨[sn (tbD T),sn (tbD T),sn (iN k),none],q_if0 ?_ (q_if0 ?_ rfl),_,rfl⟩
  .show nK _ (al (aa (aK true) (cQ (aa am (va 0) (va 2))) (cQ (!20)))) [!(tbD T),!(tbD T),!(iN k),none]=_;have e1:bB (iP (a7 c8 (x2 (aa am (va 0) (va 2)) (cT "list")))) [!(tbD T),!(tbD T),!(iN k),none]=!false:=by
    simp only[sB,JY,ix];rfl
   rw[mh,e1];simp only[sB,ix,Dr,jJ,if_true,decide_true];rfl
  .show bB (iP (a7 fy (x1 (a6 _)))) [!(tbD T),!(tbD T),!(iN k),none]=_;rw[notQ_a,trF_a,biF_a,gx,consX_a,lsF_a,hc];show((fy [.lst ((List.range A.length).map λ_=>D.bl true)]).bind pD).map (not ·)=_;rw[OI];rfl
 .rintro⟨o2,rfl⟩;rfl
end K16
namespace K16
open PySem PySem.Spec PyProof.Rows L2
def  ym(b9 bC:Fn)(sw:U7->Option (List (Str×D)))(sv:U7->Option (List (Str×D)))(eH eE dB c4 dA dv eD:Fn):US:=(ab (av 1 (mI eD (x2 (va 0) (cI 84)))) (ab (av 2 (mI dv (x2 (va 1) (cI 0)))) (ab (av 3 (mI dA (x3 (va 1) (cI 60) (va 2)))) (ab (av 4 (mI c4 (x4 (va 1) (cI 20) (aa am (a6 (fV (x2 (aa aV (aa c6 (aa am (va 1) (cI 12)) (cI 8)) (cI 8)) (cI 24)))) (a7 qq (x1 (aa (aK false) (aa aV (aa am (va 1) (cI 12)) (cI 8)) (cI 7))))) (va 2)))) (ab (av 5 (mI dB (x3 (va 1) (cI 30) (cQ (va 4))))) (ab (av 6 (mI eE (x2 (va 5) (va 4)))) (ab (av 7 (mI eH (x4 (va 2) (va 4) (va 6) (va 3)))) (ab (av 8 (bi (a6 (fV (x2 (liF (!15)) (a6 (af [13] (jX ag (va 3)) (gNm 13) tQ (liF (x1 (va 13)))))))) (fV (x2 (liF (!15)) (a6 (af [13] (jX ag (va 3)) (gNm 13) tQ (liF (x1 (va 13))))))) (B7 (x2 (frX (liF (!15)) (l1F (!15)) (fNo (!15))) (frX (a6 (af [13] (jX ag (va 3)) (gNm 13) tQ (liF (x1 (va 13))))) (af [13] (jX ag (va 3)) (gNm 13) tQ (liF (x1 (va 13)))) (fCo [13] (jX ag (va 3)) (gNm 13) tQ (frX (liF (x1 (va 13))) (l1F (x1 (va 13))) (fNo (x1 (va 13)))))))))) (ab (av 9 (bi (NI "Mill" sv (x1 (va 2))) ag (fNo (x1 (va 2))))) (ab (av 10 (bi (NI "Wish" sw (x2 (va 4) (va 5))) ag (fNo (x2 (va 4) (va 5))))) (ab (av 11 (mI b9 (x4 (va 9) (aa am (va 8) (cI 0)) (va 10) (aa am (va 8) (cI 1))))) (ab (eV (nK (bB (iP (bf bC (x2 (va 11) (va 7))))) (al (aa (aK true) (va 8) (a6 (fV (x2 (va 4) (va 3))))))) (gN (b8 (cB false))) aH) (ab (JG 11 12 (cu (x2 (cu (x2 (cI 0) (cI 0))) (cI 0)))) (ab (Fq 11) (gN (b8 (pC (bf bC (x2 (bf b9 (x4 (va 9) (aa am (va 8) (cI 0)) (va 10) (aa am (va 8) (cI 1)))) (va 7))) (aa (aK false) (va 8) (a6 (fV (x2 (va 4) (va 3))))))))))))))))))))))
def Dt(neg:Bool)(ls:List Lz)(rs:List (U4)):aK neg (.lst [az ls,cg rs]) (.lst [az ls,cg rs])=!(.bl (not neg)):=by
 let⟨a1,a2⟩:=K8 ls;let⟨b1,b2⟩:=OE rs;refine rS neg ?_ ?_ rfl rfl
 .show(lw (az ls)&&(lw (cg rs)&&true))=true;rw[a1,b1];rfl
 .show max (pv (az ls)) (max (pv (cg rs)) 0)+1<=50;omega
def HP{R:Fv}{Y:Ev}{d:D}(h:R (vw Y)=!d)(lf:lfD d=true):∀T:List (List Pe),(∀A∈T,A.length<100)->∃ds,Fo R Y (T.map rwD)=!ds
 |[],_=>⟨[],rfl⟩
 |A::T,hA=>by
  let⟨ds,e⟩:=HP h lf T λB hB=>hA B (Vj _ hB);have ha:Nf (rwD A)=!(A.map hW):=by
   show(if cF (A.map hW)=true/\(A.map hW).length+1<big then !(A.map hW)else none)=_;rw[if_pos ⟨Dc A,by rw[length_map];exact Nat.lt_trans (show A.length+1<101 by have:=hA A Vi;omega) (!3)⟩]
  refine⟨.lst ((A.map hW)++[d]).reverse::ds,?_⟩;show(Nf (rwD A)).bind _=_;rw[ha,Option.bind_some,h,show sC (!d)=some d by unfold sC;rw[Option.bind_some,lf];rfl,Option.bind_some,e];rfl
def UC(x:Int):∃n:Nat,n<=24/\am (.lst [.int (x/8%8),.int 24]) (.int (if decide (x%8=7)then 1 else 0))=!(iN n):=by
 rw[KZ];cases decide (x%8=7)with
 |true=>exact⟨24,by decide,rfl⟩
 |false=>exact⟨(x/8%8).toNat,by omega,by show some (D.int (x/8%8))=!(D.int ((x/8%8).toNat:Int));congr 2;omega⟩
abbrev vY(a b c d e f g h i j k l m:U9):Vv:=[a,b,c,d,e,f,g,h,i,j,k,l,m,none]
def GK{mi lT it wi od tb gr lt pr pa ce op}(hlT:R5 lT)(hit:R9 it)(hwi:CY wi)(hmi:Cs mi)(htb:Gx op tb)(hop:KY op)(hod:Dp od)(hgr:K4 gr)(hlt:K2 lt)(hpr:sr pr)(hpa:K1 pa)(hce:wG ce)(ns:U4)(hn:ns.length<=63):b7 (aI 1 14 (ym lT it wi mi tb od gr lt pr pa ce) [aA ns])=!(.bl true):=by
 let⟨cs,lc,hB,e1⟩:=hce ns 84 (!1) (!3) (!3)
 let⟨ps,l3,hP,e2⟩:=hpa cs 0 (!1)
 have hv:=zA l3 hP
 let⟨c3,rs,_,ok,e3⟩:=hpr cs ps 60 hB (!1) (!3) l3 hP
 let⟨x12,_,_,e12⟩:=Dl (i:=12) hB (!3) (!1)
 let⟨n,hn24,en⟩:=UC x12
 let⟨ls,ll,hL,e4⟩:=hlt cs ps 20 n (!1) (!1) hv
 let⟨c5,gs,_,G,A1,e5⟩:=hgr cs 30 ls.length (!1) (!3) (!1)
 have hlate:=Ds hv hL
 have e6:=hod ls gs hlate (!1) G
 have pm:=(lI hlate gs)
 have pos:∀x∈ordI (ltz ls) gs,0<=x/\x<(ls.length:Int):=λx hx=>by
  let⟨m,hm,rfl⟩:=Vp.mp (pm.mem_iff.mp hx)
  have:=Vw.mp (G.pm.mem_iff.mp hm)
  exact⟨Int.natCast_nonneg _,by omega⟩
 obtain⟨r,hr⟩:∃r:U2,bZ r=ordI (ltz ls) gs:=⟨_,GJ λx hx=>(pos x hx).1⟩
 have rl:r.length=ls.length:=by
  have h:=pm.length_eq
  rw[<-hr]at h
  unfold bZ at h
  rw[length_map,length_map,G.len]at h
  exact h
 have rm:∀k∈r,k<ls.length:=λk hk=>by
  have:=(pos (k:Int) (by rw[<-hr];exact Vp.mpr ⟨k,hk,rfl⟩)).2
  omega
 rw[<-hr]at e6
 have h64:prod ps<64:=by
  have:=oX ps hP
  have:3^ps.length<=3^3:=Nat.pow_le_pow_right (!3) l3
  omega
 have L:Lok ps ls:=⟨hv,h64,by omega,hL⟩
 obtain⟨U,hU⟩:∃U:Nat->List Pq,∀k l,ls[k]?=!l->Opn ps ls k l (U k)/\op [aq ps,az ls,iN k]=dp (.lst ((U k).map xW)):=by
  have ex:∀k,∃V:List Pq,∀l,ls[k]?=!l->Opn ps ls k l V/\op [aq ps,az ls,iN k]=dp (.lst (V.map xW)):=λk=>by
   cases hk:ls[k]? with
   |none=>exact⟨[],λ_ z=>nomatch z⟩
   |some l=>
    let⟨V,h⟩:=hop ps ls k l L hk
    exact⟨V,λl' z=>by cases z;exact h⟩
  exact⟨λk=>(ex k).choose,λk=>(ex k).choose_spec⟩
 let⟨c7,e7⟩:=htb ps ls r rs U L ok hU rm (!1)
 have t:TbOk ps ls gs r rs U:=⟨L,ok,λk l hk=>(hU k l hk).1,⟨by rw[hr];exact uM gs G.kd A1,by unfold bZ;rw[length_map];omega⟩,rm⟩
 have hfin:=Gw t
 have htl:=sj (Fk rs ls U) r
 have e8:=hlT ps ls gs r rs U t
 generalize tbl (Fk rs ls U) r=T at e7 hfin htl e8
 have e11:=hit T (!1) λA hA=>(hfin A hA).2
 have e9:=hwi ls.length (ltz ls) gs hlate (length_map _) G
 rw[<-OF]at e9
 have e10:mi [aq ps]=![(("passes":Str),aq ps)]:=by
  have i1:(ps.map λp=>(false,p)).map (·.2)=ps:=by rw[List.map_map];exact List.map_id ps
  have q:=hmi false (ps.map λp=>(false,p)) (by rw[i1];exact hv)
  rw[i1]at q
  refine Eq.trans (congrArg (λd=>mi [d]) ?_) q
  show D.tup _=D.tup _
  rw[List.map_map];rfl
 have lnl:dM [az ls]=!(iN ls.length):=by rw[bb];show some (D.int ((ls.map ya).length:Nat))=_;rw[length_map]
 have main:ym lT it wi mi tb od gr lt pr pa ce [sn (aA ns),none,none,none,none,none,none,none,none,none,none,none,none,none]=!(.rt (.deep,.bl true)):=by
  unfold ym
  refine fX (v:=vY (!(aA ns)) none none none none none none none none none none none none) rfl (oY rfl (jt (cR _ _) (mL (mM _))) e1) λY1 (h1:vw Y1=vY (!(aA ns)) (!(aA cs)) none none none none none none none none none none none)=>?_
  refine fX h1 (oY (by rw[h1];rfl) (jt (cR _ _) (mL (mM _))) e2) λY2 (h2:vw Y2=vY (!(aA ns)) (!(aA cs)) (!(aq ps)) none none none none none none none none none none)=>?_
  refine fX h2 (oY (by rw[h2];rfl) (jt (cR _ _) (jt (mM _) (mL (cR _ _)))) e3) λY3 (h3:vw Y3=vY (!(aA ns)) (!(aA cs)) (!(aq ps)) (!(cg rs)) none none none none none none none none none)=>?_
  refine fX h3 (oY (ds:=[aA cs,iN 20,iN n,aq ps]) (by rw[h3];simp only[sB,e12,oH _ 8 (!3),cb (show(0:Int)<8 by decide) (!3),GE,wH,en];rfl) (jt (cR _ _) (jt (mM _) (jt (wK (OB (OC (jt (wK (wK (wK (cR _ _) (mM _)) (mM _)) (mM _)) (mL (mM _))))) (Mo.of (mL (wK (wK (wK (cR _ _) (mM _)) (mM _)) (mM _))) λ_=>biF_a)) (mL (cR _ _))))) e4) λY4 (h4:vw Y4=vY (!(aA ns)) (!(aA cs)) (!(aq ps)) (!(cg rs)) (!(az ls)) none none none none none none none none)=>?_
  refine fX h4 (oY (ds:=[aA cs,iN 30,iN ls.length]) (by rw[h4];simp only[sB,lnl];rfl) (jt (cR _ _) (jt (mM _) (mL (OA (cR _ _))))) e5) λY5 (h5:vw Y5=vY (!(aA ns)) (!(aA cs)) (!(aq ps)) (!(cg rs)) (!(az ls)) (!(fw gs)) none none none none none none none)=>?_
  refine fX h5 (oY (by rw[h5];rfl) (jt (cR _ _) (mL (cR _ _))) e6) λY6 (h6:vw Y6=vY (!(aA ns)) (!(aA cs)) (!(aq ps)) (!(cg rs)) (!(az ls)) (!(fw gs)) (!(aA (bZ r))) none none none none none none)=>?_
  refine fX h6 (oY (by rw[h6];rfl) (jt (cR _ _) (jt (cR _ _) (jt (cR _ _) (mL (cR _ _))))) e7) λY7 (h7:vw Y7=vY (!(aA ns)) (!(aA cs)) (!(aq ps)) (!(cg rs)) (!(az ls)) (!(fw gs)) (!(aA (bZ r))) (!(tbD T)) none none none none none)=>?_
  have lfz:cF (ls.map ya)=true:=cf λd hd=>by
   let⟨l,_,rfl⟩:=Vp.mp hd
   rfl
  have lb:∀n,n<=30->n<big:=λn h=>Vm h (!3)
  have k1:liF (!15) (vw Y7)=!(az ls):=by rw[h7,oz];rfl
  have k2:af [13] (jX ag (va 3)) (gNm 13) tQ (liF (x1 (va 13))) (vw Y7)=!(rs.map aA):=by rw[h7];exact Ox (xs:=rs) (g:=λl=>l.map D.int) rfl (show 13<14 by decide) (lb _ (by rw[ok.len];omega))
  have g1:frX (liF (!15)) (l1F (!15)) (fNo (!15)) (vw Y7)=!(az ls):=j2 k1 (by rw[h7,xJ];rfl) lfz
  have g2:=R8 (J:=jX ag (va 3)) (Y:=vw Y7) (k:=13) (xs:=rs) (g:=λl=>l.map D.int) (by rw[h7];rfl) (by rw[h7];show 13<14;decide) (lb _ (by rw[ok.len];omega)) λl _=>ng l
  refine fX h7 ⟨(.deep,Y7),kO (d:=.lst [az ls,cg rs]) (e:=.lst [az ls,cg rs]) (ds:=[az ls,cg rs]) ?_ rfl ?_ rfl ?_,rfl⟩ λY8 (h8:vw Y8=vY (!(aA ns)) (!(aA cs)) (!(aq ps)) (!(cg rs)) (!(az ls)) (!(fw gs)) (!(aA (bZ r))) (!(tbD T)) (!(.lst [az ls,cg rs])) none none none none)=>?_
  .rw[lsF_a,dpF_a,oJ,consX_a,k1,gx,consX_a,lsF_a,k2]
   exact congrArg (Option.map D.lst) (capL_2 _ _)
  .rw[dpF_a,oJ,consX_a,k1,gx,consX_a,lsF_a,k2]
   exact capL_2 _ _
  .unfold B7
   rw[oJ,consX_a,g1,gx,consX_a,g2]
   exact congrArg (·.bind λds=>!(D.lst ds)) (capL_2 _ _)
  have m1:NI "Mill" mi (x1 (va 2)) (vw Y8)=!(ay ps):=by
   rw[h8]
   simp only[sB,xI,e10];rfl
  refine fX h8 (K7 m1 ((mL (cR _ _)).of λ_=>xI) λe he=>by rw[h8]at he;cases he) λY9 (h9:vw Y9=vY (!(aA ns)) (!(aA cs)) (!(aq ps)) (!(cg rs)) (!(az ls)) (!(fw gs)) (!(aA (bZ r))) (!(tbD T)) (!(.lst [az ls,cg rs])) (!(ay ps)) none none none)=>?_
  have w1:NI "Wish" wi (x2 (va 4) (va 5)) (vw Y9)=!(aZ (ltz ls) gs):=by
   rw[h9]
   simp only[sB,xI,e9];rfl
  refine fX h9 (K7 w1 ((jt (cR _ _) (mL (cR _ _))).of λ_=>xI) λe he=>by rw[h9]at he;cases he) λY10 (h10:vw Y10=vY (!(aA ns)) (!(aA cs)) (!(aq ps)) (!(cg rs)) (!(az ls)) (!(fw gs)) (!(aA (bZ r))) (!(tbD T)) (!(.lst [az ls,cg rs])) (!(ay ps)) (!(aZ (ltz ls) gs)) none none)=>?_
  -- the table told,looked at,spoilt
  have ell:∀o11 o12,bf lT (x4 (va 9) (aa am (va 8) (cI 0)) (va 10) (aa am (va 8) (cI 1))) (vY (!(aA ns)) (!(aA cs)) (!(aq ps)) (!(cg rs)) (!(az ls)) (!(fw gs)) (!(aA (bZ r))) (!(tbD T)) (!(.lst [az ls,cg rs])) (!(ay ps)) (!(aZ (ltz ls) gs)) o11 o12)=!(tbD T):=λo11 o12=>clF_a.trans (congrArg b7 e8)
  refine q_set (s:=(.deep,tbD T)) (Y':=Y10) (evX_call (d:=tbD T) (by rw[h10];exact ell _ _) rfl rfl (by rw[h10];exact fCl_a.trans (congrArg nT e8))) ?_
  have h11:vw (Y10.set 11 (dp (tbD T)))=vY (!(aA ns)) (!(aA cs)) (!(aq ps)) (!(cg rs)) (!(az ls)) (!(fw gs)) (!(aA (bZ r))) (!(tbD T)) (!(.lst [az ls,cg rs])) (!(ay ps)) (!(aZ (ltz ls) gs)) (!(tbD T)) none:=by rw[vw_set,h10];rfl
  have h10l:Y10.length=14:=by
   have:=congrArg List.length h10
   unfold vw at this
   rw[length_map]at this
   exact this
  have s11:(Y10.set 11 (dp (tbD T)))[11]?=!(dp (tbD T)):=List.getElem?_set_self (!1)
  have l11:(Y10.set 11 (dp (tbD T))).length=14:=by rw[List.length_set];exact h10l
  generalize Y10.set 11 (dp (tbD T))=Y11 at h11 s11 l11
  have ecp:a6 (fV (x2 (va 4) (va 3))) (vw Y11)=!(.lst [az ls,cg rs]):=by
   rw[h11,lsF_a,dpF_a]
   exact congrArg (Option.map D.lst) (capL_2 _ _)
  refine q_if0 ?_ ?_
  .rw[mh,notQ_a,trF_a]
   refine(congrArg (λo=>((o.bind pD).map (not ·)).bind λc=>if c=true then !true else al (aa (aK true) (va 8) (a6 (fV (x2 (va 4) (va 3))))) (vw Y11)) (show bf it (x2 (va 11) (va 7)) (vw Y11)=some (.bl true)by rw[h11];exact clF_a.trans (congrArg b7 e11))).trans ?_
   show al (aa (aK true) (va 8) (a6 (fV (x2 (va 4) (va 3))))) (vw Y11)=_
   rw[testB_a,bin2_a,ecp,h11]
   show(aK true (.lst [az ls,cg rs]) (.lst [az ls,cg rs])).bind D.asB=_
   rw[Dt];rfl
  let⟨ds,ea⟩:=HP (R:=cu (x2 (cu (x2 (cI 0) (cI 0))) (cI 0))) (Y:=(Y11.set 11 none).set 12 none) (d:=.tup [.tup [.int 0,.int 0],.int 0]) (by
   show((bJ _).bind _)=_
   rfl) rfl T λA hA=>(hfin A hA).2
  refine q_st (Y':=((Y11.set 11 none).set 12 none).set 11 (!(.deep,.lst ds))) ?_ ?_
  .unfold JG
   rw[s11]
   show(if 12<Y11.length then(Fo _ ((Y11.set 11 none).set 12 none) (T.map rwD)).bind _ else none)=_
   rw[if_pos (!1),ea];rfl
  have h12:vw ((((Y11.set 11 none).set 12 none).set 11 (!(.deep,.lst ds))).set 11 (dp (.lst [])))=vY (!(aA ns)) (!(aA cs)) (!(aq ps)) (!(cg rs)) (!(az ls)) (!(fw gs)) (!(aA (bZ r))) (!(tbD T)) (!(.lst [az ls,cg rs])) (!(ay ps)) (!(aZ (ltz ls) gs)) (!(.lst [])) none:=by
   rw[vw_set,vw_set]
   unfold vw
   rw[List.map_set,List.map_set]
   show(((((vw Y11).set 11 none).set 12 none).set 11 _).set 11 _)=_
   rw[h11];rfl
  refine q_st (Y':=(((Y11.set 11 none).set 12 none).set 11 (!(.deep,.lst ds))).set 11 (dp (.lst []))) ?_ ?_
  .unfold Fq
   have:ownL (((Y11.set 11 none).set 12 none).set 11 (!(.deep,.lst ds))) 11=!(.deep,ds):=by
    unfold ownL gJ
    rw[List.getElem?_set_self (by rw[List.length_set,List.length_set];omega)];rfl
   rw[this];rfl
  generalize (((Y11.set 11 none).set 12 none).set 11 (!(.deep,.lst ds))).set 11 (dp (.lst []))=Y12 at h12
  refine q_ret (evX_lf (d:=.bl true) ?_ rfl)
  have ecp:a6 (fV (x2 (va 4) (va 3))) (vw Y12)=!(.lst [az ls,cg rs]):=by
   rw[h12,lsF_a,dpF_a]
   exact congrArg (Option.map D.lst) (capL_2 _ _)
  have e13:bf it (x2 (bf lT (x4 (va 9) (aa am (va 8) (cI 0)) (va 10) (aa am (va 8) (cI 1)))) (va 7)) (vw Y12)=!(.bl true):=by
   rw[h12,clF_a,oJ,consX_a,ell]
   exact congrArg b7 e11
  rw[JZ,e13,Option.bind_some]
  show aa (aK false) (va 8) (a6 (fV (x2 (va 4) (va 3)))) (vw Y12)=_
  rw[bin2_a,ecp,h12]
  exact Dt false ls rs
 rw[show aI 1 14 (ym lT it wi mi tb od gr lt pr pa ce) [aA ns]=some (.deep,.bl true)from aj rfl main]
 rfl
end K16
namespace K16
open PySem PySem.Spec PyProof.Rows L2
noncomputable def  S6(N P:U3)(sc:Scope):Bool:=decide (sc.kind=.function)&&(not sc.isCoroutine&&(not sc.isGenerator&&(decide N.Nodup&&(decide (N.take P.length=P)&&((P.all λx=>decide (sc.names.lookup x=some .local)||decide (sc.names.lookup x=some .cell))&&sc.names.all λy=>not (decide (y.2=.free)))))))
def GL(h:S6 N P g=true:=by kernel_rfl):FnScope N P g:=by
 simp only[S6,and_eq_true,decide_eq_true_eq,Bool.not_eq_true',List.all_eq_true,Bool.or_eq_true,decide_eq_false_iff_not]at h;exact⟨h.1,h.2.1,h.2.2.1,h.2.2.2.1,h.2.2.2.2.1,h.2.2.2.2.2.1,h.2.2.2.2.2.2⟩
def  G0:Gb where
 fn:=λ_=>none
 cn:=λx=>if x=("KINDS":Str)then !(.tup [(.str "queue"),(.str "pile")])else if x=("MOST_PASSES":Str)then !(.int 6)else if x=("MOST_POCKETS":Str)then !(.int 6)else if x=("MOST_WIDTH":Str)then !(.int 9)else if x=("MOST_CODES":Str)then !(.int 1000)else if x=("MOST_SIZE":Str)then !(.int 9)else if x=("MOST_LETTERS":Str)then !(.int 24)else if x=("GROUP_KINDS":Str)then !(.tup [(.str "any"),(.str "come"),(.str "row")])else none
 no:=λx=>if x=("all":Str)then true else if x=("bool":Str)then true else if x=("enumerate":Str)then true else if x=("int":Str)then true else if x=("isinstance":Str)then true else if x=("len":Str)then true else if x=("list":Str)then true else if x=("min":Str)then true else if x=("range":Str)then true else if x=("reversed":Str)then true else if x=("sorted":Str)then true else if x=("sum":Str)then true else if x=("tuple":Str)then true else if x=("zip":Str)then true else false
 fl:=λC m=>if C=("Mill":Str)/\m=("passes":Str)then true else if C=("Wish":Str)/\m=("groups":Str)then true else if C=("Wish":Str)/\m=("level_letters":Str)then true else if C=("Wish":Str)/\m=("level_numbers":Str)then true else false
 mt:=λ_ _=>none
 ini:=λ_=>none
abbrev fD(k i n:Nat)(N:U3)(G:Gb):xx:=DI 60 k N (N.take n) (top i) G
def  oZ(x:Str)(st:Stmt)(ps:U3)(us:U0):Prop:=∀(qual:Str)(kV doc pm:Value)(an:Option Addr)(cdv ct:Value),bindArgs (PySem.W.fnOf x qual (bG st) (aL st) (ah st) .none kV doc pm an cdv ct) ⟨us,[]⟩=pure (ps.zip us)
def LD{st}(e:ps.length=1)(h:∀g,oZ x st ps [g]):bp x st ps:=λq k d p a c t j l=>match j,l.trans e with|[g],_=>h g q k d p a c t
def Sb{st}(e:ps.length=2)(h:∀j g,oZ x st ps [j,g]):bp x st ps:=λq k d p a c t l o=>match l,o.trans e with|[j,g],_=>h j g q k d p a c t
def S7{st}(e:ps.length=3)(h:∀l j g,oZ x st ps [l,j,g]):bp x st ps:=λq k d p a c t o r=>match o,r.trans e with|[l,j,g],_=>h l j g q k d p a c t
def UD{st}(e:ps.length=4)(h:∀o l j g,oZ x st ps [o,l,j,g]):bp x st ps:=λq k d p a c t r C=>match r,C.trans e with|[o,l,j,g],_=>h o l j g q k d p a c t
def UE{x:Str}{st:Stmt}{ps:U3}(e:ps.length=5)(h:∀u0 u1 u2 u3 u4,oZ x st ps [u0,u1,u2,u3,u4]):bp x st ps:=λq k d p a c t us hl=>match us,hl.trans e with|[u0,u1,u2,u3,u4],_=>h u0 u1 u2 u3 u4 q k d p a c t
def  aB:xx:=fD 0 17 3 ["value","least","most"] G0
def  G1:Gb:=addF G0 "is_within" 1 aB
def  dF:xx:=fD 1 19 1 ["pocket"] G1
def  G2:Gb:=addF G1 "is_pocket" 2 dF
def  jh:xx:=fD 2 20 1 ["pockets","pocket"] G2
def  G3:Gb:=addF G2 "is_pass" 3 jh
def  bv:xx:=fD 3 22 1 ["passes","product","pockets"] G3
def  G4:Gb:=addF G3 "codes_of" 4 bv
def  bw:xx:=fD 4 21 1 ["passes","pockets"] G4
def  G5:Gb:=addF G4 "are_passes" 5 bw
abbrev cU:U3:=["self","passes","pockets"]
abbrev fJ:U3:=["self","passes"]
def j4:FnScope cU fJ (ah aE):=GL
def kZ:bp "__init__" aE fJ:=Sb rfl λ_ _ _ _ _ _ _ _ _=>rfl
def k7(y:Addr):DG 60 (rL cU aE 5 G5) y (G0.fl "Mill") (aL aE)=oC bw y:=by kernel_rfl
def  sv:U7->Option (List (Str×D)):=gM bw
def  G6:Gb:=addI G5 "Mill" 6 sv
def  ji:xx:=fD 6 18 1 ["size"] G6
def  G7:Gb:=addF G6 "is_size" 7 ji
abbrev jP:U3:=["self"]
abbrev fY:U3:=["self"]
def pd:FnScope jP fY (ah bD):=GL
def pM:bp "many" bD fY:=LD rfl λ_ _ _ _ _ _ _ _=>rfl
def  dG:xx:=DI 60 7 jP fY bD G7
def pN:dG=aI 1 1 (mn G0.fl):=by kernel_rfl
def  G8:Gb:=addM G7 "many" "Mill" 8 dG
def  eN:xx:=fD 8 24 2 ["mill","late"] G8
def  G9:Gb:=addF G8 "is_late" 9 eN
def  fK:xx:=fD 9 30 2 ["mill","letter"] G9
def  S8:Gb:=addF G9 "is_letter" 10 fK
def  aT:xx:=fD 10 31 2 ["mill","letters","letter"] S8
def  S9:Gb:=addF S8 "look_at_letters" 11 aT
def  fg:xx:=fD 11 38 1 ["value"] S9
def  Ta:Gb:=addF S9 "is_price" 12 fg
def  bI:xx:=fD 12 39 2 ["pockets","numbers","number"] Ta
def  G13:Gb:=addF Ta "are_pass_prices" 13 bI
def  bV:xx:=fD 13 40 2 ["mill","prices","pockets","numbers"] G13
def  P3:Gb:=addF G13 "look_at_prices" 14 bV
abbrev fj:U3:=["self","level"]
abbrev cx:U3:=["self"]
def ju:FnScope fj cx (ah aQ):=GL
def j5:bp "one_order" aQ cx:=LD rfl λ_ _ _ _ _ _ _ _=>rfl
def  dk:xx:=DI 60 14 fj cx aQ P3
def  G15:Gb:=addM P3 "one_order" "Wish" 15 dk
def  ck:xx:=fD 15 41 1 ["wish"] G15
def  P4:Gb:=addF G15 "look_at_order" 16 ck
abbrev hV:U3:=["self","level"]
abbrev dU:U3:=["self"]
def lJ:FnScope hV dU (ah bc):=GL
def mN:bp "levels" bc dU:=LD rfl λ_ _ _ _ _ _ _ _=>rfl
def  fZ:xx:=DI 60 16 hV dU bc P4
def  G17:Gb:=addM P4 "levels" "Wish" 17 fZ
def  gQ:xx:=fD 17 43 1 ["wish","level"] G17
def  Tb:Gb:=addF G17 "order_of" 18 gQ
def  jj:xx:=fD 18 32 2 ["letters","letter"] Tb
def  Tc:Gb:=addF Tb "rank_of" 19 jj
def  lK:xx:=fD 19 26 3 ["kind","ahead","code"] Tc
def  Td:Gb:=addF Tc "laid" 20 lK
def  cV:xx:=fD 20 34 4 ["pockets","size","ahead","sides","found","number","pocket","turn","code","side"] Td
def  Te:Gb:=addF Td "sides_behind" 21 cV
def  bW:xx:=fD 21 35 3 ["mill","size","late","ahead","sides","pockets"] Te
def  Tf:Gb:=addF Te "open_sides" 22 bW
def  du:xx:=fD 22 36 3 ["mill","letters","letter","rank","code","side"] Tf
def  Tg:Gb:=addF Tf "open_places" 23 du
def  fL:xx:=fD 23 42 3 ["prices","late","word","pocket","numbers"] Tg
def  P5:Gb:=addF Tg "word_cost" 24 fL
abbrev iW:U3:=["self"]
abbrev fu:U3:=["self"]
def mO:FnScope iW fu (ah bn):=GL
def pe:bp "codes" bn fu:=LD rfl λ_ _ _ _ _ _ _ _=>rfl
def  gR:xx:=DI 60 24 iW fu bn P5
def pf:gR=aI 1 1 (gO G0.fl bv):=by kernel_rfl
def  Sc:Gb:=addM P5 "codes" "Mill" 25 gR
def  cW:xx:=fD 25 25 2 ["mill","late"] Sc
def  G26:Gb:=addF Sc "look_at_late" 26 cW
def  fM:xx:=fD 26 27 3 ["mill","late","code","numbers","ahead","left","pockets","number"] G26
def  Th:Gb:=addF G26 "code_word" 27 fM
def  eB:xx:=fD 27 44 4 ["mill","letters","letter","place"] Th
def  Ti:Gb:=addF Th "place_word" 28 eB
def  bg:xx:=fD 28 45 5 ["mill","letters","letter","prices","place"] Ti
def  Tj:Gb:=addF Ti "place_cost" 29 bg
def  bx:xx:=fD 29 46 4 ["mill","letters","letter","prices","places","place"] Tj
def  Tk:Gb:=addF Tj "places_and_costs" 30 bx
def  eC:xx:=fD 30 47 2 ["ahead","costs","row","passed","least","place","cost"] Tk
def  Tl:Gb:=addF Tk "row_behind" 31 eC
def  b9:xx:=fD 31 48 4 ["mill","letters","wish","prices","table","letter","costs"] Tl
def  Tn:Gb:=addF Tl "least_table" 32 b9
def  gS:xx:=fD 32 51 2 ["group","many","letter"] Tn
def  To:Gb:=addF Tn "is_group" 33 gS
def  bh:xx:=fD 33 52 1 ["groups","found","kind","members"] To
def  Tp:Gb:=addF To "grouped_letters" 34 bh
def  bz:xx:=fD 34 53 2 ["groups","many","group"] Tp
def  Se:Gb:=addF Tp "are_groups" 35 bz
abbrev lL:U3:=["letters","members"]
abbrev gA:U3:=["letters","members"]
def k8:FnScope lL gA (ah bo):=GL
def lM:bp "as_they_come" bo gA:=Sb rfl λ_ _ _ _ _ _ _ _ _=>rfl
def  cX:xx:=aI 2 2 iT
def  Sf:Gb:=addF Se "as_they_come" 36 cX
def  cY:xx:=fD 36 55 3 ["letters","kind","members","ordered","letter"] Sf
def  Tq:Gb:=addF Sf "group_levels" 37 cY
def  bQ:xx:=fD 37 56 2 ["letters","groups","found","kind","members"] Tq
def  Tr:Gb:=addF Tq "levels_of" 38 bQ
def  bA:xx:=fD 38 57 1 ["levels","found","number","level","letter"] Tr
def  OJ:Gb:=addF Tr "numbers_of" 39 bA
abbrev cZ:U3:=["self","letters","groups","kind","members"]
abbrev fN:U3:=["self","letters","groups"]
def j6:FnScope cZ fN (ah aF):=GL
def k9:bp "__init__" aF fN:=S7 rfl λ_ _ _ _ _ _ _ _ _ _=>rfl
def lg(y:Addr):DG 60 (rL cZ aF 39 OJ) y (G0.fl "Wish") (aL aF)=lH bA bQ bz y:=by kernel_rfl
def  sw:U7->Option (List (Str×D)):=gW (lH bA bQ bz)
def  Sg:Gb:=addI OJ "Wish" 40 sw
def  aS:xx:=fD 40 60 2 ["script","k"] Sg
def  Ts:Gb:=addF Sg "_law_cell_at" 41 aS
def  bR:xx:=fD 41 61 2 ["cell","at","k"] Ts
def  Tt:Gb:=addF Ts "_law_part" 42 bR
def  eD:xx:=fD 42 62 2 ["script","many","stir","cell","cells","k","at"] Tt
def  Tu:Gb:=addF Tt "_law_cells" 43 eD
def  bS:xx:=fD 43 63 1 ["cell","pockets","k","kind","width"] Tu
def  Tv:Gb:=addF Tu "_law_pockets" 44 bS
def  dv:xx:=fD 44 64 2 ["cells","at","k"] Tv
def  Tw:Gb:=addF Tv "_law_passes" 45 dv
def  c4:xx:=fD 45 65 4 ["cells","at","count","passes","letters","k","cell","late"] Tw
def  Tz:Gb:=addF Tw "_law_letters" 46 c4
def  dA:xx:=fD 46 66 3 ["cells","at","passes","prices","k","row","j","price"] Tz
def  TB:Gb:=addF Tz "_law_prices" 47 dA
def  dB:xx:=fD 47 67 3 ["cells","at","count","order","k","groups","kind","part"] TB
def  TC:Gb:=addF TB "_law_groups" 48 dB
def  eE:xx:=fD 48 68 2 ["groups","letters","order","kind","part","pair","letter"] TC
def  TD:Gb:=addF TC "_law_order" 49 eE
def  eG:xx:=fD 49 69 1 ["passes","words","part","longer","word","pocket"] TD
def  TF:Gb:=addF TD "_law_words" 50 eG
def  bX:xx:=fD 50 70 4 ["passes","letters","letter","word","late","many","part","code","side","k"] TF
def  TH:Gb:=addF TF "_law_place" 51 bX
def  cE:xx:=fD 51 71 3 ["passes","letters","letter","found","word","size","late","k"] TH
def  TJ:Gb:=addF TH "_law_open" 52 cE
def  fO:xx:=fD 52 72 3 ["prices","late","word","k"] TJ
def  TK:Gb:=addF TJ "_law_cost" 53 fO
def  eH:xx:=fD 53 73 4 ["passes","letters","order","prices","table","letter","row","place","word","cost","lesser","other","number"] TK
def  TL:Gb:=addF TK "_law_table" 54 eH
def  eI:xx:=fD 54 74 1 ["found"] TL
def  TM:Gb:=addF TL "_law_whole" 55 eI
def  cm:xx:=fD 55 75 2 ["found","due","number"] TM
def  TN:Gb:=addF TM "_law_is_entry" 56 cm
def  bC:xx:=fD 56 76 2 ["found","due","k","j"] TN
def  TQ:Gb:=addF TN "_law_is_table" 57 bC
abbrev yn:U3:=["script","cells","passes","prices","letters","groups","order","due","handed","mill","wish","found","row","part"]
abbrev sx:U3:=["script"]
def Du:FnScope yn sx (ah kf):=GL
def GM:bp "law" kf sx:=LD rfl λ_ _ _ _ _ _ _ _=>rfl
def  OK:xx:=DI 60 57 yn sx kf TQ
structure Tx(K:Frag):Prop where
 v0:aP K "is_within" jv
 v1:aP K "is_pocket" jw
 v2:aP K "is_pass" lO
 v3:aP K "codes_of" ka
 v4:aP K "are_passes" ia
 v5:aP K "is_size" lP
 v6:aP K "is_late" lQ
 v7:aP K "is_letter" jx
 v8:aP K "look_at_letters" dX
 v9:aP K "is_price" kb
 v10:aP K "are_pass_prices" dY
 v11:aP K "look_at_prices" eP
 v12:aP K "look_at_order" fz
 v13:aP K "order_of" kc
 v14:aP K "rank_of" lR
 v15:aP K "laid" sF
 v16:aP K "sides_behind" f7
 v17:aP K "open_sides" ib
 v18:aP K "open_places" gT
 v19:aP K "word_cost" jy
 v20:aP K "look_at_late" f8
 v21:aP K "code_word" jz
 v22:aP K "place_word" ic
 v23:aP K "place_cost" ie
 v24:aP K "places_and_costs" dC
 v25:aP K "row_behind" ii
 v26:aP K "least_table" gU
 v27:aP K "is_group" ke
 v28:aP K "grouped_letters" dZ
 v29:aP K "are_groups" ik
 v30:xR K "as_they_come" bo 341
 v31:aP K "group_levels" f9
 v32:aP K "levels_of" jA
 v33:aP K "numbers_of" im
 v34:aP K "_law_cell_at" gd
 v35:aP K "_law_part" jB
 v36:aP K "_law_cells" io
 v37:aP K "_law_pockets" ge
 v38:aP K "_law_passes" gV
 v39:aP K "_law_letters" gh
 v40:aP K "_law_prices" gX
 v41:aP K "_law_groups" gY
 v42:aP K "_law_order" iq
 v43:aP K "_law_words" ir
 v44:aP K "_law_place" iw
 v45:aP K "_law_open" jC
 v46:aP K "_law_cost" jD
 v47:aP K "_law_table" iz
 v48:aP K "_law_whole" iA
 v49:aP K "_law_is_entry" fA
 v50:aP K "_law_is_table" fB
 v51:aP K "law" kf
 bl:xS K 341
 v52:jo K "Mill" "__init__" "Mill.__init__" aE
 v53:jo K "Mill" "many" "Mill.many" bD
 v54:jo K "Wish" "one_order" "Wish.one_order" aQ
 v55:jo K "Wish" "levels" "Wish.levels" bc
 v56:jo K "Mill" "codes" "Mill.codes" bn
 v57:jo K "Wish" "__init__" "Wish.__init__" aF
 v58:TCls K "Mill"
 v59:TCls K "Wish"
 v60:∃Ca,nsIn K mainGlobals "Mill"=!(!(.ref Ca))/\findIn K (.ref Ca) "passes"=!none
 v61:∃Ca,nsIn K mainGlobals "Wish"=!(!(.ref Ca))/\findIn K (.ref Ca) "groups"=!none
 v62:∃Ca,nsIn K mainGlobals "Wish"=!(!(.ref Ca))/\findIn K (.ref Ca) "level_letters"=!none
 v63:∃Ca,nsIn K mainGlobals "Wish"=!(!(.ref Ca))/\findIn K (.ref Ca) "level_numbers"=!none
 v64:∃(a:Addr)(od:Option Addr)(n:Nat)(sl:Array (U1))(t0:Tok)(t1:Tok),nsIn K mainGlobals "KINDS"=!(!(.ref a))/\K.lookup a=!⟨.type "tuple",od,.seq #[.str "queue" t0,.str "pile" t1] n,sl⟩
 v65:∃t,nsIn K mainGlobals "MOST_PASSES"=!(!(.int 6 t))
 v66:∃t,nsIn K mainGlobals "MOST_POCKETS"=!(!(.int 6 t))
 v67:∃t,nsIn K mainGlobals "MOST_WIDTH"=!(!(.int 9 t))
 v68:∃t,nsIn K mainGlobals "MOST_CODES"=!(!(.int 1000 t))
 v69:∃t,nsIn K mainGlobals "MOST_SIZE"=!(!(.int 9 t))
 v70:∃t,nsIn K mainGlobals "MOST_LETTERS"=!(!(.int 24 t))
 v71:∃(a:Addr)(od:Option Addr)(n:Nat)(sl:Array (U1))(t0:Tok)(t1:Tok)(t2:Tok),nsIn K mainGlobals "GROUP_KINDS"=!(!(.ref a))/\K.lookup a=!⟨.type "tuple",od,.seq #[.str "any" t0,.str "come" t1,.str "row" t2] n,sl⟩
 v72:nsIn K mainGlobals "all"=!none
 v73:nsIn K mainGlobals "bool"=!none
 v74:nsIn K mainGlobals "enumerate"=!none
 v75:nsIn K mainGlobals "int"=!none
 v76:nsIn K mainGlobals "isinstance"=!none
 v77:nsIn K mainGlobals "len"=!none
 v78:nsIn K mainGlobals "list"=!none
 v79:nsIn K mainGlobals "min"=!none
 v80:nsIn K mainGlobals "range"=!none
 v81:nsIn K mainGlobals "reversed"=!none
 v82:nsIn K mainGlobals "sorted"=!none
 v83:nsIn K mainGlobals "sum"=!none
 v84:nsIn K mainGlobals "tuple"=!none
 v85:nsIn K mainGlobals "zip"=!none
def gB:fH aB:=tr (Cm)
def Lc:Co ji:=tr (J7 gB)
def Dv:rO dF:=tr (Cp gB)
def Ld:Cq jh:=tr (J9 Dv)
def sy:jZ bv:=tr (FJ)
def Le:L2.sAre bw:=tr (L2.h_are Ld sy)
def Lf:Cs sv:=Ka Le
def uN:G0.fl "Mill" "passes"=true:=by kernel_rfl
def OL{k:Nat}{G:Gb}(e:G.mt "many" "Mill"=!(8,dG))(h:8<=k):Ct (G.mt "many") k:=λps=>by
 show((G.mt "many" "Mill").bind λz=>if z.1<=k/\("many":Str) ∉ [("passes":Str)]then z.2 [ay ps]else none)=_;rw[e];simp only[Option.bind_some];rw[if_pos ⟨h,by decide⟩,pN];exact Kb uN ps
def Sh:G8.mt "many" "Mill"=!(8,dG):=by kernel_rfl
def OM:G13.mt "many" "Mill"=!(8,dG):=by kernel_rfl
def Dw:xQ eN:=tr (Kc (OL (k:=8) Sh (!3)) gB)
def Si:S3 (G26.mt "codes") 26:=λps hv=>by
 have e:G26.mt "codes" "Mill"=!(25,gR):=by kernel_rfl
 show((G26.mt "codes" "Mill").bind λz=>if z.1<=26/\("codes":Str) ∉ [("passes":Str)]then z.2 [ay ps]else none)=_;rw[e];simp only[Option.bind_some];rw[if_pos (!3),pf];exact RV uN sy hv
def GN:wq cW:=tr (FM Dw)
def Dx:oT fK:=tr (zy Dw Lc)
def uO:r6 aT:=tr (Ge Dx)
def Lg:wB jj:=tr (Gg)
def Dy:qx lK:=tr (Kf)
def GO:RX fM:=tr (Gm uN Dy Si gB GN)
def Dz:r0 cV:=tr (C1 Dy)
def GP:wA bW:=tr (Gd uN Dz sy)
def GQ:wC du:=tr (Gh GP Lg uO)
def GR:wx gS:=tr (F3 gB)
def zC:oP bh:=tr (zr)
def Lh:sAre bz:=tr (h_are zC GR)
def Li:CT cX:=tr (Kp)
def Sj:RQ cY:=tr (RS Li)
def ON:Kw bQ:=tr (N7 Sj)
def OO:Kt bA:=tr (N5)
def Lj:CY sw:=KA OO ON Lh
def Lk:Cv aS:=tr (Kd)
def Ll:Cw bR:=tr (Ke)
def GS:wE fg:=tr (Gn gB)
def OP:KE bI:=tr (Oc GS)
def DA:se bV:=tr (C7 uN OP (OL (k:=13) OM (!3)))
def OQ:G0.fl "Wish" "level_letters"=true:=by kernel_rfl
def OR:G15.mt "one_order" "Wish"=!(15,dk):=by kernel_rfl
def OS:G17.mt "levels" "Wish"=!(17,fZ):=by kernel_rfl
def OT:Gc dk:=tr (Oa OQ)
def OU:F9 fZ:=tr (N9 OQ)
def OV:KN ck:=tr (Og (kk:=15) OR (!3) OT)
def OW:KO gQ:=tr (Oh (kk:=17) OS (!3) OU)
def Sk:LB fL:=tr (RY)
def Sm:R0 eB:=tr (R1 GO)
def So:R3 bg:=tr (R4 Sm Sk)
def OX:KI bx:=tr (Of So GQ)
def OY:KG eC:=tr (Oe)
def Sq:R5 b9:=tr (R6 OW OY OX DA OV uO)
def z_cells:wG eD:=tr (GB Lk Ll)
def OZ:K0 bS:=tr (Oq)
def z_pas:K1 dv:=tr (Os OZ)
def O0:K2 c4:=tr (Ot)
def z_prices:sr dA:=tr (Dm)
def O6:K4 dB:=tr (Ov)
def Lm:Dp eE:=tr (K5)
def GU:KQ eG:=tr (Ol)
def O7:KW bX:=tr (Oo)
def O8:KY cE:=tr (Op GU O7)
def GV:LB fO:=tr (Gp)
def O9:Gx cE eH:=tr (P:=Gx cE) (Oi GV)
def Pa:K9 eI:=tr (OG)
def Pb:La cm:=tr (OH Pa)
def Sr:R9 bC:=tr (Sa Pb)
def Pc:∀ns:U4,ns.length<=63->b7 (OK [.lst (ns.map D.int)])=!(.bl true):=λns hn=>by
 exact tr (P:=λf:Fn=>b7 (f [.lst (ns.map D.int)])=!(.bl true)) (GK Sq Sr Lj Lf O9 O8 Lm O6 O0 z_prices z_pas z_cells ns hn)
def dW{K}{st}(f:Addr)(z:Str)(n c:Nat)(a:(nsIn K mainGlobals x,K.lookup f,PySem.W.codeIn K (.ref c) x,PySem.W.keepIn K (.ref f))=(!(!(.ref f)),!⟨.type "function",none,.func (PySem.W.fnOf x x (bG st) (aL st) (ah st) .none .none .none (.str z n) none (.ref c) .none),#[]⟩,true,true):=by kernel_rfl):aP K x st:=by
 simp only[Prod.mk.injEq]at a;exact RL a.1 a.2.1 a.2.2.1 a.2.2.2
def lN(P:Params):xR (KK P) "as_they_come" bo 341:=⟨346,345,(.type "function"),none,none,#[],.none,.none,(.str "pocketmill.wishes" 610),.none,by kernel_rfl,by kernel_rfl,by kernel_rfl,by kernel_rfl,by kernel_rfl⟩
def Ss(P:Params):xS (KK P) 341:=⟨4,⟨.type "module",some 0,.plain,#[]⟩,by kernel_rfl,by decide,by decide,by decide,by kernel_rfl,rfl,rfl,rfl⟩
def lh(P:Params):jo (KK P) "Mill" "__init__" "Mill.__init__" aE:=zk (Ca:=186) (f:=169) (oc:=(.type "function")) (od:=none) (an:=none) (osl:=#[]) (kV:=.none) (doc:=.none) (pm:=(.str "pocketmill.mills" 326)) (cdv:=(.ref 168)) (ct:=.none) (!2) (!2) (!2) (!2) (!2) (!2)
def pO(P:Params):jo (KK P) "Mill" "many" "Mill.many" bD:=zk (Ca:=186) (f:=183) (oc:=(.type "function")) (od:=none) (an:=none) (osl:=#[]) (kV:=.none) (doc:=.none) (pm:=(.str "pocketmill.mills" 326)) (cdv:=(.ref 182)) (ct:=.none) (!2) (!2) (!2) (!2) (!2) (!2)
def j7(P:Params):jo (KK P) "Wish" "one_order" "Wish.one_order" aQ:=zk (Ca:=418) (f:=415) (oc:=(.type "function")) (od:=none) (an:=none) (osl:=#[]) (kV:=.none) (doc:=.none) (pm:=(.str "pocketmill.wishes" 610)) (cdv:=(.ref 414)) (ct:=.none) (!2) (!2) (!2) (!2) (!2) (!2)
def mP(P:Params):jo (KK P) "Wish" "levels" "Wish.levels" bc:=zk (Ca:=418) (f:=382) (oc:=(.type "function")) (od:=none) (an:=none) (osl:=#[]) (kV:=.none) (doc:=.none) (pm:=(.str "pocketmill.wishes" 610)) (cdv:=(.ref 381)) (ct:=.none) (!2) (!2) (!2) (!2) (!2) (!2)
def ph(P:Params):jo (KK P) "Mill" "codes" "Mill.codes" bn:=zk (Ca:=186) (f:=176) (oc:=(.type "function")) (od:=none) (an:=none) (osl:=#[]) (kV:=.none) (doc:=.none) (pm:=(.str "pocketmill.mills" 326)) (cdv:=(.ref 175)) (ct:=.none) (!2) (!2) (!2) (!2) (!2) (!2)
def li(P:Params):jo (KK P) "Wish" "__init__" "Wish.__init__" aF:=zk (Ca:=418) (f:=377) (oc:=(.type "function")) (od:=none) (an:=none) (osl:=#[]) (kV:=.none) (doc:=.none) (pm:=(.str "pocketmill.wishes" 610)) (cdv:=(.ref 376)) (ct:=.none) (!2) (!2) (!2) (!2) (!2) (!2)
def mQ(P:Params):∃(a:Addr)(od:Option Addr)(n:Nat)(sl:Array (U1))(t0:Tok)(t1:Tok)(t2:Tok),nsIn (KK P) mainGlobals "GROUP_KINDS"=!(!(.ref a))/\(KK P).lookup a=!⟨.type "tuple",od,.seq #[.str "any" t0,.str "come" t1,.str "row" t2] n,sl⟩:=⟨322,none,0,#[],612,613,614,by kernel_rfl,by kernel_rfl⟩
def tx(P:Params):Tx (KK P):=⟨dW 126 nk 326 125,dW 140 nk 326 139,dW 145 nk 326 144,dW 157 nk 326 156,dW 150 nk 326 149,dW 133 nk 326 132,dW 197 nk 326 196,dW 225 Lp 465 224,dW 230 Lp 465 229,dW 261 pi 517 260,dW 266 pi 517 265,dW 271 pi 517 270,dW 278 pi 517 277,dW 288 pi 517 287,dW 237 Lp 465 236,dW 211 nk 326 210,dW 242 Lo 491 241,dW 249 Lo 491 248,dW 254 Lo 491 253,dW 283 pi 517 282,dW 204 nk 326 203,dW 218 nk 326 217,dW 295 pi 517 294,dW 302 pi 517 301,dW 307 pi 517 306,dW 314 pi 517 313,dW 321 pi 517 320,dW 327 uP 610 326,dW 334 uP 610 333,dW 339 uP 610 338,lN P,dW 351 uP 610 350,dW 358 uP 610 357,dW 365 uP 610 364,dW 429 hZ 749 428,dW 436 hZ 749 435,dW 441 hZ 749 440,dW 448 hZ 749 447,dW 453 hZ 749 452,dW 460 hZ 749 459,dW 467 hZ 749 466,dW 474 hZ 749 473,dW 479 hZ 749 478,dW 486 hZ 749 485,dW 493 hZ 749 492,dW 498 hZ 749 497,dW 503 hZ 749 502,dW 508 hZ 749 507,dW 515 hZ 749 514,dW 520 hZ 749 519,dW 525 hZ 749 524,dW 530 hZ 749 529,Ss P,lh P,pO P,j7 P,mP P,ph P,li P,NY (Ca:=186) (!2) (!2) (!2) (!2) (!2) (!2) (!2),NY (Ca:=418) (!2) (!2) (!2) (!2) (!2) (!2) (!2),P0 (Ca:=186) (!2) (!2),P0 (Ca:=418) (!2) (!2),P0 (Ca:=418) (!2) (!2),P0 (Ca:=418) (!2) (!2),NZ (a:=119) (od:=none) (n:=0) (sl:=#[]) (t0:=328) (t1:=329) (!2) (!2),zm (t:=331) (!2),zm (t:=333) (!2),zm (t:=335) (!2),zm (t:=337) (!2),zm (t:=339) (!2),zm (t:=467) (!2),mQ P,(!2),(!2),(!2),(!2),(!2),(!2),(!2),(!2),(!2),(!2),(!2),(!2),(!2),(!2)⟩
section
variable{P:Program}{w:World}{K:Frag}{mg:Str->U1}{base h:Heap}
def gF{G:Gb}{N ps:U3}{st:Stmt}{x:Str}(z:K.In h/\h.Ns mainGlobals mg/\Tx K)(g:GbOk P w K mg base G)(k:Nat)(t:aP K x st)(S:FnScope N ps (ah st):=by exact GL)(b:bp x st ps:=by first|exact LD rfl λ_ _ _ _ _ _ _ _=>rfl|exact Sb rfl λ_ _ _ _ _ _ _ _ _=>rfl|exact S7 rfl λ_ _ _ _ _ _ _ _ _ _=>rfl|exact UD rfl λ_ _ _ _ _ _ _ _ _ _ _=>rfl|exact UE rfl λ_ _ _ _ _ _ _ _ _ _ _ _=>rfl):GbOk P w K mg base (addF G x (k+1) (DI 60 k N ps st G)):=g.addF (NM g z.1 z.2.1 60 k S b t)
variable(z:K.In h/\h.Ns mainGlobals mg/\Tx K)
include z
def g0:GbOk P w K mg base G0 where
 fn:=λx k f e=>nomatch e
 cn:=λx d e=>by
  simp only[G0]at e;split at e
  .rename_i q;cases e;rw[q];exact cn_2str z.1 z.2.1 z.2.2.v64
  split at e
  .rename_i q;cases e;rw[q];exact cn_int z.1 z.2.1 z.2.2.v65
  split at e
  .rename_i q;cases e;rw[q];exact cn_int z.1 z.2.1 z.2.2.v66
  split at e
  .rename_i q;cases e;rw[q];exact cn_int z.1 z.2.1 z.2.2.v67
  split at e
  .rename_i q;cases e;rw[q];exact cn_int z.1 z.2.1 z.2.2.v68
  split at e
  .rename_i q;cases e;rw[q];exact cn_int z.1 z.2.1 z.2.2.v69
  split at e
  .rename_i q;cases e;rw[q];exact cn_int z.1 z.2.1 z.2.2.v70
  split at e
  .rename_i q;cases e;rw[q];exact cn_3str z.1 z.2.1 z.2.2.v71
  cases e
 no:=λx e=>by
  dsimp only[G0]at e;by_cases q:x=("all":Str)
  .rw[q];exact PySem.W.mg_none_of z.1 z.2.1 z.2.2.v72
  rw[if_neg q]at e;clear q;by_cases q:x=("bool":Str)
  .rw[q];exact PySem.W.mg_none_of z.1 z.2.1 z.2.2.v73
  rw[if_neg q]at e;clear q;by_cases q:x=("enumerate":Str)
  .rw[q];exact PySem.W.mg_none_of z.1 z.2.1 z.2.2.v74
  rw[if_neg q]at e;clear q;by_cases q:x=("int":Str)
  .rw[q];exact PySem.W.mg_none_of z.1 z.2.1 z.2.2.v75
  rw[if_neg q]at e;clear q;by_cases q:x=("isinstance":Str)
  .rw[q];exact PySem.W.mg_none_of z.1 z.2.1 z.2.2.v76
  rw[if_neg q]at e;clear q;by_cases q:x=("len":Str)
  .rw[q];exact PySem.W.mg_none_of z.1 z.2.1 z.2.2.v77
  rw[if_neg q]at e;clear q;by_cases q:x=("list":Str)
  .rw[q];exact PySem.W.mg_none_of z.1 z.2.1 z.2.2.v78
  rw[if_neg q]at e;clear q;by_cases q:x=("min":Str)
  .rw[q];exact PySem.W.mg_none_of z.1 z.2.1 z.2.2.v79
  rw[if_neg q]at e;clear q;by_cases q:x=("range":Str)
  .rw[q];exact PySem.W.mg_none_of z.1 z.2.1 z.2.2.v80
  rw[if_neg q]at e;clear q;by_cases q:x=("reversed":Str)
  .rw[q];exact PySem.W.mg_none_of z.1 z.2.1 z.2.2.v81
  rw[if_neg q]at e;clear q;by_cases q:x=("sorted":Str)
  .rw[q];exact PySem.W.mg_none_of z.1 z.2.1 z.2.2.v82
  rw[if_neg q]at e;clear q;by_cases q:x=("sum":Str)
  .rw[q];exact PySem.W.mg_none_of z.1 z.2.1 z.2.2.v83
  rw[if_neg q]at e;clear q;by_cases q:x=("tuple":Str)
  .rw[q];exact PySem.W.mg_none_of z.1 z.2.1 z.2.2.v84
  rw[if_neg q]at e;clear q;by_cases q:x=("zip":Str)
  .rw[q];exact PySem.W.mg_none_of z.1 z.2.1 z.2.2.v85
  rw[if_neg q]at e;clear q;cases e
 fl:=λC m Ca e hc=>by
  simp only[G0]at e;split at e
  .rename_i q;rw[q.1]at hc;exact⟨m7 z.2.2.v58 hc,fl_one z.2.2.v60 q.2 Ca hc⟩
  split at e
  .rename_i q;rw[q.1]at hc;exact⟨m7 z.2.2.v59 hc,fl_one z.2.2.v61 q.2 Ca hc⟩
  split at e
  .rename_i q;rw[q.1]at hc;exact⟨m7 z.2.2.v59 hc,fl_one z.2.2.v62 q.2 Ca hc⟩
  split at e
  .rename_i q;rw[q.1]at hc;exact⟨m7 z.2.2.v59 hc,fl_one z.2.2.v63 q.2 Ca hc⟩
  cases e
 mt:=λm C k f e=>nomatch e
 ini:=λC k g e=>nomatch e
def g5:GbOk P w K mg base G5:=gF z (gF z (gF z (gF z (gF z (g0 z) 0 z.2.2.v0) 1 z.2.2.v1) 2 z.2.2.v2) 3 z.2.2.v3) 4 z.2.2.v4
def g6:GbOk P w K mg base G6:=by
 have g:GbOk P w K mg base G5:=g5 z;exact g.addI (Hx g z.1 z.2.1 60 5 (G0.fl "Mill") j4 kZ z.2.2.v58 z.2.2.v52 (λf e=>by
  simp only[G0]at e;split at e
  .rename_i q;exact fl_one z.2.2.v60 q.2
  cases e) (λds r hr y=>by
  rw[show(λy=>DG 60 (rL cU aE 5 G5) y (G0.fl "Mill") (aL aE))=oC bw from funext k7];exact wn ds r hr y))
def g7:GbOk P w K mg base G7:=gF z (g6 z) 6 z.2.2.v5
def g8:GbOk P w K mg base G8:=by
 have g:GbOk P w K mg base G7:=g7 z;exact g.addM (xF g 60 7 pd pM z.2.2.v58 z.2.2.v53)
def UF:GbOk P w K mg base P3:=gF z (gF z (gF z (gF z (gF z (gF z (g8 z) 8 z.2.2.v6) 9 z.2.2.v7) 10 z.2.2.v8) 11 z.2.2.v9) 12 z.2.2.v10) 13 z.2.2.v11
def UG:GbOk P w K mg base G15:=by
 have g:GbOk P w K mg base P3:=UF z;exact g.addM (xF g 60 14 ju j5 z.2.2.v59 z.2.2.v54)
def UH:GbOk P w K mg base P4:=gF z (UG z) 15 z.2.2.v12
def UI:GbOk P w K mg base G17:=by
 have g:GbOk P w K mg base P4:=UH z;exact g.addM (xF g 60 16 lJ mN z.2.2.v59 z.2.2.v55)
def UJ:GbOk P w K mg base P5:=gF z (gF z (gF z (gF z (gF z (gF z (gF z (UI z) 17 z.2.2.v13) 18 z.2.2.v14) 19 z.2.2.v15) 20 z.2.2.v16) 21 z.2.2.v17) 22 z.2.2.v18) 23 z.2.2.v19
def UK:GbOk P w K mg base Sc:=by
 have g:GbOk P w K mg base P5:=UJ z;exact g.addM (xF g 60 24 mO pe z.2.2.v58 z.2.2.v56)
def UL:GbOk P w K mg base Se:=gF z (gF z (gF z (gF z (gF z (gF z (gF z (gF z (gF z (gF z (UK z) 25 z.2.2.v20) 26 z.2.2.v21) 27 z.2.2.v22) 28 z.2.2.v23) 29 z.2.2.v24) 30 z.2.2.v25) 31 z.2.2.v26) 32 z.2.2.v27) 33 z.2.2.v28) 34 z.2.2.v29
def UM:GbOk P w K mg base Sf:=by
 have g:GbOk P w K mg base Se:=UL z;exact g.addF (FT g z.1 z.2.1 35 179 k8 lM z.2.2.v30 z.2.2.bl (!2) rfl (!3) (!2) (!2) (!2) (!2))
def UN:GbOk P w K mg base OJ:=gF z (gF z (gF z (UM z) 36 z.2.2.v31) 37 z.2.2.v32) 38 z.2.2.v33
def UO:GbOk P w K mg base Sg:=by
 have g:GbOk P w K mg base OJ:=UN z;exact g.addI (Hx g z.1 z.2.1 60 39 (G0.fl "Wish") j6 k9 z.2.2.v59 z.2.2.v57 (λf e=>by
  simp only[G0]at e;split at e
  .rename_i q;exact absurd q.1 (!3)
  split at e
  .rename_i q;exact fl_one z.2.2.v61 q.2
  split at e
  .rename_i q;exact fl_one z.2.2.v62 q.2
  split at e
  .rename_i q;exact fl_one z.2.2.v63 q.2
  cases e) (λds r hr y=>by
  rw[show(λy=>DG 60 (rL cZ aF 39 OJ) y (G0.fl "Wish") (aL aF))=lH bA bQ bz from funext lg];exact Kz hr y))
def UP:GbOk P w K mg base TQ:=gF z (gF z (gF z (gF z (gF z (gF z (gF z (gF z (gF z (gF z (gF z (gF z (gF z (gF z (gF z (gF z (gF z (UO z) 40 z.2.2.v34) 41 z.2.2.v35) 42 z.2.2.v36) 43 z.2.2.v37) 44 z.2.2.v38) 45 z.2.2.v39) 46 z.2.2.v40) 47 z.2.2.v41) 48 z.2.2.v42) 49 z.2.2.v43) 50 z.2.2.v44) 51 z.2.2.v45) 52 z.2.2.v46) 53 z.2.2.v47) 54 z.2.2.v48) 55 z.2.2.v49) 56 z.2.2.v50
end
def fin{P:Program}{w:World}{K:Frag}{mg:Str->U1}{h:Heap}{fa:Addr}(X:K.In h)(hN:h.Ns mainGlobals mg)(hfa:mg "law"=!(.ref fa))(T:Tx K):
  ∃fd:FuncData,(∀(s:Shared)(v:Value),BindsTo s fd ⟨[v],[]⟩ [("script",v)])/\∀base:Heap,K.In base->base.Ns mainGlobals mg->FnOk P w K mg base qV 58 fa fd ["script"] (Px K):=
 Kg 60 57 X hN hfa Du GM T.v51 (λbase KB hB=>UP ⟨KB,hB,T⟩) Pc
end K16
open PySem PySem.W PyProof.Rows
set_option maxRecDepth 100000 in
set_option maxHeartbeats 0 in
theorem PySem.Challenge.cw_pocketmill_k50_least_tables_holds : PySem.Challenge.rw_pocketmill_k50_least_tables.Holds := by
  refine holds_law K16.t_said fun said=>?_
  refine holds_open (q:=K16.Q) (loose:=[]) (Xt:=K16.XT) (XP:=XL K16.Q []) (Yf:=Hook.obs (kHook K16.KT K16.adr K16.adr_ok)) (Ya:=Hook.val (kHook K16.KT K16.adr K16.adr_ok)) (YP:=Hook.says (kHook K16.KT K16.adr K16.adr_ok)) (N:=K16.NN) K16.t_left (Hook.of _) (Hook.keeps _) (fun s e=>xl_of s (Bool.and_eq_true_iff.mp e).1) XL.keeps (by rfl) (by rfl) (by rfl) (fun s e=>recFacts_of (Bool.and_eq_true_iff.mp e).2) (by rfl) (by first | assumption | decide +kernel) (by decide +kernel) ⟨rfl,rfl,rfl,rfl,rfl,by decide +kernel⟩ ?hw ?hc
  case hw=>w_witness2
  case hc =>
  refine L2.walkL (l:=PySem.Challenge.rw_pocketmill_k50_least_tables) (k:=58) rfl rfl ⟨rfl,by decide,by decide⟩ (K:=K16.KK) (fun w h ρ=>(L2.cons_in (!2) (PySem.W.kIn_of ρ)).1) (fun w h ρ=>L2.tabs_of (c0:=345) rfl (!2) (L2.cons_in (!2) (PySem.W.kIn_of ρ)).1 (L2.cons_in (!2) (PySem.W.kIn_of ρ)).2 (!2)) ?F
  case F =>
  intro w mg fa h KX G hmg
  exact K16.fin KX G hmg (K16.tx w.params)
#print axioms PySem.Challenge.cw_pocketmill_k50_least_tables_holds
