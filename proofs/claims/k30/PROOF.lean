import PyProof.Rows.All
import Wide.All
import OpenK.AllK
import Wide.FinOn
import Lean
import PyProof.EqAt
import PyProof.EqKinds
import PyProof.TupleCall
import PySem.Challenge.RW_pocketmill_k30_whole_fewest
set_option compiler.extract_closed false
set_option genSizeOf false
set_option bootstrap.genMatcherCode false
set_option Elab.async false
set_option linter.all false
set_option maxRecDepth 100000
set_option maxHeartbeats 4000000
open Lean Parser.Tactic in
local macro_rules|`(tactic|let[$a,*]:=$e)=>do
 let p<-(<-`([$a,*])).raw.rewriteBottomUpM fun s=>do match s with
  |`([$a,*])=>let b<-a.getElems.mapM fun x=>`(rcasesPatLo|$(⟨x⟩):rcasesPat);`(rcasesPat|⟨$b,*⟩)
  |`(_)=>`(rcasesPat|_)
  |_=>if s.isIdent then `(rcasesPat|$(⟨s⟩):ident) else pure s
 `(tactic|obtain $(⟨p⟩):rcasesPat:=$e)
local macro_rules|`(!$x)=>`(some $x)
open Lean Parser.Command in
local macro_rules|`($m:declModifiers def%$t $i $s:optDeclSig $v:declVal)=>do
 unless t.getTrailingSize==1 do Macro.throwUnsupported
 return mkNode ``declaration #[m,mkNode ``«theorem» #[mkAtom "theorem",i,mkNode ``declSig #[s.raw[0],s.raw[1][0]],v]]
open Lean in
local macro_rules|`(#[%$t$a,*])=>if t.getTrailingSize==0 then `(⟨$a,*⟩) else Macro.throwUnsupported
set_option hygiene false
local macro_rules|`(!1)=>`(by kernel_rfl)
local macro_rules|`(!2)=>`(by decide)
local macro_rules|`(!3)=>`(model X.prog X.w)
local macro_rules|`(!4)=>`(ps.drop t)
local macro_rules|`(!5)=>`(x==("__debug__":Str))
local macro_rules|`(!6)=>`(by omega)
local macro_rules|`(!7)=>`(model prog w)
local macro_rules|`(!8)=>`(r.map λ(k:Nat)=>D.int (k:Int))
local macro_rules|`(!9)=>`(evX_lfs (d:=.lst []) (ds:=[]) (by simp) rfl (by simp) rfl)
local macro_rules|`(!10)=>`(fin_bl I q (by simp))
local macro_rules|`(!11)=>`(da q g body scope j ((X.mg "__name__").getD .none) p l)
local macro_rules|`(!12)=>`(.ListComp elt [⟨tg,iter,ifs,0⟩] scope pos)
local macro_rules|`(!13)=>`(x1 (va 4))
local macro_rules|`(!14)=>`(!(J,bz (ps.take (bse ls+x))))
local macro_rules|`(!15)=>`(x==("__classdict__":Str))
local macro_rules|`(!16)=>`(by decide+kernel)
local macro_rules|`(!17)=>`(.Call (.Name x p) (e::es) [] pos)
local macro_rules|`(!18)=>`(pU X scope C s H fp)
local macro_rules|`(!19)=>`(backTo pos (starEach es X.env))
local macro_rules|`(!20)=>`(x2 (va 2) (aa aG (pj (va 0) aw mt_many kk "many") (cI 1)))
local macro_rules|`(!21)=>`(s.heap.objs.size+1)
local macro_rules|`(!22)=>`(List.range n)
local macro_rules|`(!23)=>`(ps.map λp=>[p.1,p.2])
local macro_rules|`(!24)=>`(!(.ref Ca))
local macro_rules|`(!25)=>`(ae (dA (ae (cT "list") (ae (cT "tuple") aw))) aw)
local macro_rules|`(!26)=>`(List.replicate ls.length [])
local macro_rules|`(!27)=>`(x4 (va 0) (va 1) (va 8) (va 4))
local macro_rules|`(!28)=>`(λ_ h=>(nomatch h))
local macro_rules|`(!29)=>`(g3.push {cls:=.type "tuple",data:=.seq (List.toArray [.int k tk,x])})
local macro_rules|`(!30)=>`(ps.take t)
local macro_rules|`(!31)=>`(s.1/p.length)
local macro_rules|`(!32)=>`((wH (bse ls) ps.length).map λ(k:Nat)=>D.int (k:Int))
local macro_rules|`(!33)=>`(!(.ref a))
local macro_rules|`(!34)=>`(.tup [u,v,bg g])
local macro_rules|`(!35)=>`(sn (iN (bse ls+x)))
local macro_rules|`(!36)=>`((L.map (po U b)).map bD)
local macro_rules|`(!37)=>`((List.range m).filter λk=>decide (s<=(gC p k).2))
local macro_rules|`(!38)=>`(aa ax (va 0) (cI 2))
local macro_rules|`(!39)=>`(List (Str×D))
local macro_rules|`(!40)=>`(sIx items.size items.size hi-sIx items.size 0 lo)
set_option hygiene true
noncomputable section
namespace HD
open PySem PySem.W PyProof.Rows
noncomputable abbrev S0(w:World)(os:OsState):Shared:=#[boot_heap w.params,Array.mk [],boot_drawn,boot_toks,os]
def left_of{Ya:World->α}{F:World->OsState->Shared}(o:∀w:World,(fencedOpening treeTable p w N).map (λs=>(s.heap,s.gens,s.drawn,s.toks))=!(boot_heap w.params,Array.mk [],boot_drawn,boot_toks))(sz:∀w:World,(boot_heap w.params).isNs mainGlobals=true/\(boot_heap w.params).objs.size=m₀/\(boot_heap w.params).nsMap mainGlobals "__annotations__"=ann)(rn:∀w os,topRun treeTable p w m₀ ann M (S0 w os) (topStub p)=!F w os)(le:M<=N)(lk:∀w os,(staticsOk (importedModules p.main.body) (boot_heap w.params) (F w os).heap&&namesBound p (F w os).heap&&gensDone (F w os)&&laidKept (boot_heap w.params) (F w os).heap,openSeen q loose (importedModules p.main.body) Xt true (F w os),Yf (F w os))=(true,openGood q loose,Ya w)):LeftO p q loose Xt Yf Ya N:=by
 intro w;let[s,e,e']:=Option.map_eq_some_iff.mp (o w);cases s with|mk h gs d k os=>
 simp only[Prod.mk.injEq]at e';let[a1,a2,a3,a4]:=e';subst a1 a2 a3 a4;let[z1,z2,z3]:=sz w;have l:=lk w os;simp only[Prod.mk.injEq]at l;let[l1,l2,l3]:=l;have r:=topRun_mono (N-M) _ _ _ _ (rn w os);rw[show M+(N-M)=N from Nat.add_sub_cancel' le]at r;have t:topFrom treeTable p w N (S0 w os)=!F w os:=by unfold topFrom;rw[z2,z3,r];simp only[z1];show(match staticsOk (importedModules p.main.body) (boot_heap w.params) (F w os).heap&&namesBound p (F w os).heap&&gensDone (F w os)&&laidKept (boot_heap w.params) (F w os).heap with|true=>_|false=>_)=_;rw[l1]
 unfold openEnds;rw[e];show Option.map _ (topFrom treeTable p w N (S0 w os))=_;rw[t];exact congrArg some (Prod.ext l2 l3)
noncomputable abbrev K9:=@PySem.W.Fast.tw10110043849684766642
noncomputable abbrev La:=@PySem.W.Fast.tw14364793385576792824
noncomputable abbrev zQ:=@PySem.W.Fast.tw12563942051412417395
def Lb:@segRunT=@K9:=PySem.W.Fast.te10110043849684766642
def Lc:@treeTable=@La:=PySem.W.Fast.te14364793385576792824
def DZ:@execs=@zQ:=PySem.W.Fast.te12563942051412417395
noncomputable def  put:List Obj->Nat->BT->BT
|[],_,t=>t|o::l,i,t=>put l (i+1) (t.ins i o)
def  Ld(s:Shared):SharedT:=#[put s.heap.objs.toList 0 .nil,s.heap.objs.size,s.heap.life,s.gens,s.drawn,s.toks,s.os]
noncomputable def  RC(d:Shared):Option (Shared×Thread)->Shared
|some (s,_)=>s|none=>d
noncomputable def  KU(d:Shared):Option (Flow×Shared×Code×Pos)->Shared
|some (_,s,_)=>s|none=>d
noncomputable def  GN(d:SharedT):Option (Flow×SharedT×Code×Pos)->SharedT
|some (_,s,_)=>s|none=>d
def SN(h:o.map (·.2)=!t):o=!(RC d o,t):=by cases o with
|none=>cases h|some z=>cases h;rfl
def SO(h:o.map (λr=>(r.1,r.2.2))=!(f,c,q)):o=!(f,KU d o,c,q):=by cases o with
|none=>cases h|some z=>let[a,b,x,y]:=z;cases h;rfl
def SQ(h:o.map (λr=>(r.1,r.2.2))=!(f,c,q)):o=!(f,GN d o,c,q):=by cases o with
|none=>cases h|some z=>let[a,b,x,y]:=z;cases h;rfl
section
variable(p:Program)(m₀:Nat)(ann:Option Value)(env:Env)(q pa pb:Pos)(k1 k2 k3:Nat)
noncomputable abbrev cd:Code:=.body (behindTheImports p) env
def  A(w:World)(os:OsState):Option (Shared×Thread):=topGo treeTable p w m₀ ann k1 (S0 w os) (topStub p)
def  SA(w:World)(os:OsState):Shared:=RC (S0 w os) (A p m₀ ann k1 w os)
def  B(w:World)(os:OsState):Option (Flow×Shared×Code×Pos):=segRun treeTable p w m₀ ann 1 k2 (SA p m₀ ann k1 w os) (blockOf (behindTheImports p) env (cd p env) pa [topFrame q])
def  SB(w:World)(os:OsState):Shared:=KU (S0 w os) (B p m₀ ann env q pa k1 k2 w os)
def  C(w:World)(os:OsState):Option (Flow×SharedT×Code×Pos):=K9 La p w m₀ ann 1 k3 (Ld (SB p m₀ ann env q pa k1 k2 w os)) #[(zQ (behindTheImports p) env).wrap doneF deadEnd id id,cd p env,pb,[topFrame q]]
def Le(w:World)(os:OsState):C p m₀ ann env q pa pb k1 k2 k3 w os=segRunT treeTable p w m₀ ann 1 k3 (Ld (SB p m₀ ann env q pa k1 k2 w os)) (piecesOf (behindTheImports p) env (cd p env) pb [topFrame q]):=by unfold C piecesOf;rw[Lb,Lc,DZ]
def  SC(w:World)(os:OsState):SharedT:=GN (Ld (S0 w os)) (C p m₀ ann env q pa pb k1 k2 k3 w os)
end
def run_of(hA:∀w os,(A p m₀ ann k1 w os).map (·.2)=!#[denote treeTable (cd p env),cd p env,pa,[topFrame q]])(hB:∀w os,(B p m₀ ann env q pa k1 k2 w os).map (λr=>(r.1,r.2.2))=!(.next,cd p env,pb))(hT:∀w os,(Ld (SB p m₀ ann env q pa k1 k2 w os)).abs=SB p m₀ ann env q pa k1 k2 w os)(hC:∀w os,(C p m₀ ann env q pa pb k1 k2 k3 w os).map (λr=>(r.1,r.2.2))=!(.next,cd p env,pc))(hF:∀w s,topRun treeTable p w m₀ ann k4 s #[doneF .next,cd p env,pc,[topFrame q]]=!s)(w:World)(os:OsState):topRun treeTable p w m₀ ann (k1+(k2+(k3+k4))) (S0 w os) (topStub p)=some (SC p m₀ ann env q pa pb k1 k2 k3 w os).abs:=by
 have a:=SN (d:=S0 w os) (hA w os);have c:=SQ (d:=Ld (S0 w os)) (hC w os);rw[Le]at c;have c:=segRun_of c;rw[hT,<-Le]at c;refine go_top a (piece_block (SO (d:=S0 w os) (hB w os)) ?_);have k:=piece_app c (piece_nil (hF w _));rw[List.append_nil]at k;exact k
end HD
open List(length_map set_cons_succ set_cons_zero size_toArray getElem?_map getElem?_eq_getElem mem_cons_self mem_cons_of_mem mem_append_right length_append mem_of_getElem? length_range getElem?_append_left mem_singleton length_cons mem_append getElem?_append_right mem_cons mem_append_left)
open Option(map_some)
open PySem.W(nsIn findIn Frag)
open Bool(and_eq_true)
open Nat(lt_of_lt_of_le le_refl lt_of_le_of_lt)
namespace L2
open PySem PySem.Spec PyProof.Rows
abbrev _root_.Uk:=Option Int
abbrev _root_.Ui:=List Expr
abbrev _root_.Ug:=Array Value
abbrev _root_.Ue:=Addr->Bool
abbrev _root_.Ud:=List Int
abbrev _root_.Uc:=List Str
abbrev _root_.Ub:=List Nat
abbrev _root_.Ua:=Option Value
abbrev _root_.T9:=List Value
abbrev _root_.T8:=Value->Shared->Prop
abbrev _root_.T5:=List (Addr×Obj)
abbrev _root_.UJ:=@wpAny_mono
abbrev _root_.UI:=@le_refl
abbrev _root_.UH:=@mem_of_getElem?
abbrev _root_.UG:=@List.mem_range
abbrev _root_.UF:=@Nat.le_of_lt
abbrev _root_.UE:=@Nat.lt_irrefl
abbrev _root_.UD:=@mem_append_right
abbrev _root_.UC:=@mem_append_left
abbrev _root_.UB:=@wpAny_of_eq
abbrev _root_.UA:=@List.mem_map
abbrev _root_.Uz:=@Nat.ne_of_lt
abbrev _root_.Uy:=@Nat.le_trans
abbrev _root_.Ux:=@lt_of_le_of_lt
abbrev _root_.Uw:=@lt_of_lt_of_le
abbrev _root_.Uv:=@of_decide_eq_true
abbrev _root_.Uu:=@mem_cons_of_mem
abbrev _root_.Ut:=@mem_cons_self
abbrev _root_.Us:=@List.getElem?_eq_some_iff
abbrev _root_.Ur:=@Bool.false_ne_true
abbrev _root_.Uq:=@Heap.get?_push_size
abbrev _root_.Up:=@Heap.lt_size
abbrev _root_.Uo:=@wpAny_pure
abbrev _root_.Um:=@Heap.get?_push_of_some
abbrev _root_.Ul:=@wpAny_bind
noncomputable def  kf(s:Stmt)(j:Nat):Stmt:=match s with
|.ClassDef _ _ _ body _ _ _ _ _ _ _=>body.getD j (.Pass #[0,0,0,0])|_=>.Pass #[0,0,0,0]
noncomputable def  b7(s:Stmt):Arguments:=match s with
|.FunctionDef _ a _ _ _ _ _ _ _ _=>a|_=>{posonlyargs:=[],args:=[],vararg:=none,kwonlyargs:=[],kw_defaults:=[],kwarg:=none,defaults:=[]}
noncomputable def  aL(s:Stmt):List Stmt:=match s with
|.FunctionDef _ _ b _ _ _ _ _ _ _=>b|_=>[]
noncomputable def  ao(s:Stmt):Scope:=match s with
|.FunctionDef _ _ _ _ _ _ sc _ _ _=>sc|_=>{kind:=.function,names:=[],isGenerator:=false,isCoroutine:=false}
end L2
namespace K16
open PySem PySem.Spec PyProof.Rows L2
noncomputable def  top(i:Nat):Stmt:=PySem.Challenge.pw_pocketmill_k30_whole_fewest.main.body.getD i (.Pass #[0,0,0,0])
abbrev jw:Stmt:=top 16
abbrev jx:Stmt:=top 18
abbrev lX:Stmt:=top 19
abbrev kg:Stmt:=top 21
abbrev gV:Stmt:=top 20
abbrev aS:Stmt:=kf (top 22) 0
abbrev lY:Stmt:=top 17
abbrev fI:Stmt:=kf (top 22) 2
abbrev lZ:Stmt:=top 23
abbrev jy:Stmt:=top 29
abbrev d4:Stmt:=top 30
abbrev eI:Stmt:=kf (top 22) 1
abbrev fQ:Stmt:=top 24
abbrev sE:Stmt:=top 25
abbrev jz:Stmt:=top 26
abbrev l7:Stmt:=top 31
abbrev fR:Stmt:=top 33
abbrev gX:Stmt:=top 34
abbrev gH:Stmt:=top 35
abbrev gY:Stmt:=top 36
abbrev dU:Stmt:=kf (top 51) 1
abbrev gZ:Stmt:=top 37
abbrev fS:Stmt:=top 39
abbrev fT:Stmt:=top 40
abbrev m8:Stmt:=top 41
abbrev kh:Stmt:=top 44
abbrev d5:Stmt:=top 45
abbrev g9:Stmt:=top 46
abbrev fU:Stmt:=top 47
abbrev fV:Stmt:=top 48
abbrev jA:Stmt:=top 49
abbrev hG:Stmt:=top 50
abbrev aT:Stmt:=kf (top 51) 0
abbrev hJ:Stmt:=top 54
abbrev gI:Stmt:=top 55
abbrev gJ:Stmt:=top 56
abbrev fW:Stmt:=top 57
abbrev gK:Stmt:=top 58
abbrev gL:Stmt:=top 59
abbrev fq:Stmt:=top 53
abbrev hZ:Stmt:=top 60
abbrev ic:Stmt:=top 61
abbrev jB:Stmt:=top 62
abbrev jC:Stmt:=top 63
abbrev ie:Stmt:=top 64
abbrev ig:Stmt:=top 66
abbrev jD:Stmt:=top 65
abbrev d6:Stmt:=top 67
abbrev ii:Stmt:=top 68
abbrev qD:Stmt:=top 69
def  Q:Program:={PySem.Challenge.pw_pocketmill_k30_whole_fewest with main:={PySem.Challenge.pw_pocketmill_k30_whole_fewest.main with body:=[top 0,top 2,top 3,top 4,top 5,top 6,top 7,top 8,top 10,top 11,top 12,top 13,top 14,top 15,top 16,top 17,top 18,top 19,top 20,top 21,top 22,top 23,top 24,top 25,top 26,top 28,top 29,top 30,top 31,top 33,top 34,top 35,top 36,top 37,top 39,top 40,top 41,top 43,top 44,top 45,top 46,top 47,top 48,top 49,top 50,top 51,top 53,top 54,top 55,top 56,top 57,top 58,top 59,top 60,top 61,top 62,top 63,top 64,top 65,top 66,top 67,top 68,top 69]}}
noncomputable abbrev kH(P:Params)(x:Str)(n:Nat)(v:Value):DictEntry:=#[PyData.keyHash P x,.str x n,v]
noncomputable abbrev kC(x:Str)(a:Nat)(y:Str)(b c:Nat)(i j k l m:Int)(r:Nat)(n:Int)(p:Nat)(v q s t:Value)(u w:Int)(d:Nat):Obj:=#[.type "code",none,.fields #[ .str x a,.str y b,.str "/claim/cut.py" c,.int i 0,.int j 0,.int k 0,.int l 0,.int m 0,.ref r,.bool true,.int n 0,.ref p,v,q,s,t,.int u 0,.int w 0,.str "/claim/cut.py" d],#[ ]]
abbrev kF(x y:Str)(st:Stmt)(z:Str)(n r:Nat):Obj:=#[.type "function",none,.func (PySem.W.fnOf x y (b7 st) (aL st) (ao st) .none .none .none (.str z n) none (.ref r) .none),#[ ]]
noncomputable abbrev i9:Str:="law_pocketmill_k30_whole_fewest"
noncomputable abbrev KW:Str:="pocketmill.fewest"
noncomputable abbrev DS:Str:="pocketmill.least"
noncomputable abbrev ng:Str:="pocketmill.mills"
noncomputable abbrev KY:Str:="pocketmill.trays"
noncomputable abbrev uU:Str:="pocketmill.wishes"
abbrev kD(x:Str)(a:Nat)(i j:Int)(r:Nat)(e:Int):Obj:=kC x a x (a+1) (a+2) i j 0 0 3 r 181 (r+1) .none (.ref (r+2)) (.ref (r+3)) (.ref (r+4)) e i (e+1).toNat
abbrev kE(x:Str)(a:Nat)(i j:Int)(r:Nat)(e:Int):Obj:=kC x a x (a+1) (a+2) i j 0 0 3 r 181 (r+1) .none .none .none (.ref (r+2)) e i (e+1).toNat
abbrev kG(x:Str)(st:Stmt)(z:Str)(n r:Nat):Obj:=kF x x st z n r
def  KK(P:Params):Frag:=[(2,#[.none,none,.dict #[ ] 0,#[ ]]),(3,#[.type "dict",none,.dict #[ kH P "__name__" 165 (.str "law_pocketmill_k30_whole_fewest" 686),kH P "__doc__" 166 .none,kH P "__package__" 167 .none,kH P "__loader__" 168 (.builtin "__main__.__loader__#opaque"),kH P "__spec__" 169 .none,kH P "__annotations__" 170 (.ref 6),kH P "__builtins__" 171 (.ref 4),kH P "__file__" 173 (.str "/claim/cut.py" 172),kH P "__cached__" 174 .none,kH P "_wall" 193 (.ref 21),kH P "MillError" 213 (.ref 31),kH P "BadMill" 229 (.ref 44),kH P "BadLate" 245 (.ref 56),kH P "BadCode" 261 (.ref 68),kH P "BadLetters" 277 (.ref 80),kH P "BadWish" 293 (.ref 92),kH P "BadCount" 309 (.ref 104),kH P "KINDS" 314 (.ref 107),kH P "MOST_PASSES" 316 (.int 6 315),kH P "MOST_POCKETS" 318 (.int 6 317),kH P "MOST_WIDTH" 320 (.int 9 319),kH P "MOST_CODES" 322 (.int 1000 321),kH P "MOST_SIZE" 324 (.int 9 323),kH P "is_within" 333 (.ref 114),kH P "is_size" 340 (.ref 121),kH P "is_pocket" 347 (.ref 128),kH P "is_pass" 353 (.ref 133),kH P "are_passes" 359 (.ref 138),kH P "codes_of" 368 (.ref 145),kH P "Mill" 409 (.ref 174),kH P "is_late" 417 (.ref 185),kH P "look_at_late" 425 (.ref 192),kH P "laid" 434 (.ref 199),kH P "code_word" 448 (.ref 206),kH P "MOST_LETTERS" 452 (.int 24 451),kH P "is_letter" 460 (.ref 213),kH P "look_at_letters" 466 (.ref 218),kH P "rank_of" 474 (.ref 225),kH P "sides_behind" 482 (.ref 230),kH P "open_sides" 494 (.ref 237),kH P "open_places" 500 (.ref 242),kH P "next_place" 511 (.ref 249),kH P "least_plan" 517 (.ref 254),kH P "first_passes" 527 (.ref 261),kH P "counts_asked" 533 (.ref 266),kH P "fewest" 545 (.ref 273),kH P "GROUP_KINDS" 551 (.ref 274),kH P "is_group" 557 (.ref 279),kH P "grouped_letters" 567 (.ref 286),kH P "are_groups" 573 (.ref 291),kH P "as_they_come" 582 (.ref 298),kH P "group_levels" 588 (.ref 303),kH P "levels_of" 599 (.ref 310),kH P "numbers_of" 610 (.ref 317),kH P "Wish" 685 (.ref 372),kH P "_law_is_whole" 694 (.ref 383),kH P "_law_parts" 706 (.ref 390),kH P "_law_poured" 720 (.ref 397),kH P "_law_passes" 738 (.ref 404),kH P "_law_letters" 752 (.ref 411),kH P "_law_groups" 764 (.ref 418),kH P "_law_levels" 770 (.ref 423),kH P "_law_words" 784 (.ref 430),kH P "_law_place" 798 (.ref 437),kH P "_law_open" 812 (.ref 444),kH P "_law_next" 821 (.ref 451),kH P "_law_least" 836 (.ref 458),kH P "_law_bars" 850 (.ref 465),kH P "_law_level" 859 (.ref 472),kH P "_law_plan_alike" 865 (.ref 477),kH P "_law_right" 871 (.ref 482),kH P "law" 877 (.ref 487)] 72,#[ ]]),(4,#[.type "module",some 0,.plain,#[ ]]),(107,#[.type "tuple",none,.seq #[ .str "queue" 312,.str "pile" 313] 0,#[ ]]),(113,kD "is_within" 325 26 3 108 331),(114,kG "is_within" jw ng 310 113),(120,kD "is_size" 334 28 1 115 338),(121,kG "is_size" lY ng 310 120),(127,kD "is_pocket" 341 30 1 122 345),(128,kG "is_pocket" jx ng 310 127),(132,kE "is_pass" 348 34 1 129 351),(133,kG "is_pass" lX ng 310 132),(137,kE "are_passes" 354 38 1 134 357),(138,kG "are_passes" gV ng 310 137),(144,kD "codes_of" 360 42 1 139 366),(145,kG "codes_of" kg ng 310 144),(156,kC "__init__" 381 "Mill.__init__" 382 383 49 2 0 0 3 153 181 154 .none .none .none (.ref 155) 384 49 385),(157,kF "__init__" "Mill.__init__" aS ng 310 156),(163,kC "codes" 387 "Mill.codes" 388 389 54 1 0 0 3 158 181 159 .none (.ref 160) (.ref 161) (.ref 162) 391 54 392),(164,kF "codes" "Mill.codes" eI ng 310 163),(170,kC "many" 394 "Mill.many" 395 396 57 1 0 0 3 165 181 166 .none (.ref 167) (.ref 168) (.ref 169) 398 57 399),(171,kF "many" "Mill.many" fI ng 310 170),(172,#[.type "tuple",none,.seq #[ .str "passes" 401] 0,#[ ]]),(173,#[.type "dict",none,.dict #[ kH P "__module__" 376 (.str "pocketmill.mills" 310),kH P "__firstlineno__" 380 (.int 47 379),kH P "__init__" 386 (.ref 157),kH P "codes" 393 (.ref 164),kH P "many" 400 (.ref 171),kH P "__static_attributes__" 402 (.ref 172),kH P "__dict__" 404 (.ref 175),kH P "__weakref__" 406 (.ref 176),kH P "__doc__" 407 .none] 4,#[ ]]),(174,#[.type "type",none,.cls #["Mill",[.type "object"],[.ref 174,.type "object"],173,"Mill",true,[],[],false,none,false],#[ none,none,!.str "Mill" 369,!.str "Mill" 377,!.builtin "object.__new__",!.bool true]]),(175,#[.type "getset_descriptor",none,.fields #[ .str "__dict__" 403,.ref 174,.builtin "function.__dict__",.builtin "function.__dict__#set"],#[ ]]),(176,#[.type "getset_descriptor",none,.fields #[ .str "__weakref__" 405,.ref 174,.builtin "ExceptionGroup.__weakref__",.none],#[ ]]),(184,kD "is_late" 410 59 2 179 415),(185,kG "is_late" lZ ng 310 184),(191,kD "look_at_late" 418 61 2 186 423),(192,kG "look_at_late" fQ ng 310 191),(198,kD "laid" 426 64 3 193 432),(199,kG "laid" sE ng 310 198),(205,kD "code_word" 435 66 3 200 446),(206,kG "code_word" jz ng 310 205),(212,kD "is_letter" 453 83 2 207 458),(213,kG "is_letter" jy KY 449 212),(217,kE "look_at_letters" 461 87 2 214 464),(218,kG "look_at_letters" d4 KY 449 217),(224,kD "rank_of" 467 92 2 219 472),(225,kG "rank_of" l7 KY 449 224),(229,kE "sides_behind" 477 95 4 226 480),(230,kG "sides_behind" fR DS 475 229),(236,kD "open_sides" 483 102 3 231 492),(237,kG "open_sides" gX DS 475 236),(241,kE "open_places" 495 109 3 238 498),(242,kG "open_places" gH DS 475 241),(248,kD "next_place" 501 113 4 243 509),(249,kG "next_place" gY DS 475 248),(253,kE "least_plan" 512 118 3 250 515),(254,kG "least_plan" gZ DS 475 253),(260,kD "first_passes" 520 133 2 255 525),(261,kG "first_passes" fS KW 518 260),(265,kE "counts_asked" 528 137 2 262 531),(266,kG "counts_asked" fT KW 518 265),(272,kD "fewest" 534 140 3 267 543),(273,kG "fewest" m8 KW 518 272),(274,#[.type "tuple",none,.seq #[ .str "any" 548,.str "come" 549,.str "row" 550] 0,#[ ]]),(278,kE "is_group" 552 151 2 275 555),(279,kG "is_group" kh uU 546 278),(285,kD "grouped_letters" 558 157 1 280 565),(286,kG "grouped_letters" d5 uU 546 285),(290,kE "are_groups" 568 162 2 287 571),(291,kG "are_groups" g9 uU 546 290),(297,kD "as_they_come" 574 166 2 292 580),(298,kG "as_they_come" fU uU 546 297),(302,kE "group_levels" 583 168 3 299 586),(303,kG "group_levels" fV uU 546 302),(309,kD "levels_of" 589 173 2 304 597),(310,kG "levels_of" jA uU 546 309),(316,kD "numbers_of" 600 178 1 311 608),(317,kG "numbers_of" hG uU 546 316),(328,kC "__init__" 623 "Wish.__init__" 624 625 186 3 0 0 3 325 181 326 .none .none .none (.ref 327) 626 186 627),(329,kF "__init__" "Wish.__init__" aT uU 546 328),(333,kC "levels" 629 "Wish.levels" 630 631 193 1 0 0 3 330 181 331 .none .none .none (.ref 332) 632 193 633),(334,kF "levels" "Wish.levels" dU uU 546 333),(340,kC "level_of" 635 "Wish.level_of" 636 637 196 2 0 0 3 335 181 336 .none (.ref 337) (.ref 338) (.ref 339) 640 196 641),(347,kC "behind" 643 "Wish.behind" 644 645 199 3 0 0 3 342 181 343 .none (.ref 344) (.ref 345) (.ref 346) 649 199 650),(354,kC "breach" 652 "Wish.breach" 653 654 202 2 0 0 3 349 181 350 .none (.ref 351) (.ref 352) (.ref 353) 657 202 658),(361,kC "kept_by" 660 "Wish.kept_by" 661 662 205 2 0 0 3 356 181 357 .none (.ref 358) (.ref 359) (.ref 360) 665 205 666),(368,kC "one_order" 668 "Wish.one_order" 669 670 208 1 0 0 3 363 181 364 .none (.ref 365) (.ref 366) (.ref 367) 672 208 673),(370,#[.type "tuple",none,.seq #[ .str "groups" 675,.str "level_letters" 676,.str "level_numbers" 677] 0,#[ ]]),(371,#[.type "dict",none,.dict #[ kH P "__module__" 618 (.str "pocketmill.wishes" 546),kH P "__firstlineno__" 622 (.int 184 621),kH P "__init__" 628 (.ref 329),kH P "levels" 634 (.ref 334),kH P "level_of" 642 (.ref 341),kH P "behind" 651 (.ref 348),kH P "breach" 659 (.ref 355),kH P "kept_by" 667 (.ref 362),kH P "one_order" 674 (.ref 369),kH P "__static_attributes__" 678 (.ref 370),kH P "__dict__" 680 (.ref 373),kH P "__weakref__" 682 (.ref 374),kH P "__doc__" 683 .none] 4,#[ ]]),(372,#[.type "type",none,.cls #["Wish",[.type "object"],[.ref 372,.type "object"],371,"Wish",true,[],[],false,none,false],#[ none,none,!.str "Wish" 611,!.str "Wish" 619,!.builtin "object.__new__",!.bool true]]),(373,#[.type "getset_descriptor",none,.fields #[ .str "__dict__" 679,.ref 372,.builtin "function.__dict__",.builtin "function.__dict__#set"],#[ ]]),(374,#[.type "getset_descriptor",none,.fields #[ .str "__weakref__" 681,.ref 372,.builtin "ExceptionGroup.__weakref__",.none],#[ ]]),(382,kD "_law_is_whole" 688 211 1 377 692),(383,kG "_law_is_whole" fq i9 686 382),(389,kD "_law_parts" 695 213 2 384 704),(390,kG "_law_parts" hJ i9 686 389),(396,kD "_law_poured" 707 222 2 391 718),(397,kG "_law_poured" gI i9 686 396),(403,kD "_law_passes" 721 239 2 398 736),(404,kG "_law_passes" gJ i9 686 403),(410,kD "_law_letters" 739 257 3 405 750),(411,kG "_law_letters" fW i9 686 410),(417,kD "_law_groups" 753 265 2 412 762),(418,kG "_law_groups" gK i9 686 417),(422,kE "_law_levels" 765 274 2 419 768),(423,kG "_law_levels" gL i9 686 422),(429,kD "_law_words" 771 287 3 424 782),(430,kG "_law_words" hZ i9 686 429),(436,kD "_law_place" 785 297 4 431 796),(437,kG "_law_place" ic i9 686 436),(443,kD "_law_open" 799 310 3 438 810),(444,kG "_law_open" jB i9 686 443),(450,kD "_law_next" 813 317 2 445 819),(451,kG "_law_next" jC i9 686 450),(457,kD "_law_least" 822 322 3 452 834),(458,kG "_law_least" ie i9 686 457),(464,kD "_law_bars" 837 335 4 459 848),(465,kG "_law_bars" jD i9 686 464),(471,kD "_law_level" 851 349 2 466 857),(472,kG "_law_level" ig i9 686 471),(476,kE "_law_plan_alike" 860 354 2 473 863),(477,kG "_law_plan_alike" d6 i9 686 476),(481,kE "_law_right" 866 361 4 478 869),(482,kG "_law_right" ii i9 686 481),(486,kE "law" 872 377 1 483 875),(487,kG "law" qD i9 686 486)]
def  KT(P:Params):Frag:=(293,#[.none,none,.fields #[ ],#[ ]])::KK P
noncomputable def  adr:List Addr:=[293,2,3,4,107,113,114,120,121,127,128,132,133,137,138,144,145,156,157,163,164,170,171,172,173,174,175,176,184,185,191,192,198,199,205,206,212,213,217,218,224,225,229,230,236,237,241,242,248,249,253,254,260,261,265,266,272,273,274,278,279,285,286,290,291,297,298,302,303,309,310,316,317,328,329,333,334,340,347,354,361,368,370,371,372,373,374,382,383,389,390,396,397,403,404,410,411,417,418,422,423,429,430,436,437,443,444,450,451,457,458,464,465,471,472,476,477,481,482,486,487]
def adr_ok(P:Params):adr=(KT P).map (·.1):=by kernel_rfl
noncomputable abbrev NN:Nat:=7538
noncomputable def  env0:Env:={scope:=PySem.Challenge.pw_pocketmill_k30_whole_fewest.main.scope,locals:=mainNs,globals:=mainNs,cells:=[],code:=.ref 13,frame:=some 14}
def SR(w:World)(os:OsState):(HD.C PySem.Challenge.pw_pocketmill_k30_whole_fewest 11 (!.ref 6) env0 #[0,0,0,0] #[0,0,0,0] #[0,0,0,0] 12 1 3707 w os).map (λr=>(r.1,r.2.2))=!(.next,HD.cd PySem.Challenge.pw_pocketmill_k30_whole_fewest env0,#[377,0,394,74]):=by kernel_rfl
def SS(w:World)(s:Shared):PySem.W.topRun treeTable PySem.Challenge.pw_pocketmill_k30_whole_fewest w 11 (!.ref 6) 2 s #[PySem.W.doneF .next,HD.cd PySem.Challenge.pw_pocketmill_k30_whole_fewest env0,#[377,0,394,74],[PySem.W.topFrame #[0,0,0,0]]]=!s:=by kernel_rfl
noncomputable abbrev FF(w:World)(os:OsState):Shared:=(HD.SC PySem.Challenge.pw_pocketmill_k30_whole_fewest 11 (!.ref 6) env0 #[0,0,0,0] #[0,0,0,0] #[0,0,0,0] 12 1 3707 w os).abs
abbrev XT(s:Shared):Bool:=PySem.W.xlAt Q [] s&&PySem.W.recOk PySem.Challenge.rw_pocketmill_k30_whole_fewest.row.records s
def OU(w:World)(os:OsState):(PySem.W.staticsOk (importedModules PySem.Challenge.pw_pocketmill_k30_whole_fewest.main.body) (PySem.W.boot_heap w.params) (FF w os).heap&&PySem.W.namesBound PySem.Challenge.pw_pocketmill_k30_whole_fewest (FF w os).heap&&PySem.W.gensDone (FF w os)&&PySem.W.laidKept (PySem.W.boot_heap w.params) (FF w os).heap)=true:=by rw[PySem.W.Fast.te5923862056798008813];kernel_rfl
def OV(w:World)(os:OsState):PySem.W.openSeen Q [] (importedModules PySem.Challenge.pw_pocketmill_k30_whole_fewest.main.body) XT true (FF w os)=PySem.W.openGood Q []:=by rw[PySem.W.Fast.te5923862056798008813,PySem.W.Fast.te4187177175401517315];kernel_rfl
def t_left:PySem.W.LeftO PySem.Challenge.pw_pocketmill_k30_whole_fewest Q [] XT (PySem.W.Hook.obs (PySem.W.kHook KT adr adr_ok)) (PySem.W.Hook.val (PySem.W.kHook KT adr adr_ok)) NN:=HD.left_of (PySem.W.boot_open (!1) (!2) λs=>by kernel_rfl) (λw=>#[by kernel_rfl,by kernel_rfl,by kernel_rfl]) (HD.run_of λw os=>by kernel_rfl λw os=>by kernel_rfl λw os=>by kernel_rfl SR SS) (!2) λw os=>by rw[OU w os,OV w os];exact congrArg (λz=>(true,PySem.W.openGood Q [],z)) (λw os=>by kernel_rfl w os)
def t_said:PySem.W.OpenLaw.wellSaid PySem.Challenge.rw_pocketmill_k30_whole_fewest=true:=by kernel_rfl
end K16
namespace L2
open PySem PySem.Spec PyProof.Rows
noncomputable def  lamTabs:List (Addr×Pos×Str):=[(293,(#[167,31,167,74],"as_they_come.<locals>.<lambda>"))]
abbrev gN:=Sum Int Str
noncomputable def  pI:gN->Value->Bool
|.inl k,v=>Value.isInt k v|.inr x,v=>Value.isStrOf x v
noncomputable def  OW(w:World):gN->Int
|.inl k=>hashInt k|.inr x=>hashStr w x
def keyIs_shape:∀{k:gN}{v:Value},pI k v=true->(∃i t,k=Sum.inl i/\v=Value.int i t)\/∃x t,k=Sum.inr x/\v=Value.str x t
|.inl i,v,h=>by let[t,e]:=Value.isInt_shape h;exact .inl #[i,t,rfl,e]|.inr x,v,h=>by let[t,e]:=Value.isStrOf_shape h;exact .inr #[x,t,rfl,e]
def yq(i:Int)(t:Tok):pI (.inl i) (.int i t)=true:=by simp[pI,Value.isInt]
def yt(x:Str)(t:Tok):pI (.inr x) (.str x t)=true:=by simp[pI,Value.isStrOf]
def HR(a b:Int):decide ((Sum.inl a:gN)=Sum.inl b)=(a==b):=by grind
def HS(a b:Str):decide ((Sum.inr a:gN)=Sum.inr b)=decide (a=b):=by simp
def HU(a:Int)(b:Str):decide ((Sum.inl a:gN)=Sum.inr b)=false:=decide_eq_false λq=>nomatch q
def HV(a:Str)(b:Int):decide ((Sum.inr a:gN)=Sum.inl b)=false:=decide_eq_false λq=>nomatch q
def  ja(prog:Program)(w:World):PySem.KeyKind prog w gN where
 is:=pI;hash:=OW w;inj:=λv a b ha hb=>by
  rcases keyIs_shape ha with⟨i,t,rfl,rfl⟩|⟨x,t,rfl,rfl⟩
  .rcases keyIs_shape hb with⟨j,u,rfl,e⟩|⟨y,u,rfl,e⟩;.injection e with e1 _;rw[e1]
   .exact nomatch e
  .rcases keyIs_shape hb with⟨j,u,rfl,e⟩|⟨y,u,rfl,e⟩;.exact nomatch e
   .injection e with e1 _;rw[e1]
 byValue:=λk v h=>by rcases keyIs_shape h with⟨i,t,rfl,rfl⟩|⟨x,t,rfl,rfl⟩<;>rfl
 pyHash:=λhv h=>by
  rcases keyIs_shape hv with⟨i,t,rfl,rfl⟩|⟨x,t,rfl,rfl⟩;.exact wpAny_pyHash_int h
  .exact wpAny_pyHash_str h
 eqBool:=λhu hv h=>by
  rcases keyIs_shape hu with⟨i,t,rfl,rfl⟩|⟨x,t,rfl,rfl⟩
  .rcases keyIs_shape hv with⟨j,u,rfl,rfl⟩|⟨y,u,rfl,rfl⟩;.rw[HR]at h;exact wpAny_eqBool_int h
   .rw[HU]at h;exact SeqAt.EqAt.int_str i t y u _ _ _ _ h
  .rcases keyIs_shape hv with⟨j,u,rfl,rfl⟩|⟨y,u,rfl,rfl⟩;.rw[HV]at h;exact SeqAt.EqAt.str_int x t j u _ _ _ _ h
   .rw[HS]at h;exact wpAny_eqBool_str h
 «strs»:=λk x t v h=>by
  rcases keyIs_shape h with⟨i,u,rfl,e⟩|⟨y,u,rfl,e⟩;.exact nomatch e
  .injection e with e1 _;subst e1;cases v<;>rfl
inductive V where|non|bl(b:Bool)|int(i:Int)|str(x:Str)|byt(b:Array UInt8)|flt(b:UInt64)|ref(a:Addr)|ty(n:String)deriving DecidableEq
def  RelV:V->Value->Prop
|.non,u=>u=Value.none|.bl b,u=>u=Value.bool b|.int i,u=>∃t,u=Value.int i t|.str x,u=>∃t,u=Value.str x t|.byt b,u=>∃t,u=Value.bytes b t|.flt b,u=>∃t,u=Value.float b t|.ref a,u=>u=Value.ref a|.ty n,u=>u=Value.type n
abbrev Vals:List V->T9->Prop:=Paired RelV
noncomputable def  Vals.length(r:Vals xs g):=Paired.length r
def Vals.get:∀{xs:List V}{us:T9}{i:Nat}{x:V},Vals xs us->xs[i]?=!x->∃u,us[i]?=!u/\RelV x u
|_,_,_,_,.nil,e=>by simp at e|_,_,0,_,.cons r _,e=>by simp at e;subst e;exact#[_,rfl,r]|_,_,i+1,x,.cons _ t,e=>by let[u,h1,h2]:=Vals.get (i:=i) (x:=x) t (by simpa using e);exact#[u,by simpa using h1,h2]
def Vals.set(r:RelV x u):∀{xs:List V}{us:T9}(i:Nat),Vals xs us->Vals (xs.set i x) (us.set i u)
|_,_,_,.nil=>.nil|_,_,0,.cons _ t=>.cons r t|_,_,i+1,.cons q t=>.cons q (Vals.set r i t)
def Vals.append:∀{xs ys:List V}{us ws:T9},Vals xs us->Vals ys ws->Vals (xs++ys) (us++ws)
|_,_,_,_,.nil,s=>s|_,_,_,_,.cons r t,s=>.cons r (Vals.append t s)
def Vals.take:∀{xs:List V}{us:T9}(n:Nat),Vals xs us->Vals (xs.take n) (us.take n)
|_,_,0,_=>.nil|_,_,_+1,.nil=>.nil|_,_,n+1,.cons r t=>.cons r (Vals.take n t)
def Vals.drop:∀{xs:List V}{us:T9}(n:Nat),Vals xs us->Vals (xs.drop n) (us.drop n)
|_,_,0,r=>r|_,_,_+1,.nil=>.nil|_,_,n+1,.cons _ t=>Vals.drop n t
def  RelO:Option V->Ua->Prop
|some v,!u=>RelV v u|none,none=>True|_,_=>False
def  KV{κ:Type}:List (κ×V)->List (κ×Value)->Prop:=Paired λ(p:κ×V)(q:κ×Value)=>p.1=q.1/\RelV p.2 q.2
noncomputable def  kV:gN->V
|.inl i=>.int i|.inr x=>.str x
inductive HO where|lst(xs:List V)|tup(xs:List V)|dK(kvs:List (gN×V))|dT(kvs:List (List gN×V))|set(S:Int->Bool)(n:Nat)|ins(C dx:Addr)(fs:List (Str×V))|own(x:Addr)|xd(fs:List (Str×V))|met(f x:Addr)|rng(lo hi:Int)|frz(o:Obj)(u:HO)|tbl(ps:Ug)|cod(ps:Ug)(pos:Pos)(q:Str)|ext(φ:Heap->Prop)
abbrev Hp:=Addr->Option HO
noncomputable def  upd(H:Hp)(a:Addr)(o:HO):Hp:=λb=>if b=a then !o else H b
def ah:upd H a o a=!o:=by unfold upd;rw[if_pos rfl]
def af(h:b≠a):upd H a o b=H b:=by unfold upd;rw[if_neg h]
def D0:upd (upd H a o) a u=upd H a u:=by funext b;unfold upd;split<;>rfl
def aq{H:Hp}(h:H a=!o)(h':H b=none):a≠b:=by intro e;subst e;rw[h]at h';cases h'
section
variable(P:Program)(w:World)
def  ObjOk(H:Hp)(h:Heap)(a:Addr):HO->Prop
|.lst xs=>xs.length<=sizeLine/\∃(its:T9)(n:Nat),Vals xs its/\h.get? a=some {cls:=.type "list",data:=.seq its.toArray n}|.tup xs=>xs.length<=sizeLine/\∃its:T9,Vals xs its/\IsTup h a its.toArray|.dK kvs=>kvs.length<=sizeLine/\(a==sysModules)=false/\∃vs,KV kvs vs/\h.DictOf (ja P w) a vs|.dT kvs=>kvs.length<=sizeLine/\(a==sysModules)=false/\∃xs:List (List gN×Addr×Value),Paired (λ(p:List gN×V)(q:List gN×Addr×Value)=>p.1=q.1/\H q.2.1=!.tup (p.1.map kV)/\RelV p.2 q.2.2) kvs xs/\∃o es ep,h.get? a=!o/\o.ExactDict/\o.data=.dict es ep/\es.toList=xs.map (entryOfKey (tupleKind (ja P w)))/\(xs.map (·.1)).Nodup|.set S n=>h.SetOf (intKind P w) a S n|.ins C dx fs=>H dx=!.own a/\fs.length<=1000/\dx≠a/\h.get? a=!PySem.W.instObj C dx/\∃mA,h.Ns1 dx mA/\(∀f,RelO (fs.lookup f) (mA f))/\PySem.Within mA (fs.map (·.1))|.own _=>∃o,h.get? a=!o|.xd fs=>∃mA,h.Ns1 a mA/\∀f,RelO (fs.lookup f) (mA f)|.rng lo hi=>∃t u v,h.get? a=some {cls:=.type "range",data:=.fields #[ .int lo t,.int hi u,.int 1 v]}|.frz o u=>h.get? a=!o/\ObjOk H h a u|.tbl ps=>h.get? a=some {cls:=.none,data:=.fields ps}|.cod ps pos q=>h.get? a=some {cls:=.none,data:=.fields ps}\/∃c oc vs t,h.get? a=some {cls:=.none,data:=.fields (ps++#[ rawInt pos.line,rawInt pos.col,.ref c])}/\H c=!.frz oc (.own a)/\oc.data=.fields vs/\vs[1]?=!.str q t|.met f x=>h.get? a=!PySem.W.methodObj (.ref f) (.ref x)|.ext φ=>φ h/\(∃o,h.get? a=!o)/\∀h1 h2:Heap,φ h1->(∀o,h1.get? a=!o->h2.get? a=!o)->φ h2
def  HOk(H:Hp)(h:Heap):Prop:=∀a o,H a=!o->ObjOk P w H h a o
end
section
variable{P:Program}{w:World}{H H':Hp}{h h':Heap}{a:Addr}{o:HO}
def ObjOk.lt(x:ObjOk P w H h a o):a<h.objs.size:=by cases o with
|lst xs=>let[_,_,_,_,e]:=x;exact Up e|tup xs=>let[_,_,_,p]:=x;exact p.lt|dK l=>let[_,_,_,_,o,_,_,e,_]:=x;exact Up e|dT l=>let[_,_,_,_,o,_,_,e,_]:=x;exact Up e|set S n=>let[o,_,_,_,e,_]:=x;exact Up e|ins C dx fs=>let[_,_,_,e,_]:=x;exact Up e|own y=>let[_,e]:=x;exact Up e|xd fs=>let[_,[_,_,_,e,_],_]:=x;exact Up e|rng lo hi=>let[_,_,_,e]:=x;exact Up e|frz j u=>let[e,_]:=x;exact Up e|tbl ps=>exact Up x|cod ps pos q=>
  rcases x with e|⟨_,_,_,_,e,_⟩;.exact Up e
  .exact Up e|met f y=>exact Up x|ext g=>let[_,[_,e],_]:=x;exact Up e
def Paired.mapP:∀{l₁:List α}{l₂:List β},Paired F l₁ l₂->(∀a b,F a b->G a b)->Paired G l₁ l₂
|_,_,.nil,_=>.nil|_,_,.cons r t,f=>.cons (f _ _ r) (Paired.mapP t f)
def ObjOk.stay(x:ObjOk P w H h a o)(k:∀b u,b=a\/H b=!.own a->h.get? b=!u->h'.get? b=!u)(ho:∀b,H b=!.own a->H' b=!.own a)(ht:∀b xs,H b=!.tup xs->H' b=!.tup xs)(hz:∀b o' T,H b=!.frz o' T->H' b=!.frz o' T:=by intro _ _ _ q;exact q):ObjOk P w H' h' a o:=by induction o with
|lst xs=>let[z,l,n,r,e]:=x;exact#[z,l,n,r,k _ _ (.inl rfl) e]|tup xs=>let[z,l,r,g,e,c]:=x;exact#[z,l,r,g,k _ _ (.inl rfl) e,c]|dK kvs=>let[z,y,I,r,g,es,j,e,c]:=x;exact#[z,y,I,r,g,es,j,k _ _ (.inl rfl) e,c]|dT kvs=>let[z,y,xs,r,g,es,j,e,c]:=x;exact#[z,y,xs,Paired.mapP r λp q z=>#[z.1,ht _ _ z.2.1,z.2.2],g,es,j,k _ _ (.inl rfl) e,c]|set S n=>let[g,es,j,t,e,c]:=x;exact#[g,es,j,t,k _ _ (.inl rfl) e,c]|ins C dx fs=>let[d,z,ne,e,mA,[J,es,j,e2,c],r]:=x;exact#[ho _ d,z,ne,k _ _ (.inl rfl) e,mA,#[J,es,j,k _ _ (.inr d) e2,c],r]|own y=>let[g,e]:=x;exact#[g,k _ _ (.inl rfl) e]|xd fs=>let[mA,[J,es,j,e,c],r]:=x;exact#[mA,#[J,es,j,k _ _ (.inl rfl) e,c],r]|rng lo hi=>let[t,u,v,e]:=x;exact#[t,u,v,k _ _ (.inl rfl) e]|frz g u ih=>let[e,q]:=x;exact#[k _ _ (.inl rfl) e,ih q]|cod ps pos q=>
  rcases x with e|⟨c,U,I,t,e,o1,r⟩;.exact .inl (k a _ (.inl rfl) e)
  .exact .inr #[c,U,I,t,k a _ (.inl rfl) e,hz _ _ _ o1,r]|tbl ps=>have e:h.get? a=some {cls:=.none,data:=.fields ps}:=x;exact k a _ (.inl rfl) e|met f y=>exact k a _ (.inl rfl) x|ext φ=>let[p,[o,e],st]:=x;exact#[st _ _ p λo q=>k _ _ (.inl rfl) q,#[o,k _ _ (.inl rfl) e],st]
noncomputable def  HOk.lt(x:HOk P w H h)(e:H a=!o):=(x a o e).lt
def HOk.fresh(x:HOk P w H h)(e:h.objs.size<=a):H a=none:=by cases q:H a with
|none=>rfl|some u=>exact absurd (Uw (x.lt q) e) (UE _)
def HOk.kept(x:HOk P w H h)(k:∀b u,h.get? b=!u->h'.get? b=!u):HOk P w H h':=λa o e=>(x a o e).stay (λb u _ q=>k b u q) (λ_ q=>q) λ_ _ q=>q
def HOk.laid(x:HOk P w H h)(k:∀b u,h.get? b=!u->h'.get? b=!u)(l:h.objs.size<=a)(new:ObjOk P w (upd H a o) h' a o):HOk P w (upd H a o) h':=λb u e=>by
 have g:=x.fresh l;by_cases j:b=a;.subst j;rw[ah]at e;cases e;exact new
 .rw[af j]at e;exact(x b u e).stay (λc v _ q=>k c v q) (λc q=>by rw[af (aq q g)];exact q) (λc xs q=>by rw[af (aq q g)];exact q) λc o' p q=>by rw[af (aq q g)];exact q
end
def  Rd(H:Hp)(a:Addr)(u:HO):Prop:=H a=!u\/∃o,H a=!.frz o u
def Rd.ok(r:Rd H a u)(x:HOk P w H h):ObjOk P w H h a u:=by
 rcases r with r|⟨o,r⟩;.exact x a u r
 .let[_,q]:=x a _ r;exact q
def  Lf:Option HO->Prop
|some (.lst _)=>True|some (.dK _)=>True|some (.dT _)=>True|some (.set _ _)=>True|some (.ins _ _ _)=>True|some (.ext _)=>True|_=>False
section
variable{P:Program}{w:World}{H:Hp}{h h':Heap}{x e:Addr}{o':HO}
def HOk.write(ok:HOk P w H h)(l:Lf (H x))(J:e=x\/H e=!.own x)(k:∀b u,b≠e->h.get? b=!u->h'.get? b=!u)(C:∃u,h'.get? e=!u)(new:ObjOk P w (upd H x o') h' x o'):HOk P w (upd H x o') h':=λb u q=>by
 have j:∀c y,H c=!.own y->c≠x:=λc y r z=>by subst z;rw[r]at l;exact l
 by_cases t:b=x;.subst t;rw[ah]at q;cases q;exact new
 .rw[af t]at q;by_cases g:b=e
  .have I:H b=!.own x:=by
    rcases J with z|z;.exact absurd (g.trans z) t
    .rw[g];exact z
   rw[q]at I;cases I;let[v,T]:=C;exact#[v,by rw[g];exact T]
  .refine(ok b u q).stay (λc v p r=>k c v ?_ r) (λc r=>by rw[af (j c b r)];exact r) (λc xs r=>by rw[af ((λc xs r z=>by subst z;rw[r]at l;exact l) c xs r)];exact r) λc o' U r=>by rw[af λz=>by subst z;rw[r]at l;exact l];exact r
   rcases p with rfl|p;.exact g
   .rintro rfl;rcases J with z|z;.exact j c b p z
    .rw[p]at z;cases z;exact t rfl
end
def  Still:HO->Prop
|.frz _ _=>True|.cod _ _ _=>True|_=>False
def Still.nm(h:Still u):¬Lf !u:=by cases u<;>first|exact h.elim|exactλz=>z
def  GT(H:Hp):Prop:=∀b z,lamTabs.lookup b=!z->H b=!.cod #[ ] z.1 z.2
structure Un(fs ex:List Addr)(H H':Hp)(h h':Heap):Prop where
 keep:∀b o,h.get? b=!o->H b=none->b∉fs->b∉ex->h'.get? b=!o
 slot:∀b o,h.get? b=!o->H b=none->b∈fs->b∉ex->∃sl,h'.get? b=some {o with slots:=sl}free:∀b o,h.get? b=!o->H b=none->b∉ex->H' b=none
 there:∀b o,h.get? b=!o->b∉ex->∃o',h'.get? b=!o'
 tups:∀b xs,H b=!.tup xs->H' b=!.tup xs 
 frzs:∀b o,Still o->H b=!o->H' b=!o
 tbls:∀b ps,H b=!.tbl ps->∃more,H' b=!.tbl (ps++more)
section
variable{fs fs' ex ex':List Addr}{H H1 H2:Hp}{h h1 h2 h':Heap}{a x e:Addr}{o:HO}
def Un.any(u:Un fs ex H H1 h h1)(q:h.get? b=!ob)(n:H b=none)(hx:b∉ex):∃sl,h1.get? b=some {ob with slots:=sl}:=by
 by_cases hb:b∈fs;.exact u.slot b ob q n hb hx
 .exact#[ob.slots,u.keep b ob q n hb hx]
def Un.kept(k:∀b u,h.get? b=!u->h'.get? b=!u):Un fs ex H H h h':=#[λb g q _ _ _=>k b g q,λb g q _ _ _=>#[g.slots,k b g q],λ_ _ _ n _=>n,λb g q _=>#[g,k b g q],λ_ _ q=>q,λ_ _ _ q=>q,λ_ ps q=>#[#[ ],by rw[q];simp]]
def Un.refl:Un fs ex H H h h:=Un.kept λ_ _ q=>q
def Un.laid(k:∀b u,h.get? b=!u->h'.get? b=!u)(j:h.objs.size<=a)(g:H a=none):Un fs ex H (upd H a o) h h' where
 keep:=λb u q _ _ _=>k b u q;slot:=λb u q _ _ _=>#[u.slots,k b u q];free:=λb u q n _=>by rw[af (Nat.ne_of_lt (lt_of_lt_of_le (Heap.lt_size q) j))];exact n
 there:=λb u q _=>#[u,k b u q];tups:=λb xs q=>by rw[af (aq q g)];exact q
 frzs:=λb u xs q=>by rw[af (aq q g)];exact q
 tbls:=λb ps q=>#[#[ ],by rw[af (aq q g),q];simp]
def Un.write(g:Lf (H x))(C:e=x\/H e=!.own x)(k:∀b u,b≠e->h.get? b=!u->h'.get? b=!u)(t:∃u,h'.get? e=!u):Un fs ex H (upd H x o) h h':=by
 have l:∀b,H b=none->b≠x:=λb n z=>by subst z;rw[n]at g;exact g
 have p:∀b,H b=none->b≠e:=λb n z=>by
  subst z;rcases C with r|r;.exact l b n r
  .rw[n]at r;cases r
 have j:∀b u,H b=!u->¬Lf !u->b≠x:=λb u q I z=>by subst z;rw[q]at g;exact I g
 refine#[λb u q n _ _=>k b u (p b n) q,λb u q n _ _=>#[u.slots,k b u (p b n) q],λb u q n _=>by rw[af (l b n)];exact n,λb u q _=>?_,λb xs q=>by rw[af (j b _ q λz=>z)];exact q,λb u xs q=>by rw[af (j b _ q xs.nm)];exact q,λb ps q=>#[#[ ],by rw[af (j b _ q λz=>z),q];simp]];grind
end
noncomputable def  RD(h:Heap)(H:Hp):List Addr:=(List.range h.objs.size).filter λa=>(H a).isSome
def  sG(h:Heap)(H:Hp):Heap:=PySem.W.hideAll h (RD h H)
def zR(e:h.get? b=!o)(n:H b=none):(sG h H).get? b=!o:=PySem.W.hideAll_get _ e λg=>by have q:=(List.mem_filter.mp g).2;rw[n]at q;simp at q
def D1(e:(sG h H).get? b=!o):h.get? b=!o/\H b=none:=by have g:=PySem.W.of_hideAll _ e;refine#[g,?_];cases q:H b with
|none=>rfl|some x=>have j:b∈RD h H:=List.mem_filter.mpr #[UG.mpr (Up g),by simp[q]];have z:(sG h H).get? b=none:=PySem.W.hideAll_none _ j;rw[z]at e;cases e
noncomputable def  D2(g h:Heap)(L:Addr):T5:=(List.range h.objs.size).filterMap λa=>if a=L\/(g.get? a).isSome=true then none else(h.get? a).map λo=>(a,o)
def  rest(g h:Heap)(L d:Addr):T5:=(D2 g h L).filter λp=>decide (p.1≠d)
structure Mod(K:Frag)(mg:Str->Ua)(base:Heap):Prop where
 kin:K.In base
 glob:base.Ns mainGlobals mg
 blt:∃mb,base.Ns builtinsNs mb/\∀x:Str,x≠"__name__"->mb x=bootBuiltins x
 nolimit:base.NoLimit
structure Cx where
 prog:Program
 w:World
 K:Frag
 mg:Str->Ua
 base:Heap
 A:Around
 N:Uc
 s₀:Shared
 H₀:Hp
 env:Env
 outer:List Env
 stack:List Env
 ex:List Addr
 fn:Str->Bool
 calm:Bool
 pn:T5
 xe:T8
noncomputable def  frs(l:List Env):List Addr:=l.filterMap (·.frame)
abbrev Cx.fs(X:Cx):List Addr:=frs X.outer
def  oQ(sc:Scope)(x:Str):Prop:=sc.names.lookup x=some .local\/sc.names.lookup x=some .cell\/sc.names.lookup x=some .free
def  D3(sc:Scope)(x:Str):Prop:=sc.names.lookup x=some .local\/sc.names.lookup x=some .cell
def  OX(env:Env)(h:Heap)(m:Str->Ua)(x:Str)(u:Value):Prop:=env.kindOf x=some .local/\m x=!u\/(env.kindOf x=some .cell\/env.kindOf x=some .free)/\∃c,env.cells.lookup x=!c/\h.IsCell c !u
structure Cx.Ok(X:Cx):Prop where
 mod:Mod X.K X.mg X.base
 kind:X.env.scope.kind=.function
 glob:X.env.globals=mainGlobals
 blt:X.env.builtins=builtinsNs
 above:X.s₀.heap.objs.size<=X.env.locals
 inj:∀x y c,X.env.cells.lookup x=!c->X.env.cells.lookup y=!c->x=y
 has:∀x,X.env.kindOf x=some .cell\/X.env.kindOf x=some .free->∃c,X.env.cells.lookup x=!c
 cab:∀x c,X.fn x=true->X.env.cells.lookup x=!c->X.s₀.heap.objs.size<=c
 hd:X.calm=true->X.A.handled=none
 frames:X.A.frames=!X.stack
 stk:X.stack=X.outer\/X.stack=X.env::X.outer/\X.env.frame=!X.env.locals 
 exf:∀b∈X.ex,b≠X.env.locals/\∀x c,X.env.cells.lookup x=!c->c≠b
 bs:∀b o,X.base.get? b=!o->X.s₀.heap.get? b=!o/\X.H₀ b=none
 bsz:X.base.objs.size<=X.s₀.heap.objs.size
 noex:∀b o,X.base.get? b=!o->b∉X.ex
 exfs:∀b∈X.ex,b∉X.fs
 funs:X.s₀.heap.FunFrames X.base X.outer
 frf:(∀b∈X.fs,X.H₀ b=none)/\GT X.H₀
structure Inv(X:Cx)(pins:T5)(σ:List (Option V))(H:Hp)(s:Shared):Prop where
 ok:X.Ok
 os:s.os=X.s₀.os
 bare:AllBare s.gens
 base:Un X.fs X.ex X.H₀ H X.s₀.heap s.heap
 loc:∃m,s.heap.Ns X.env.locals m/\∀(i:Nat)(x:Str)(v:V),X.N[i]?=!x->σ[i]?=!!v->oQ X.env.scope x->∃u,RelV v u/\OX X.env s.heap m x u
 cell:∀x c,X.env.cells.lookup x=!c->∃v,s.heap.IsCell c v
 free:H X.env.locals=none
 freeC:∀x c,X.env.cells.lookup x=!c->H c=none
 pin:∀p∈X.pn++pins,s.heap.get? p.1=!p.2/\H p.1=none/\p.1≠X.env.locals/\p.1∉X.fs/\∀v,p.2.data≠.cell v
 hok:HOk X.prog X.w H s.heap
 len:σ.length=X.N.length
section
variable{X:Cx}{pins:T5}{σ:List (Option V)}{H H':Hp}{s:Shared}{h':Heap}
def Cx.Ok.nofr(ok:X.Ok)(e:X.base.get? b=!o):b∉X.fs:=λg=>by have:=(ok.funs.mem g).1;grind
def Inv.bs(I:Inv X pins σ H s):∀b o,X.base.get? b=!o->s.heap.get? b=!o/\H b=none:=λb o e=>#[I.base.keep b o (I.ok.bs b o e).1 (I.ok.bs b o e).2 (I.ok.nofr e) (I.ok.noex b o e),I.base.free b o (I.ok.bs b o e).1 (I.ok.bs b o e).2 (I.ok.noex b o e)]
noncomputable def  Inv.bk(I:Inv X pins σ H s):=λb o e=>(I.bs b o e).1
noncomputable def  Inv.mod(I:Inv X pins σ H s):=I.ok.mod
def  Inv.kIn(I:Inv X pins σ H s):=I.ok.mod.kin.keeps I.bk
def  Inv.nolimit(I:Inv X pins σ H s):=I.ok.mod.nolimit.keeps I.bk
noncomputable def  Inv.lt(I:Inv X pins σ H s):=let#[_,g,_]:=I.loc;g.lt
def  Inv.sz(I:Inv X pins σ H s):=Uy I.ok.above (UF I.lt)
def Inv.nofs(I:Inv X pins σ H s){a:Addr}(h:s.heap.objs.size<=a):a∉X.fs:=λj=>by let[_,o,g,_]:=I.ok.funs.mem j;exact absurd (Uw (Up g) (Uy I.sz h)) (UE _)
def Inv.cne(I:Inv X pins σ H s):∀x c,X.env.cells.lookup x=!c->c≠X.env.locals:=λx c e z=>by let[v,o,l,hd]:=I.cell x c e;let[m,[o',es,p,g,j,_],_]:=I.loc;grind
def Inv.funs(I:Inv X pins σ H s):s.heap.FunFrames X.base X.outer:=by
 have all:∀(l:List Env),(∀b∈frs l,b∈X.fs)->X.s₀.heap.FunFrames X.base l->s.heap.FunFrames X.base l:=by intro l;induction l with
|nil=>intro _ _;trivial|cons env r C=>intro t hl;let[hk,[L,o,g,U,T,hd],J]:=hl;have p:=t L (by unfold frs;rw[List.filterMap_cons,g];exact Ut);let[sl,e]:=I.base.slot L o T (I.ok.frf.1 L p) p λz=>I.ok.exfs L z p;exact#[hk,#[L,_,g,U,e,hd],C (λb j=>t b (by unfold frs;rw[List.filterMap_cons,g];exact Uu _ j)) J]
 exact all X.outer (λ_ j=>j) I.ok.funs
def Inv.stack(I:Inv X pins σ H s):s.heap.FunFrames X.base X.stack:=by
 rcases I.ok.stk with e|⟨e,j⟩;.rw[e];exact I.funs
 .rw[e];let[m,g,_]:=I.loc;exact .cons (by rw[I.ok.kind];decide) j g (Heap.get?_none_of_le (Uy I.ok.bsz I.ok.above)) I.funs
def Inv.stkSub(I:Inv X pins σ H s):∀b∈frs X.stack,b∈X.env.locals::X.fs:=λb g=>by
 rcases I.ok.stk with e|⟨e,j⟩;.rw[e]at g;exact Uu _ g
 .rw[e]at g;unfold frs at g;rw[List.filterMap_cons,j]at g;exact g
def Inv.stkFree(I:Inv X pins σ H s):∀b∈frs X.stack,H b=none:=λb g=>by
 rcases mem_cons.mp (I.stkSub b g)with e|g;.rw[e];exact I.free
 .let[_,o,j,_]:=I.ok.funs.mem g;exact I.base.free b o j (I.ok.frf.1 b g) λz=>I.ok.exfs b z g
def Inv.tab(I:Inv X pins σ H s):GT H:=λb z h=>I.base.frzs b _ True.intro (I.ok.frf.2 b z h)
def Inv.step{ch:List Addr}(I:Inv X pins σ H s)(t:∀b∈ch,(b∈X.ex\/X.s₀.heap.objs.size<=b)/\b≠X.env.locals/\(∀x c,X.env.cells.lookup x=!c->c≠b)/\∀p∈X.pn++pins,p.1≠b)(keep:∀b o,b≠X.env.locals->b∉X.fs->b∉ch->s.heap.get? b=!o->H b=none->h'.get? b=!o)(slot:∀b o,b≠X.env.locals->b∈X.fs->b∉ch->s.heap.get? b=!o->H b=none->∃sl,h'.get? b=some {o with slots:=sl})(free:∀b o,b∉ch->s.heap.get? b=!o->H b=none->H' b=none)(there:∀b o,b∉ch->s.heap.get? b=!o->∃o',h'.get? b=!o')(tups:∀b xs,H b=!.tup xs->H' b=!.tup xs)(frzs:∀b o,Still o->H b=!o->H' b=!o)(tbls:∀b ps,H b=!.tbl ps->∃more,H' b=!.tbl (ps++more))(ns:∀m,s.heap.Ns X.env.locals m->h'.Ns X.env.locals m)(hok:HOk X.prog X.w H' h')(hg:AllBare g'):Inv X pins σ H' {s with heap:=h',gens:=g',drawn:=d',toks:=t'}:=by
 have neL:∀b o,X.s₀.heap.get? b=!o->b≠X.env.locals:=λb o e=>Uz (Uw (Up e) I.ok.above);have J:∀b o,X.s₀.heap.get? b=!o->b∉X.ex->b∉ch:=λb o e g U=>by
  rcases(t b U).1 with z|z;.exact g z
  .exact absurd (Uw (Up e) z) (UE _)
 have C:∀x c,X.env.cells.lookup x=!c->∀v,s.heap.IsCell c v->h'.IsCell c v:=λx c e v#[o,ho,hd]=>by
  have j:c∉ch:=λz=>(t c z).2.2.1 x c e rfl;by_cases hc:c∈X.fs;.let[sl,q]:=slot c o (I.cne x c e) hc j ho (I.freeC x c e);exact#[_,q,hd]
  .exact#[o,keep c o (I.cne x c e) hc j ho (I.freeC x c e),hd]
 refine#[I.ok,I.os,hg,#[λb o e n U g=>?_,λb o e n U g=>?_,λb o e n g=>?_,λb o e g=>?_,λb xs e=>tups b xs (I.base.tups b xs e),λb o xs e=>frzs b o xs (I.base.frzs b o xs e),λb ps e=>?_],?_,λx c e=>?_,?_,λx c e=>?_,λp hp=>?_,hok,I.len];.exact keep b o (neL b o e) U (J b o e g) (I.base.keep b o e n U g) (I.base.free b o e n g)
 .let[sl,T]:=I.base.slot b o e n U g;let[sl',e2]:=slot b _ (neL b o e) U (J b o e g) T (I.base.free b o e n g);exact#[sl',e2]
 .let[o',T]:=I.base.there b o e g;exact free b o' (J b o e g) T (I.base.free b o e n g)
 .let[o',T]:=I.base.there b o e g;exact there b o' (J b o e g) T
 .let[m1,T]:=I.base.tbls b ps e;let[m2,e2]:=tbls b _ T;exact#[m1++m2,by rw[e2,Array.append_assoc]]
 .let[m,hn,hl]:=I.loc;refine#[m,ns m hn,λi x v T e2 e3=>?_];let[u,r,l]:=hl i x v T e2 e3;refine#[u,r,?_];rcases l with l|⟨k,c,e,z⟩;.exact .inl l
  .exact .inr #[k,c,e,C x c e _ z]
 .let[v,z]:=I.cell x c e;exact#[v,C x c e v z]
 .let[m,[o,_,_,ho,_],_]:=I.loc;exact free _ o (λz=>(t _ z).2.1 rfl) ho I.free
 .let[v,o,ho,hd]:=I.cell x c e;exact free c o (λz=>(t c z).2.2.1 x c e rfl) ho (I.freeC x c e)
 .let[e,n,ne,nf,d]:=I.pin p hp;have j:p.1∉ch:=λz=>(t p.1 z).2.2.2 p hp rfl;exact#[keep p.1 p.2 ne nf j e n,free p.1 p.2 j e n,ne,nf,d]
def Inv.un(I:Inv X pins σ H s)(u:Un X.fs [] H H' s.heap h')(hok:HOk X.prog X.w H' h'):Inv X pins σ H' {s with heap:=h',toks:=t'}:=by
 let[m,[o,es,ep,ho,r],_]:=id I.loc;let[sl,hL]:=u.any ho I.free (by simp);exact I.step (ch:=[]) (λ_ z=>nomatch z) (λb o _ hb _ e n=>u.keep b o e n hb (by simp)) (λb o _ hb _ e n=>u.slot b o e n hb (by simp)) (λb o _ e n=>u.free b o e n (by simp)) (λb o _ e=>u.there b o e (by simp)) u.tups u.frzs u.tbls (λm' hm=>by let[o',es',ep',ho',r']:=hm;rw[ho]at ho';cases ho';exact#[_,es',ep',hL,r']) hok I.bare
def Inv.call(I:Inv X pins σ H s)(u:Un (frs X.stack) ch H H' s.heap h')(t:HOk X.prog X.w H' h')(hg:AllBare g')(l:∀b∈ch,(b∈X.ex\/X.s₀.heap.objs.size<=b)/\b≠X.env.locals/\(∀x c,X.env.cells.lookup x=!c->c≠b)/\∀p∈X.pn++pins,p.1≠b):Inv X pins σ H' {s with heap:=h',gens:=g',drawn:=d',toks:=t'}:=by
 let[m,[o,es,ep,U,r],_]:=id I.loc;let[sl,C]:=u.any U I.free λz=>(l _ z).2.1 rfl;exact I.step l (λb o C hb g e n=>u.keep b o e n (λz=>(mem_cons.mp (I.stkSub b z)).elim C hb) g) (λb o _ _ g e n=>u.any e n g) (λb o g e n=>u.free b o e n g) (λb o g e=>u.there b o e g) u.tups u.frzs u.tbls (λm' hm=>by let[o',J,T,j,r']:=hm;rw[U]at j;cases j;exact#[_,J,T,C,r']) t hg
def Inv.turned(I:Inv X pins σ H s)(k:∀b o,b≠it->s.heap.get? b=!o->h'.get? b=!o)(hn:H it=none)(hL:it≠X.env.locals)(h1:it∈X.ex\/X.s₀.heap.objs.size<=it)(h2:∀x c,X.env.cells.lookup x=!c->c≠it)(h3:∀p∈X.pn++pins,p.1≠it):Inv X pins σ H {s with heap:=h',toks:=t'}:=by
 have nit:∀b u,H b=!u->b≠it:=λb u e z=>by rw[z,hn]at e;cases e
 refine I.step (ch:=[it]) (λb hb=>?_) (λb o _ _ hc e _=>k b o (λz=>hc (by simp[z])) e) (λb o _ _ hc e _=>#[o.slots,k b o (λz=>hc (by simp[z])) e]) (λ_ _ _ _ n=>n) (λb o hc e=>#[o,k b o (λz=>hc (by simp[z])) e]) (λ_ _ e=>e) (λ_ _ _ e=>e) (λb ps e=>#[#[ ],by rw[e];simp]) (λm hm=>?_) (λb u e=>?_) I.bare
 .have e:b=it:=by simpa using hb
  subst e;exact#[h1,hL,h2,h3]
 .let[o,es,ep,ho,r]:=hm;exact#[o,es,ep,k _ o (Ne.symm hL) ho,r]
 .refine(I.hok b u e).stay (λc v hc q=>k c v ?_ q) (λ_ q=>q) λ_ _ q=>q;rcases hc with z|z;.rw[z];exact nit b u e
  .exact nit c _ z
def Inv.tok(I:Inv X pins σ H s)(t:Nat):Inv X pins σ H {s with toks:=t}:=I.un Un.refl I.hok
def Inv.kept(I:Inv X pins σ H s)(k:∀b u,s.heap.get? b=!u->h'.get? b=!u):Inv X pins σ H {s with heap:=h',toks:=t'}:=I.un (Un.kept k) (I.hok.kept k)
def Inv.laid{a:Addr}(I:Inv X pins σ H s)(k:∀b u,s.heap.get? b=!u->h'.get? b=!u)(hp:s.heap.objs.size<=a)(new:ObjOk X.prog X.w (upd H a o) h' a o):Inv X pins σ (upd H a o) {s with heap:=h',toks:=t'}:=I.un (Un.laid k hp (I.hok.fresh hp)) (I.hok.laid k hp new)
def Inv.write(I:Inv X pins σ H s)(mu:Lf (H x))(he:e=x\/H e=!.own x)(k:∀b u,b≠e->s.heap.get? b=!u->h'.get? b=!u)(heo:∃u,h'.get? e=!u)(new:ObjOk X.prog X.w (upd H x o) h' x o):Inv X pins σ (upd H x o) {s with heap:=h',toks:=t'}:=I.un (Un.write mu he k heo) (I.hok.write mu he k heo new)
def Inv.weak(I:Inv X pins σ H s)(o:g.length=σ.length)(w:∀(i:Nat)v,g[i]?=!!v->σ[i]?=!!v):Inv X pins g H s:=#[I.ok,I.os,I.bare,I.base,let#[m,l,j]:=I.loc;#[m,l,λi x v r t p=>j i x v r (w i v t) p],I.cell,I.free,I.freeC,I.pin,I.hok,o.trans I.len]
def Inv.pins_of(I:Inv X pins σ H s)(h:∀p∈g,s.heap.get? p.1=!p.2/\H p.1=none/\p.1≠X.env.locals/\p.1∉X.fs/\∀v,p.2.data≠.cell v):Inv X g σ H s:=#[I.ok,I.os,I.bare,I.base,I.loc,I.cell,I.free,I.freeC,λp j=>(mem_append.mp j).elim (λz=>I.pin p (UC _ z)) (h p),I.hok,I.len]
def sH{N:Uc}(g:N.Nodup){i j:Nat}(a:N[i]?=!x)(b:N[j]?=!x):i=j:=by let[h1,l]:=Us.mp a;let[h2,o]:=Us.mp b;exact(List.getElem_inj g).mp (l.trans o.symm)
def pJ(I:Inv X pins σ H s)(hN:X.N.Nodup)(hi:X.N[i]?=!x)(J:D3 X.env.scope x)(r:RelV v u)(h:∀s',Inv X pins (σ.set i !v) H s'->(∃a,Heap.SameBut a s.heap s'.heap/\(a=X.env.locals\/X.env.cells.lookup x=!a))->Q () s')(hf:X.fn x=true\/X.env.scope.names.lookup x=some .local:=by first|exact .inl rfl|exact .inr rfl|assumption):wpAny M A (storeName X.env x u) Q E s:=by
 let[m,hn,hl]:=id I.loc;have hcls:(X.env.scope.kind==.class||X.env.scope.kind==.module&&X.env.locals !=X.env.globals)=false:=by rw[I.ok.kind];rfl
 have hiσ:i<σ.length:=by rw[I.len];exact(Us.mp hi).1
 have cne:=I.cne;have l:∀{a:Addr}{h':Heap},(∃o,s.heap.get? a=!o/\H a=none)->Heap.SameBut a s.heap h'->HOk X.prog X.w H h':=λ{a h'}ha g b ob e=>by
  let[_,_,T]:=ha;refine(I.hok b ob e).stay (λc w' C q=>(g.2 c ?_).trans q) (λ_ q=>q) λ_ _ q=>q;rintro rfl;rcases C with rfl|C;.rw[T]at e;cases e
  .rw[T]at C;cases C
 rcases J with U|U
 .refine wpAny_storeName_local U hn (λh' hn' g=>?_) hcls;let[oL,_,_,hoL,_]:=id hn;refine h _ #[I.ok,I.os,I.bare,#[λb o e n hb J=>?_,λb o e n hb J=>?_,I.base.free,λb o e J=>?_,I.base.tups,I.base.frzs,I.base.tbls],#[_,hn',λj y v' t e2 e3=>?_],λy c e=>?_,I.free,I.freeC,λp hp=>?_,l #[oL,hoL,I.free] g,by simpa using I.len] #[_,g,.inl rfl];.exact(g.2 b (Uz (Uw (Up e) I.ok.above))).trans (I.base.keep b o e n hb J)
  .let[sl,t]:=I.base.slot b o e n hb J;exact#[sl,(g.2 b (Uz (Uw (Up e) I.ok.above))).trans t]
  .let[o',t]:=I.base.there b o e J;exact#[o',(g.2 b (Uz (Uw (Up e) I.ok.above))).trans t]
  .by_cases hj:j=i;.subst hj;rw[hi]at t;cases t;rw[List.getElem?_set_self hiσ]at e2;cases e2;exact#[u,r,.inl #[U,by simp]]
   .rw[List.getElem?_set_ne (Ne.symm hj)]at e2;let[u',r',q]:=hl j y v' t e2 e3;refine#[u',r',?_];rcases q with⟨k,e⟩|⟨k,c,e,z⟩;.refine .inl #[k,?_];have:y≠x:=λe=>hj (sH hN t (e▸hi));simp[this,e]
    .exact .inr #[k,c,e,z.sameBut g (cne y c e)]
  .let[w',z]:=I.cell y c e;exact#[w',z.sameBut g (cne y c e)]
  .let[e,n,ne,nf,d]:=I.pin p hp;exact#[(g.2 p.1 ne).trans e,n,ne,nf,d]
 .have hfn:X.fn x=true:=by
   rcases hf with z|z;.exact z
   .rw[z]at U;cases U
  let[c,C]:=I.ok.has x (.inl U);let[w',z]:=I.cell x c C;refine wpAny_storeName_cell I.ok.kind U C z λh' hc' g=>?_;let[oc,hoc,hocd]:=id z;refine h {s with heap:=h'} #[I.ok,I.os,I.bare,#[λb o e n hb J=>?_,λb o e n hb J=>?_,I.base.free,λb o e J=>?_,I.base.tups,I.base.frzs,I.base.tbls],#[m,hn.sameBut g (Ne.symm (cne x c C)),λj y v' t e2 e3=>?_],λy c' e=>?_,I.free,I.freeC,λp hp=>?_,l #[oc,hoc,I.freeC x c C] g,by simpa using I.len] #[c,g,.inr C];.exact(g.2 b (Uz (Uw (Up e) (I.ok.cab x c hfn C)))).trans (I.base.keep b o e n hb J)
  .let[sl,t]:=I.base.slot b o e n hb J;exact#[sl,(g.2 b (Uz (Uw (Up e) (I.ok.cab x c hfn C)))).trans t]
  .let[o',t]:=I.base.there b o e J;exact#[o',(g.2 b (Uz (Uw (Up e) (I.ok.cab x c hfn C)))).trans t]
  .by_cases hj:j=i;.subst hj;rw[hi]at t;cases t;rw[List.getElem?_set_self hiσ]at e2;cases e2;exact#[u,r,.inr #[.inl U,c,C,hc']]
   .rw[List.getElem?_set_ne (Ne.symm hj)]at e2;let[u',r',q]:=hl j y v' t e2 e3;refine#[u',r',?_];rcases q with q|⟨k,c',e,z'⟩;.exact .inl q
    .refine .inr #[k,c',e,z'.sameBut g ?_];rintro rfl;exact hj (sH hN t (I.ok.inj _ _ _ e C▸hi))
  .by_cases hcc:c'=c;.subst hcc;exact#[_,hc']
   .let[w2,z2]:=I.cell y c' e;exact#[w2,z2.sameBut g hcc]
  .let[e,n,ne,nf,d]:=I.pin p hp;refine#[(g.2 p.1 ?_).trans e,n,ne,nf,d];intro q;rw[q,hoc]at e;have q':=Option.some.inj e;exact d w' (by rw[<-q'];exact hocd)
def sI(I:Inv X pins σ H s)(l:X.N.Nodup)(hi:X.N[i]?=!x)(g:D3 X.env.scope x)(r:RelV v u)(h:∀s',Inv X pins (σ.set i !v) H s'->Q () s')(j:X.fn x=true\/X.env.scope.names.lookup x=some .local:=by first|exact .inl rfl|exact .inr rfl|assumption):wpAny M A (storeName X.env x u) Q E s:=pJ I l hi g r (λs' o _=>h s' o) j
def Inv.call'(I:Inv X pins σ H s)(l:s'.os=s.os)(u:Un (frs X.stack) r H H' s.heap s'.heap)(g:HOk X.prog X.w H' s'.heap)(o:AllBare s'.gens)(j:∀b∈r,(b∈X.ex\/X.s₀.heap.objs.size<=b)/\b≠X.env.locals/\(∀x c,X.env.cells.lookup x=!c->c≠b)/\∀p∈X.pn++pins,p.1≠b):Inv X pins σ H' s':=by let[h',C,J,t,o']:=s';have e:=l;subst e;exact I.call u g o j
end
abbrev XK:=Value->Option Addr->Hp->Prop
abbrev St:=List (Option V)
abbrev VK:=V->Hp->Prop
noncomputable abbrev TE:=St->Hp->VK->Prop
noncomputable abbrev TT:=St->Hp->(Bool->Hp->Prop)->Prop
noncomputable abbrev TA:=St->Hp->(List V->Hp->Prop)->Prop
structure Ends where
 nx:St->Hp->Prop
 rt:VK
 bk:St->Hp->Prop:=λ_ _=>False
 ct:St->Hp->Prop:=λ_ _=>False
noncomputable abbrev TS:=Ends->St->Hp->Prop
def  EP(X:Cx)(pins:T5)(σ:St)(Q:VK)(u:Value)(s':Shared):Prop:=∃v H',Inv X pins σ H' s'/\RelV v u/\Q v H'
def  TP(X:Cx)(pins:T5)(σ:St)(Q:Bool->Hp->Prop)(b:Bool)(s':Shared):Prop:=∃H',Inv X pins σ H' s'/\Q b H'
def  AP(X:Cx)(pins:T5)(σ:St)(Q:List V->Hp->Prop)(us:T9)(s':Shared):Prop:=∃vs H',Inv X pins σ H' s'/\Vals vs us/\Q vs H'
def  SP(X:Cx)(pins:T5)(D:Ends)(f:Flow)(s':Shared):Prop:=match f with
|.next=>∃σ' H',Inv X pins σ' H' s'/\D.nx σ' H'|.brk=>∃σ' H',Inv X pins σ' H' s'/\D.bk σ' H'|.cont=>∃σ' H',Inv X pins σ' H' s'/\D.ct σ' H'|.ret u=>∃v σ' H',Inv X pins σ' H' s'/\RelV v u/\D.rt v H'
def  PE(X:Cx)(e:Expr)(t:TE):Prop:=∀(pins:T5)(s:Shared)(σ:St)(H:Hp)(Q:VK),Inv X pins σ H s->t σ H Q->wpAny (!3) X.A (eval e X.env) (EP X pins σ Q) X.xe s
def  PT(X:Cx)(e:Expr)(t:TT):Prop:=∀(pins:T5)(s:Shared)(σ:St)(H:Hp)(Q:Bool->Hp->Prop),Inv X pins σ H s->t σ H Q->wpAny (!3) X.A (isTrue e X.env (eval e X.env)) (TP X pins σ Q) X.xe s
def  PW(X:Cx)(e:Expr)(t:TT):Prop:=∀(whole:Sem Value)(pins:T5)(s:Shared)(σ:St)(H:Hp)(Q:Bool->Hp->Prop),Inv X pins σ H s->t σ H Q->wpAny (!3) X.A (isTrue e X.env whole) (TP X pins σ Q) X.xe s
def PW.pt(h:PW X e t):PT X e t:=h _
def  PA(X:Cx)(es:Ui)(t:TA):Prop:=∀(pos:Pos)(pins:T5)(s:Shared)(σ:St)(H:Hp)(Q:List V->Hp->Prop),Inv X pins σ H s->t σ H Q->wpAny (!3) X.A (spliced !19) (AP X pins σ Q) X.xe s
def  PS(X:Cx)(st:Stmt)(t:TS):Prop:=∀(pins:T5)(s:Shared)(σ:St)(H:Hp)(D:Ends),Inv X pins σ H s->t D σ H->wpAny (!3) X.A (exec st X.env) (SP X pins D) X.xe s
def  PSs(X:Cx)(st:List Stmt)(t:TS):Prop:=∀(pins:T5)(s:Shared)(σ:St)(H:Hp)(D:Ends),Inv X pins σ H s->t D σ H->wpAny (!3) X.A (execs st X.env) (SP X pins D) X.xe s
def  bG{Q g:α->Shared->Prop}(h:wpAny M A t Q E s)(j:∀a s,Q a s->g a s):=UJ h j λ_ _ x=>x
section
variable{X:Cx}
def  OY(i:Nat):TE:=λσ H Q=>∃v,σ[i]?=!!v/\Q v H
def  tC(v:V):TE:=λ_ H Q=>Q v H
def bH{pos}(U:X.N[i]?=!x)(t:oQ X.env.scope x)(hd:(!5)=false:=by decide)(o:(!15)=false:=by decide):PE X (.Name x pos) (OY i):=by
 intro pins s σ H Q I h;let[v,e,h]:=h;let[m,C,T]:=I.loc;let[u,r,l]:=T i x v U e t;have fin:EP X pins σ Q u s:=#[v,H,I,r,h];rcases l with⟨j,J⟩|⟨j,c,p,g⟩;.exact wpAny_Name (wpAny_loadName_local I.ok.kind j C J fin) hd
 .rcases j with j|j;.exact wpAny_Name (wpAny_loadName_cell I.ok.kind j p g fin) hd
  .exact wpAny_Name (wpAny_loadName_free I.ok.kind j p g fin o) hd
def pe_int:PE X (.Constant (.int i) j pos) (tC (.int i)):=λ_ _ _ H _ I h=>wpAny_Constant_int #[.int i,H,I.tok _,#[_,rfl],h]
def pe_bl:PE X (.Constant (.bool b) j pos) (tC (.bl b)):=λ_ _ _ H _ I h=>Constant_bool #[.bl b,H,I,rfl,h]
def pe_non:PE X (.Constant .none j pos) (tC .non):=λ_ _ _ H _ I h=>Constant_none #[.non,H,I,rfl,h]
def pe_str:PE X (.Constant (.str x) j pos) (tC (.str x)):=λ_ _ _ H _ I h=>Calls.Constant_str #[.str x,H,I.tok _,#[_,rfl],h]
def  Gl(X:Cx)(x:Str):Prop:=X.env.kindOf x=some .globalImplicit
def qE{σ:St}(I:Inv X pins σ H s)(j:Gl X x)(g:X.mg x=!u)(h:Q u s)(hd:(!5)=false:=by decide):wpAny (!3) X.A (eval (.Name x pos) X.env) Q E s:=Calls.Name_function_global I.ok.kind j (Calls.loadGlobal_global (by rw[I.ok.glob];exact I.mod.glob.keeps I.bk) g h) hd
def cz{E}{σ:St}{pos}(I:Inv X pins σ H s)(o:Gl X x)(l:X.mg x=none)(g:bootBuiltins x=!u)(h:Q u s)(j:x≠"__name__":=by decide)(hd:(!5)=false:=by decide):wpAny (!3) X.A (eval (.Name x pos) X.env) Q E s:=by let[p,h1,h2]:=I.mod.blt;exact Calls.Name_function_global I.ok.kind o (Calls.loadGlobal_builtin (by rw[I.ok.glob];exact I.mod.glob.keeps I.bk) l (by rw[I.ok.blt];exact h1.keeps I.bk) ((h2 x j).trans g) h) hd
def D4(j:Gl X x)(g:X.mg x=!u)(r:RelV v u)(hd:(!5)=false:=by decide):PE X (.Name x pos) (tC v):=λ_ _ _ H _ I h=>qE I j g #[v,H,I,r,h] hd
def D5{pos}(o:Gl X x)(l:X.mg x=none)(g:bootBuiltins x=!u)(r:RelV v u)(j:x≠"__name__":=by decide)(hd:(!5)=false:=by decide):PE X (.Name x pos) (tC v):=λ_ _ _ H _ I h=>cz I o l g #[v,H,I,r,h] j hd
variable{a b:Expr}{ta tb:TE}{pos:Pos}
variable{tA tB':TT}{rest:Ui}
def  OZ(t u:TT):TT:=λσ H Q=>t σ H λc H1=>if c=true then u σ H1 Q else Q false H1
def  SU(t u:TT):TT:=λσ H Q=>t σ H λc H1=>if c=true then Q true H1 else u σ H1 Q
def  O0(t:TT):TT:=λσ H Q=>t σ H λc H1=>Q (not c) H1
def pw_and(r:PT X a tA)(p:PW X (.BoolOp .And (b::rest) pos) tB'):PW X (.BoolOp .And (a::b::rest) pos) (OZ tA tB'):=by intro l pins s σ H Q I h;refine isTrue_and (bG (r pins s σ H _ I h) λc o#[H1,j,g]=>?_);cases c with
|true=>exact p l pins o σ H1 Q j g|false=>exact#[H1,j,g]
def pw_or(r:PT X a tA)(p:PW X (.BoolOp .Or (b::rest) pos) tB'):PW X (.BoolOp .Or (a::b::rest) pos) (SU tA tB'):=by intro l pins s σ H Q I h;refine isTrue_or (bG (r pins s σ H _ I h) λc o#[H1,j,g]=>?_);cases c with
|true=>exact#[H1,j,g]|false=>exact p l pins o σ H1 Q j g
def HW(g:PT X a tA):PT X (.UnaryOp .Not a pos) (O0 tA):=by intro pins s σ H Q I h;exact isTrue_not (g pins s σ H (λc H1=>Q (not c) H1) I h)
def  Lg(ta tb:TE):TE:=λσ H Q=>ta σ H λx H1=>∃c,x=.bl c/\if c=true then tb σ H1 Q else Q (.bl false) H1
def  Lh(ta:TE):TE:=λσ H Q=>ta σ H λx H1=>∃c,x=.bl c/\Q (.bl (not c)) H1
def HX(h:PE X a t):PE X (.BoolOp op [a] pos) t:=λpins s σ H Q I g=>BoolOp_one (h pins s σ H Q I g)
def HY(r:PE X a ta)(p:PE X (.BoolOp .And (b::rest) pos) tb):PE X (.BoolOp .And (a::b::rest) pos) (Lg ta tb):=by intro pins s σ H Q I h;refine BoolOp_and (bG (r pins s σ H _ I h) λv l#[x,H1,j,o,g]=>?_);let[c,rfl,g]:=g;cases o;refine wpAny_truthy_bool ?_;cases c with
|true=>exact p pins l σ H1 Q j g|false=>exact#[.bl false,H1,j,rfl,g]
def HZ(l:PE X a ta):PE X (.UnaryOp .Not a pos) (Lh ta):=by intro pins s σ H Q I h;refine UnaryOp_ (bG (l pins s σ H _ I h) λv p#[x,H1,o,j,g]=>?_);let[c,rfl,g]:=g;cases j;exact not_of (wpAny_truthy_bool #[.bl (not c),H1,o,rfl,g])
def  SV(t:TT)(ta tb:TE):TE:=λσ H Q=>t σ H λc H1=>if c=true then ta σ H1 Q else tb σ H1 Q
def zS(o:PT X c tA)(r:PE X a ta)(p:PE X b tb):PE X (.IfExp c a b pos) (SV tA ta tb):=by intro pins s σ H Q I h;refine wpAny_IfExp (bG (o pins s σ H _ I h) λd g#[H1,l,j]=>?_);cases d with
|true=>exact r pins g σ H1 Q l j|false=>exact p pins g σ H1 Q l j
end
def  SqL(K:Frag)(H:Hp)(a:Addr)(xs:List V):Prop:=Rd H a (.lst xs)\/∃(o:Obj)(its:Ug)(n:Nat),K.lookup a=!o/\o.cls=.type "list"/\o.dict=none/\o.data=.seq its n/\its.size<=sizeLine/\Vals xs its.toList
def  SqT(K:Frag)(H:Hp)(a:Addr)(xs:List V):Prop:=Rd H a (.tup xs)\/∃(o:Obj)(its:Ug)(n:Nat),K.lookup a=!o/\o.cls=.type "tuple"/\o.data=.seq its n/\its.size<=sizeLine/\Vals xs its.toList
def  O4:Value->Option V
|.none=>some .non|.bool b=>!.bl b|.int i _=>!.int i|.str x _=>!.str x|.bytes b _=>!.byt b|.float b _=>!.flt b|.ref a=>!.ref a|.type n=>!.ty n|_=>none
def RelV.abs(r:RelV x u):O4 u=!x:=by cases x with
|non=>cases r;rfl|bl _=>cases r;rfl|int _=>let[t,rfl]:=r;rfl|str _=>let[t,rfl]:=r;rfl|byt _=>let[t,rfl]:=r;rfl|flt _=>let[t,rfl]:=r;rfl|ref _=>cases r;rfl|ty _=>cases r;rfl
noncomputable def  RelV.inj(r:RelV x u)(q:RelV y u):=Option.some.inj (r.abs.symm.trans q.abs)
def Vals.inj:∀{xs ys:List V}{us:T9},Vals xs us->Vals ys us->xs=ys
|_,_,_,.nil,.nil=>rfl|_,_,_,.cons r t,.cons r' t'=>by rw[r.inj r',Vals.inj t t']
section
variable{X:Cx}{pins:T5}{σ:St}{H:Hp}{s:Shared}{a:Addr}{xs ys:List V}
def SqL.up{K}(h:∀b o,H b=!o->H' b=!o)(q:SqL K H a xs):SqL K H' a xs:=by
 rcases q with(q|⟨o,q⟩)|q;.exact .inl (.inl (h _ _ q))
 .exact .inl (.inr #[o,h _ _ q])
 .exact .inr q
def SqL.of{K}(h:H a=!.lst xs):SqL K H a xs:=.inl (.inl h)
def SqT.of{K}(h:H a=!.tup xs):SqT K H a xs:=.inl (.inl h)
def Inv.list(I:Inv X pins σ H s)(h:SqL X.K H a xs):∃g:T9,Vals xs g/\PlainL s.heap a g.toArray/\xs.length<=sizeLine:=by
 rcases h with h|⟨o,g,n,l,p,hd,j,t,r⟩;.let[z,g,n,r,e]:=h.ok I.hok;exact#[g,r,#[_,n,e,rfl,rfl,rfl],z]
 .refine#[g.toList,r,#[o,n,I.kIn a o l,p,hd,by simpa using j],?_];have e:=r.length;simp only[Array.length_toList]at e;lia
def Inv.tuple(I:Inv X pins σ H s)(h:SqT X.K H a xs):∃g:T9,Vals xs g/\IsTup s.heap a g.toArray/\xs.length<=sizeLine:=by
 rcases h with h|⟨o,g,n,l,t,j,C,r⟩;.let[z,g,r,p]:=h.ok I.hok;exact#[g,r,p,z]
 .refine#[g.toList,r,#[o,I.kIn a o l,t,n,by simpa using j],?_];have e:=r.length;simp only[Array.length_toList]at e;lia
def Inv.list_inj(I:Inv X pins σ H s)(h:SqL X.K H a xs)(h':SqL X.K H a ys):xs=ys:=by
 let[j,r,[o,n,e,_,_,d],_]:=I.list h;let[g,t,[o',C,l,_,_,p],_]:=I.list h';rw[e]at l;cases l;rw[d]at p;injection p with J _;have:j=g:=by simpa using congrArg Array.toList J
 subst this;exact r.inj t
def Inv.tuple_inj(I:Inv X pins σ H s)(h:SqT X.K H a xs)(h':SqT X.K H a ys):xs=ys:=by
 let[j,r,[o,e,_,n,d],_]:=I.tuple h;let[g,t,[o',l,_,C,p],_]:=I.tuple h';rw[e]at l;cases l;rw[d]at p;injection p with J _;have:j=g:=by simpa using congrArg Array.toList J
 subst this;exact r.inj t
end
noncomputable abbrev Cx.wish(X:Cx)(E:T8):Cx:={X with xe:=E}
abbrev Cx.nox(X:Cx):Cx:=X.wish λ_ _=>False
def Cx.Ok.wish{X:Cx}(ok:X.Ok)(E:T8):(X.wish E).Ok:=#[ok.mod,ok.kind,ok.glob,ok.blt,ok.above,ok.inj,ok.has,ok.cab,ok.hd,ok.frames,ok.stk,ok.exf,ok.bs,ok.bsz,ok.noex,ok.exfs,ok.funs,ok.frf]
def Cx.Ok.unwish{X:Cx}(ok:(X.wish E).Ok):X.Ok:=#[ok.mod,ok.kind,ok.glob,ok.blt,ok.above,ok.inj,ok.has,ok.cab,ok.hd,ok.frames,ok.stk,ok.exf,ok.bs,ok.bsz,ok.noex,ok.exfs,ok.funs,ok.frf]
def Inv.wish(I:Inv X pins σ H s)(E:T8):Inv (X.wish E) pins σ H s:=#[I.ok.wish E,I.os,I.bare,I.base,I.loc,I.cell,I.free,I.freeC,I.pin,I.hok,I.len]
def Inv.unwish(I:Inv (X.wish E) pins σ H s):Inv X pins σ H s:=#[I.ok.unwish,I.os,I.bare,I.base,I.loc,I.cell,I.free,I.freeC,I.pin,I.hok,I.len]
def SP.unwish{X:Cx}{pins:T5}{E:T8}{D}(h:SP (X.wish E) pins D f s'):SP X pins D f s':=by cases f with
|next=>let[g,H',I,q]:=h;exact#[g,H',I.unwish,q]|brk=>let[g,H',I,q]:=h;exact#[g,H',I.unwish,q]|cont=>let[g,H',I,q]:=h;exact#[g,H',I.unwish,q]|ret u=>let[v,g,H',I,r,q]:=h;exact#[v,g,H',I.unwish,r,q]
def PSs.nox{X:Cx}{st}(h:PSs X.nox st t):PSs X st t:=λpins s σ H D I g=>UJ (h pins s σ H D (I.wish _) g) (λ_ _ q=>q.unwish) λ_ _ z=>False.elim z
section
variable{X:Cx}{st:Stmt}{rest:List Stmt}{t u:TS}{e:Expr}{te:TE}{pos:Pos}
def  zT:TS:=λD σ H=>D.nx σ H
def  Li(t u:TS):TS:=λD σ H=>t {D with nx:=u D} σ H
def pss_nil:PSs X [] zT:=λ_ _ σ H _ I h=>wpAny_execs_nil #[σ,H,I,h]
def ij(h1:PS X st t)(h2:PSs X rest u):PSs X (st::rest) (Li t u):=by intro pins s σ H D I h;refine wpAny_execs_cons (bG (h1 pins s σ H {D with nx:=u D} I h) λf j q=>?_);cases f with
|next=>let[g,H',l,q]:=q;exact h2 pins j g H' D l q|ret v=>exact q|brk=>exact q|cont=>exact q
def ps_pass:PS X (.Pass pos) zT:=λ_ _ σ H _ I h=>wpAny_Pass #[σ,H,I,h]
def Inv.quiet{σ:St}(I:Inv X pins σ H s):interactive X.env=false:=by simp[interactive,I.ok.kind]
def ps_doc:PS X (.Expr (.Constant (.str x) j pos) pos') zT:=λ_ s σ H _ I h=>wpAny_Expr (Calls.Constant_str #[σ,H,I.tok _,h]) I.quiet
def  Lj(te:TE):TS:=λD σ H=>te σ H λ_ H1=>D.nx σ H1
def fu(l:PE X e te)(j:swapsWith e none pos.line X.env=pure false:=by rfl):PS X (.Expr e pos) (Lj te):=by intro pins s σ H D I h;exact wpAny_Expr_any (bG (l pins s σ H _ I h) λv p#[x,H1,o,r,g]=>#[σ,H1,o,g]) I.quiet j
def  O6(te:TE):TS:=λD σ H=>te σ H D.rt
def uV(l:PE X e te):PS X (.Return (!e) pos) (O6 te):=by intro pins s σ H D I h;exact wpAny_Return_some (bG (l pins s σ H _ I h) λv p#[x,H1,o,g,j]=>#[x,σ,H1,o,g,j])
def  Lk:TS:=λD _ H=>D.rt .non H
def ps_retN:PS X (.Return none pos) Lk:=λ_ _ σ H _ I h=>wpAny_Return_none #[.non,σ,H,I,rfl,h]
def  O7(c:TT)(t u:TS):TS:=λD σ H=>c σ H λb H1=>if b=true then t D σ H1 else u D σ H1
def Ll(o:PT X c tc)(r:PSs X a t)(p:PSs X b u):PS X (.If c a b pos) (O7 tc t u):=by intro pins s σ H D I h;refine wpAny_If (bG (o pins s σ H _ I h) λd g#[H1,l,j]=>?_);cases d with
|true=>exact r pins g σ H1 D l j|false=>exact p pins g σ H1 D l j
def  zU:TS:=λ_ _ _=>False
def ps_never:PS X st zU:=λ_ _ _ _ _ _ h=>h.elim
def pss_never:PSs X J zU:=λ_ _ _ _ _ _ h=>h.elim
end
abbrev TG:=V->St->Hp->(St->Hp->Prop)->Prop
abbrev GO:=List V->St->Hp->(St->Hp->Prop)->Prop
def  PG(X:Cx)(target:Expr)(t:TG):Prop:=∀(pins:T5)(s:Shared)(σ:St)(H:Hp)(v:V)(u:Value)(Q:St->Hp->Prop),Inv X pins σ H s->RelV v u->t v σ H Q->wpAny (!3) X.A (assign target X.env u) (λ_ s'=>∃σ' H',Inv X pins σ' H' s'/\Q σ' H') X.xe s
def  PGs(X:Cx)(ts:Ui)(t:GO):Prop:=∀(pins:T5)(s:Shared)(σ:St)(H:Hp)(vs:List V)(us:T9)(Q:St->Hp->Prop),Inv X pins σ H s->Vals vs us->t vs σ H Q->wpAny (!3) X.A (assignInOrder ((assignEach ts X.env).map (·.2)) us) (λ_ s'=>∃σ' H',Inv X pins σ' H' s'/\Q σ' H') X.xe s
abbrev H9:=V->V->V->Hp->(Hp->Prop)->Prop
def  Ia(X:Cx)(t:H9):Prop:=∀(pins:T5)(s:Shared)(σ:St)(H:Hp)(o i v:V)(ov iv u:Value)(Q:Hp->Prop),Inv X pins σ H s->RelV o ov->RelV i iv->RelV v u->t o i v H Q->wpAny (!3) X.A (setItem ov iv u) (λ_ s'=>∃H',Inv X pins σ H' s'/\Q H') X.xe s
section
variable{X:Cx}{pos:Pos}
def  sJ(i:Nat):TG:=λv σ H Q=>Q (σ.set i !v) H
def qF(l:X.N.Nodup)(hi:X.N[i]?=!x)(g:D3 X.env.scope x)(j:X.fn x=true\/X.env.scope.names.lookup x=some .local:=by first|exact .inl rfl|exact .inr rfl|assumption):PG X (.Name x pos) (sJ i):=by intro pins s σ H v u Q I r h;exact wpAny_assign_Name (sI I l hi g r (λs' o=>#[_,H,o,h]) j)
def  O8:GO:=λvs σ H Q=>vs=[]/\Q σ H
def  Lm(t:TG)(u:GO):GO:=λvs σ H Q=>∃v r,vs=v::r/\t v σ H λσ' H'=>u r σ' H' Q
def pgs_nil:PGs X [] O8:=by intro pins s σ H g j Q I r h;let[e,h]:=h;exact assignInOrder_nil #[σ,H,I,h]
def sK(h1:PG X e t)(h2:PGs X es u)(p:(assignEach (e::es) X.env).map (·.2)=assign e X.env::(assignEach es X.env).map (·.2):=by rfl):PGs X (e::es) (Lm t u):=by intro pins s σ H T us Q I r h;let[v,U,C,h]:=h;subst C;cases r with|cons r l=>rw[p];exact assignInOrder_cons (bG (h1 pins s σ H _ _ _ I r h) λ_ j#[g,H1,J,o]=>h2 pins j g H1 _ _ Q J l o)
def  O9(K:Frag)(n:Nat)(t:GO):TG:=λv σ H Q=>∃a xs,v=.ref a/\SqT K H a xs/\xs.length=n/\t xs σ H Q
def zV{k}(hc:X.calm=true)(h:PGs X es t)(hn:(assignEach es X.env).length=n:=by rfl)(hst:(assignEach es X.env).findIdx? (·.1)=none:=by rfl):PG X (.Tuple es k pos) (O9 X.K n t):=by intro pins s σ H v u Q I r hw;let[a,xs,e1,hq,hl,hw]:=hw;subst e1;cases r;let[its,rv,ht,hz]:=I.tuple hq;refine assign_Tuple_tuple (I.ok.hd hc) ht (by simp[hn,<-hl,rv.length]) hst λh' hx=>?_;have I1:Inv X pins σ H {s with heap:=h'}:=I.kept λb o e=>hx b o (Uz (Up e)) e;exact h pins _ σ H xs _ Q I1 (by simpa using rv) hw
def  Pa(to ti:TE)(t:H9):TG:=λv σ H Q=>to σ H λo H1=>ti σ H1 λi H2=>t o i v H2 λH3=>Q σ H3
def zW(ho:PE X o to)(hi:PE X i l)(hs:Ia X t)(ha:∀v,assign (.Subscript o i pos) X.env v=(do
  let g<-holding [v] (eval o X.env)let j<-holding [v,g] (eval i X.env)standAt pos
  holding [v,g,j] (setItem g j v)release [v,g,j] []):=by intro _;rfl):PG X (.Subscript o i pos) (Pa to l t):=by
 intro pins s σ H v u Q I r h;exact Ul (wpAny_holding (bG (ho pins s σ H _ I h) λg C#[x,H1,I1,T,q1]=>Ul (wpAny_holding (bG (hi pins C σ H1 _ I1 q1) λj p#[y,H2,I2,J,q2]=>Ul (wpAny_standAt (Ul (wpAny_holding (bG (hs pins p σ H2 x y v g j u _ I2 T J r q2) λ_ s3#[H3,I3,U]=>wpAny_release #[σ,H3,I3,U]))))))))
def  zX(te:TE)(g:TG):TS:=λD σ H=>te σ H λx H1=>g x σ H1 D.nx
def qG(C:PE X e te)(t:PG X tg g)(r:swapsWithSole [tg] e pos.line X.env=pure false:=by rfl)(p:swappedStores [tg] e X.env=pure none:=by rfl)(h1:(assignEach [tg] X.env).map (·.2)=[assign tg X.env]:=by rfl):PS X (.Assign [tg] e pos) (zX te g):=by intro pins s σ H D I h;refine wpAny_Assign_stores (bG (C pins s σ H _ I h) λv j#[x,H1,J,l,o]=>?_) r p;rw[h1];exact bG (t pins j σ H1 x v _ J l o) λ_ T q=>q
def Ib(t:X.N.Nodup)(hi:X.N[i]?=!x)(l:D3 X.env.scope x)(r:PE X e te)(o:swapsWith e (!.Name x pos') pos.line X.env=pure false:=by rfl)(p:X.fn x=true\/X.env.scope.names.lookup x=some .local:=by first|exact .inl rfl|exact .inr rfl|assumption):PS X (.Assign [.Name x pos'] e pos) (zX te (sJ i)):=by
 intro pins s σ H D I h;exact wpAny_Assign_Name (bG (r pins s σ H _ I h) λv U#[y,H1,J,g,j]=>sI J t hi l g (λT C=>#[_,H1,C,j]) p) o
end
structure It where
 go:Nat->Hp->Prop
 yld:Nat->Hp->V->Hp->Prop
 stop:Nat->Hp->Prop
def  jW(X:Cx)(pins:T5)(H:Hp)(b:Addr):Prop:=H b=none/\b≠X.env.locals/\b∉X.fs/\(b∈X.ex\/X.s₀.heap.objs.size<=b)/\(∀x c,X.env.cells.lookup x=!c->c≠b)/\∀p∈X.pn++pins,p.1≠b
def Inv.fpOk{σ:St}{b:Addr}(I:Inv X pins σ H s)(g:s.heap.objs.size<=b)(l:H' b=none):jW X pins H' b:=by
 refine#[l,Nat.ne_of_gt (Uw I.lt g),I.nofs g,.inr (Uy I.sz g),λx c e z=>?_,λp j z=>absurd (Uw (Up (I.pin p j).1) (by rw[z];exact g)) (UE _)];.let[v,q]:=I.cell x c e;exact absurd (Uw q.lt (by rw[z];exact g)) (UE _)
structure Turn(P:Program)(w:World)(K:Frag)(tg:Expr)(J:It)(fp:List Addr)(it:Addr)(tn:Nat->Heap->Prop):Prop where
 mem:it∈fp
 obj:∀i h,tn i h->∀b∈fp,∃o,h.get? b=!o/\∀v,o.data≠.cell v
 keep:∀i h h',tn i h->(∀b∈fp,∀o,h.get? b=!o->h'.get? b=!o)->tn i h'
 item:∀(X:Cx),X.prog=P->X.w=w->X.K=K->X.calm=true->∀(i:Nat)(pins:T5)(s:Shared)(σ:St)(H:Hp)(E:T8),Inv X pins σ H s->(∀b∈fp,jW X pins H b)->tn i s.heap->J.go i H->wpAny (model P w) X.A (pyNext (.ref it)) (λr s1=>∃u,r=!u/\wpAny (model P w) X.A (letOwnedTupleGo tg (.ref it) u) (λ_ s2=>∃x H',Inv X pins σ H' s2/\RelV x u/\J.yld i H x H'/\tn (i+1) s2.heap/\∀b∈fp,H' b=none) E s1) E s
 done:∀(X:Cx),X.prog=P->X.w=w->X.K=K->X.calm=true->∀(i:Nat)(pins:T5)(s:Shared)(σ:St)(H:Hp)(E:T8),Inv X pins σ H s->(∀b∈fp,jW X pins H b)->tn i s.heap->J.stop i H->wpAny (model P w) X.A (pyNext (.ref it)) (λr s1=>r=none/\Inv X pins σ H s1) E s
 self:∀(A:Around)(i:Nat)(s:Shared)(Q:T8)(E:T8),tn i s.heap->Q (.ref it) s->wpAny (model P w) A (pyIter (.ref it)) Q E s
noncomputable abbrev TI:=St->Hp->(It->Hp->Prop)->Prop
def  RE(X:Cx)(pins:T5)(σ:St)(tg:Expr)(R:It->Hp->Prop)(itv:Value)(s2:Shared):Prop:=∃(it:Addr)(fp:List Addr)(tn:Nat->Heap->Prop)(J:It)(H':Hp),itv=.ref it/\Inv X pins σ H' s2/\Turn X.prog X.w X.K tg J fp it tn/\tn 0 s2.heap/\(∀b∈fp,jW X pins H' b)/\R J H'
def  PI(X:Cx)(tg iter:Expr)(wi:TI):Prop:=∀(pins:T5)(s:Shared)(σ:St)(H:Hp)(R:It->Hp->Prop),Inv X pins σ H s->wi σ H R->wpAny (!3) X.A (eval iter X.env) (λv s1=>wpAny (!3) X.A (pyIter v) (RE X pins σ tg R) X.xe s1) X.xe s
def wK(p:s.heap.get? l=!o)(t:o.cls=.type n)(hd:o.data=.fields j)(r:["enumerate","zip","dict_itemiterator","dict_reverseitemiterator","odict_iterator","itertools.zip_longest","itertools.pairwise"].contains n=false)(g:Q () s):wpAny M A (letOwnedTupleGo tg (.ref l) u) Q E s:=by cases tg<;>first
|exact Uo g|(cases u<;>first
|exact Uo g
        | (refine Ul (wpAny_load p ?_);rw[t,hd];show wpAny M A (if(["enumerate","zip","dict_itemiterator","dict_reverseitemiterator","odict_iterator","itertools.zip_longest","itertools.pairwise"].contains n&&j[0]?==!rawInt _)=true then _ else _) Q E s;rw[if_neg (by intro h;rw[r,Bool.false_and]at h;cases h)];exact Uo g))
def  Pb(K:Frag)(a:Addr):It:=#[λi H=>∃xs x,SqL K H a xs/\xs[i]?=!x,λi H x H'=>H'=H/\∀xs,SqL K H a xs->xs[i]?=!x,λi H=>∃xs,SqL K H a xs/\xs.length<=i]
def  Pc(K:Frag)(a:Addr):It:=#[λi H=>∃xs x,SqT K H a xs/\xs[i]?=!x,λi H x H'=>H'=H/\∀xs,SqT K H a xs->xs[i]?=!x,λi H=>∃xs,SqT K H a xs/\xs.length<=i]
noncomputable def  Ln(lo:Int)(n:Nat):It:=#[λi _=>i<n,λi H x H'=>H'=H/\x=.int (lo+i),λi _=>n<=i]
def yu{P:Program}{w:World}{K:Frag}{tg:Expr}(a g:Addr):Turn P w K tg (Pb K a) [g] g λi h=>h.IsListIter g a i where
 mem:=by simp
 obj:=λi h st b j=>by
  have e:b=g:=by simpa using j
  subst e;let[o,e,c,d]:=st;exact#[o,e,λv z=>by rw[d]at z;cases z]
 keep:=λi h h' st k=>st.at λo e=>k g (by simp) o e;item:=by intro X hP T hK hc i pins s σ H E I t st U;subst hP T hK;let[xs,x,r,J]:=U;let[C,rv,p,hz]:=I.list r;let[u,hu,ru]:=rv.get J;let[f0,f1,f2,f3,f4,f5]:=t g (by simp);refine wpAny_pyNext_list_item st p.isList (by simpa using hu) λh' l sb=>?_;have I1:Inv X pins σ H {s with heap:=h'}:=I.turned (λb o j e=>(sb.2 b j).trans e) f0 f1 f3 f4 f5;let[o,e,c,d]:=id l;exact#[u,rfl,wK e c d (!2) #[x,H,I1,ru,#[rfl,λys hy=>by rw[I.list_inj hy r];exact J],l,λb j=>(t b j).1]]
 done:=by intro X hP T hK hc i pins s σ H E I t st U;subst hP T hK;let[xs,r,J]:=U;let[C,rv,p,hz]:=I.list r;let[f0,f1,f2,f3,f4,f5]:=t g (by simp);have hl:=rv.length;exact wpAny_pyNext_list_end (I.ok.hd hc) st p.isList (by simp;lia) λh' eb=>#[rfl,I.turned (λb o j e=>eb b o j e) f0 f1 f3 f4 f5]
 self:=λ_ _ _ _ _ st h=>wpAny_pyIter_listiter st h
def uW{P:Program}{w:World}{K:Frag}{tg:Expr}(a g:Addr):Turn P w K tg (Pc K a) [g] g λi h=>h.IsTupleIter g a i where
 mem:=by simp
 obj:=λi h st b j=>by
  have e:b=g:=by simpa using j
  subst e;let[o,e,c,d]:=st;exact#[o,e,λv z=>by rw[d]at z;cases z]
 keep:=λi h h' st k=>st.at λo e=>k g (by simp) o e;item:=by intro X hP T hK hc i pins s σ H E I t st U;subst hP T hK;let[xs,x,r,J]:=U;let[C,rv,p,hz]:=I.tuple r;let[u,hu,ru]:=rv.get J;let[f0,f1,f2,f3,f4,f5]:=t g (by simp);refine wpAny_pyNext_tuple_item st p (by simpa using hu) λh' l sb=>?_;have I1:Inv X pins σ H {s with heap:=h'}:=I.turned (λb o j e=>(sb.2 b j).trans e) f0 f1 f3 f4 f5;let[o,e,c,d]:=id l;exact#[u,rfl,wK e c d (!2) #[x,H,I1,ru,#[rfl,λys hy=>by rw[I.tuple_inj hy r];exact J],l,λb j=>(t b j).1]]
 done:=by intro X hP T hK hc i pins s σ H E I t st U;subst hP T hK;let[xs,r,J]:=U;let[C,rv,p,hz]:=I.tuple r;let[f0,f1,f2,f3,f4,f5]:=t g (by simp);have hl:=rv.length;exact wpAny_pyNext_tuple_end (I.ok.hd hc) st p (by simp;lia) λh' eb=>#[rfl,I.turned (λb o j e=>eb b o j e) f0 f1 f3 f4 f5]
 self:=λ_ _ _ _ _ st h=>wpAny_pyIter_tupleiter st h
def uX{P:Program}{w:World}{K:Frag}{tg:Expr}(g:Addr)(lo:Int)(n:Nat):Turn P w K tg (Ln lo n) [g] g λi h=>IsRangeIter h g (lo+(i:Nat)*1) ((n:Int)-(i:Nat)) 1where
 mem:=by simp
 obj:=λi h st b j=>by
  have e:b=g:=by simpa using j
  subst e;exact#[_,st,λv z=>by have z':=z;cases z']
 keep:=λi h h' st k=>k g (by simp) _ st;item:=by intro X hP hw hK C i pins s σ H E I p st r;subst hP hw hK;let[f0,f1,f2,U,T,J]:=p g (by simp);refine(Walks.range (prog:=X.prog) (w:=X.w) (I.ok.hd C) g lo 1 n).item i s _ _ r st λv h' tk hv l kk=>?_;let[t,rfl]:=hv;have I1:Inv X pins σ H {s with heap:=h',toks:=tk}:=I.turned (λb o j e=>kk b o (by simpa using j) e) f0 f1 U T J;refine#[_,rfl,wK l rfl rfl (!2) #[.int _,H,I1,#[t,?_],#[rfl,rfl],l,λb j=>(p b j).1]];rw[Int.mul_one]
 done:=by intro X hP hw hK C i pins s σ H E I p st r;let[f0,f1,f2,U,T,J]:=p g (by simp);exact wpAny_pyNext_range_end (I.ok.hd C) st (by have:n<=i:=r;lia) λh' eb=>#[rfl,I.turned (λb o j e=>eb b o j e) f0 f1 U T J]
 self:=λ_ _ _ _ _ st h=>wpAny_pyIter_rangeiter st h
section
variable{X:Cx}{tg:Expr}
def sL{σ:St}{lo hi}(I:Inv X pins σ H s)(h1:-2^62<=lo)(h2:lo<2^62)(h3:-2^62<=hi)(h4:hi<2^62)(q:R (Ln lo (hi-lo).toNat) H):wpAny (!3) X.A (pyIter (.ref s.heap.objs.size)) (RE X pins σ tg R) E {s with heap:=s.heap.push {cls:=.type "range",data:=.fields #[ .int lo t,.int hi u,.int 1 v]},toks:=tk}:=by
 refine wpAny_pyIter_range (IsRange.new ..) (small_one h1 h2 h3 h4) ?_;have I1:Inv X pins σ H {s with heap:=s.heap.push {cls:=.type "range",data:=.fields #[ .int lo t,.int hi u,.int 1 v]},toks:=tk}:=I.kept λb o e=>Um _ e;refine#[(s.heap.push {cls:=.type "range",data:=.fields #[ .int lo t,.int hi u,.int 1 v]}).objs.size,[(s.heap.push {cls:=.type "range",data:=.fields #[ .int lo t,.int hi u,.int 1 v]}).objs.size],_,_,H,rfl,I1.kept λb o e=>Um _ e,uX _ lo (hi-lo).toNat,?_,λb hb=>?_,q]
 .have e1:lo+((0:Nat):Int)*1=lo:=by simp
  have e2:(((hi-lo).toNat:Nat):Int)-((0:Nat):Int)=Builtin.Range.rangeSize lo hi 1:=by rw[rangeSize_one];split<;>lia
  rw[e1,e2];exact Uq _ rfl
 .have e:b=(s.heap.push {cls:=.type "range",data:=.fields #[ .int lo t,.int hi u,.int 1 v]}).objs.size:=by simpa using hb
  subst e;exact I1.fpOk (UI _) (I1.hok.fresh (UI _))
def  Lo(ta:TA):TI:=λσ H R=>ta σ H λvs H1=>∃j:Int,vs=[.int j]/\-2^62<=j/\j<2^62/\R (Ln 0 j.toNat) H1
def  Lp(ta:TA):TI:=λσ H R=>ta σ H λvs H1=>∃i j:Int,vs=[.int i,.int j]/\(-2^62<=i/\i<2^62/\-2^62<=j/\j<2^62)/\R (Ln i (j-i).toNat) H1
def yw(U:Gl X "range")(T:X.mg "range"=none)(ha:PA X [a] ta)(J:starEach [a] X.env=[(false,eval a X.env)]:=by rfl):PI X tg (.Call (.Name "range" p) [a] [] pos) (Lo ta):=by intro pins s σ H R I h;refine Call_ (cz I U T boot_range (PyProof.Rows.callWith_type1 (bG (ha pos pins s σ H _ I h) λus s1#[vs,H1,I1,o,g]=>?_) J rfl));let[j,e,g,C,q]:=g;subst e;cases o with|cons r l=>cases l;let[t,rfl]:=r;exact call_range_1 (sL I1 (by lia) (by lia) g C (by simpa using q))
def yx{p pos}(hg:Gl X "range")(hm:X.mg "range"=none)(ha:PA X [a,b] ta)(hs:starEach [a,b] X.env=[(false,eval a X.env),(false,eval b X.env)]:=by rfl)(g:starEach [b] X.env=[(false,eval b X.env)]:=by rfl):PI X tg (.Call (.Name "range" p) [a,b] [] pos) (Lp ta):=by
 intro pins s σ H R I h;refine Call_ (cz I hg hm boot_range (PyProof.Rows.callWith_type1 (bG (ha pos pins s σ H _ I h) λus s1#[vs,H1,I1,C,o]=>?_) (by rw[hs,g]) (by rw[g];rfl)));let[i,j,e,[o,q2,U,T],q]:=o;subst e;cases C with|cons r l=>cases l with|cons J l=>cases l;let[t,rfl]:=r;let[t',rfl]:=J;exact call_range_2 (sL I1 o q2 U T q)
def  Lq(wi:TI)(g:TG)(tb:TS):TS:=λD σ H=>wi σ H λJ H1=>∃W:Nat->Nat->St->Hp->Prop,(∃m,W 0 m σ H1)/\∀i m σ H,W i m σ H->J.stop i H/\D.nx σ H\/J.go i H/\∃N:St->Hp->Prop,(∀σ' H',N σ' H'->∃m',m'<m/\W (i+1) m' σ' H')/\∀x H',J.yld i H x H'->g x σ H' λσ2 H2=>tb {D with nx:=N,ct:=N,bk:=D.nx} σ2 H2
noncomputable def  nh(fp:List Addr)(h:Heap):T5:=fp.filterMap λb=>(h.get? b).map λo=>(b,o)
def gt(g:b∈fp)(e:h.get? b=!o):(b,o)∈nh fp h:=List.mem_filterMap.mpr #[b,g,by rw[e];rfl]
def yy(g:p∈nh fp h):p.1∈fp/\h.get? p.1=!p.2:=by let[b,j,e]:=List.mem_filterMap.mp g;cases q:h.get? b with
|none=>rw[q]at e;cases e|some o=>rw[q]at e;have l:=Option.some.inj e;subst l;exact#[j,q]
def Inv.pinned{σ:St}(I:Inv X pins σ H s)(t:∀b∈fp,jW X pins H b)(r:∀b∈fp,∃o,s.heap.get? b=!o/\∀v,o.data≠.cell v):Inv X (pins++nh fp s.heap) σ H s:=I.pins_of λp l=>(mem_append.mp l).elim (λz=>I.pin p (UD _ z)) λz=>by let[g,e]:=yy z;let[C,f1,f2,_]:=t p.1 g;let[o,j,d]:=r p.1 g;rw[e]at j;cases j;exact#[e,C,f1,f2,d]
def  Inv.unpinned{σ:St}(I:Inv X (pins++pl) σ H s):=I.pins_of λp g=>I.pin p (UD _ (UC _ g))
def uY(hp:PassesOwn (!3) X.A X.env X.xe)(hc:X.calm=true)(hi:PI X tg iter wi)(hg:PG X tg g)(C:PSs X body tb)(hs:∀x,foldedSetIterable iter X.env x=pure x:=by intro _;rfl):PS X (.For tg iter body [] pos) (Lq wi g tb):=by
 intro pins s σ H D I h;refine wpAny_For (bG (hi pins s σ H _ I h) λv s1 h1=>bG h1 λitv s2 h2=>?_) hs;let[it,fp,tn,J,H2,e,I2,T,KU,f2,W,[m0,w0],turn]:=h2;subst e;have t:∀{H':Hp},(∀b∈fp,H' b=none)->∀b∈fp,jW X pins H' b:=λhn b C=>#[hn b C,(f2 b C).2];refine codeAny_forLoop_any (λn s'=>∃i p H',Inv X pins p H' s'/\tn i s'.heap/\(∀b∈fp,H' b=none)/\W i n p H') ?_ m0 #[0,σ,H2,I2,KU,λb C=>(f2 b C).1,w0];rintro n s3⟨i,l,H3,I3,GN,fr3,w3⟩;rcases turn i n l H3 w3 with⟨stop,qn⟩|⟨go,N,hN,step⟩
 .refine wpAny_passesOwn hp (bG (T.done X rfl rfl rfl hc i pins s3 l H3 X.xe I3 (t fr3) GN stop) λr s4#[hr,I4]=>?_);subst hr;exact wpAny_execs_nil #[l,H3,I4,qn]
 .refine wpAny_passesOwn hp (bG (T.item X rfl rfl rfl hc i pins s3 l H3 X.xe I3 (t fr3) GN go) λr s4#[u,hr,h4]=>?_);subst hr;refine wpAny_passesOwn hp (bG h4 λ_ s5#[x,H5,I5,r5,y5,st5,fr5]=>?_);have I5':=I5.pinned (t fr5) (T.obj _ _ st5);refine wpAny_passesOwn hp (bG (hg _ s5 l H5 x u _ I5' r5 (step x H5 y5)) λ_ s6#[σ6,H6,I6,q6]=>wpAny_passesOwn hp (bG (C _ s6 σ6 H6 _ I6 q6) λf s7 q7=>?_));have again:∀{j:St}{H7:Hp},Inv X (pins++nh fp s5.heap) j H7 s7->N j H7->∃m,m<n/\∃i p H',Inv X pins p H' s7/\tn i s7.heap/\(∀b∈fp,H' b=none)/\W i m p H':=λ{j H7}U n7=>by
   let[m',hm,w7]:=hN j H7 n7;refine#[m',hm,i+1,j,H7,U.unpinned,T.keep _ _ _ st5 λb C o e=>(U.pin (b,o) (UD _ (UD _ (gt C e)))).1,λb C=>?_,w7];let[o,e,d]:=T.obj _ _ st5 b C;exact(U.pin (b,o) (UD _ (UD _ (gt C e)))).2.1
  cases f with
|next=>let[j,H7,U,n7]:=q7;exact again U n7|cont=>let[j,H7,U,n7]:=q7;exact again U n7|brk=>let[j,H7,U,q7]:=q7;exact#[j,H7,U.unpinned,q7]|ret v=>let[x7,j,H7,U,r7,q7]:=q7;exact#[x7,j,H7,U.unpinned,r7,q7]
end
abbrev R2:=V->V->Hp->VK->Prop
def  OpR(X:Cx)(f:Value->Value->Sem Value)(r:R2):Prop:=∀(pins:T5)(s:Shared)(σ:St)(H:Hp)(x y:V)(v u:Value)(Q:VK),Inv X pins σ H s->RelV x v->RelV y u->r x y H Q->wpAny (!3) X.A (f v u) (EP X pins σ Q) X.xe s
def  RF(X:Cx)(f:Value->Sem Value)(r:V->Hp->VK->Prop):Prop:=∀(pins:T5)(s:Shared)(σ:St)(H:Hp)(x:V)(v:Value)(Q:VK),Inv X pins σ H s->RelV x v->r x H Q->wpAny (!3) X.A (f v) (EP X pins σ Q) X.xe s
def  eJ(X:Cx)(f:Value)(r:List V->Hp->VK->Prop):Prop:=∀(pins:T5)(s:Shared)(σ:St)(H:Hp)(xs:List V)(us:T9)(Q:VK),Inv X pins σ H s->Vals xs us->r xs H Q->wpAny (!3) X.A (call f us) (EP X pins σ Q) X.xe s
def  Pd(X:Cx)(r:V->Hp->(Bool->Hp->Prop)->Prop):Prop:=∀(pins:T5)(s:Shared)(σ:St)(H:Hp)(x:V)(v:Value)(Q:Bool->Hp->Prop),Inv X pins σ H s->RelV x v->r x H Q->wpAny (!3) X.A (truthy v) (TP X pins σ Q) X.xe s
def  Lr(r:R2)(ta tb:TE):TE:=λσ H Q=>ta σ H λx H1=>tb σ H1 λy H2=>r x y H2 Q
def  SW(r:V->Hp->VK->Prop)(ta:TE):TE:=λσ H Q=>ta σ H λx H1=>r x H1 Q
def  rI(C:Int->Int->Prop)(g:Int->Int->V):R2:=λx y H Q=>∃i j,x=.int i/\y=.int j/\C i j/\Q (g i j) H
def  wL(g:Int->Int->V):R2:=λx y H Q=>∃i j,x=.int i/\y=.int j/\Q (g i j) H
def  rU(g:Int->V):V->Hp->VK->Prop:=λx H Q=>∃i,x=.int i/\Q (g i) H
section
variable{X:Cx}{a b c:Expr}{ta tb tc:TE}{pos:Pos}
def Ic(U:PE X a ta)(T:PE X b tb){σ:St}{R:V->V->Hp->Prop}(I:Inv X pins σ H s)(h:ta σ H λx H1=>tb σ H1 λy H2=>R x y H2){f:Value->Value->Sem Value}(J:∀v u l x y H2,Inv X pins σ H2 l->RelV x v->RelV y u->R x y H2->wpAny (!3) X.A (f v u) Q X.xe l):wpAny (!3) X.A (eval a X.env) (λv j=>wpAny (!3) X.A (eval b X.env) (λu g=>wpAny (!3) X.A (f v u) Q X.xe g) X.xe j) X.xe s:=by exact bG (U pins s σ H _ I h) λv o#[x,H1,I1,r,C]=>bG (T pins o σ H1 _ I1 C) λu l#[y,H2,I2,p,t]=>J v u l x y H2 I2 r p t
def zY(l:OpR X (binaryOp op) r)(p:PE X a ta)(o:PE X b tb):PE X (.BinOp a op b pos) (Lr r ta tb):=by intro pins s σ H Q I h;exact wpAny_BinOp (Ic p o I h λv u g x y H2 t rx j q=>l pins g σ H2 x y v u Q t rx j q)
def Ls(o:RF X (unaryOp op) r)(p:PE X a ta):PE X (.UnaryOp op a pos) (SW r ta):=by intro pins s σ H Q I h;exact UnaryOp_ (bG (p pins s σ H _ I h) λv g#[x,H1,t,j,l]=>o pins g σ H1 x v Q t j l)
def Lu{g:Int->Int->Int}(rule:∀(i j:Int)(t u:Tok)(s:Shared)(Q:T8)(E:T8),C i j->Q (.int (g i j) s.toks) {s with toks:=s.toks+1}->wpAny (!3) X.A (f (.int i t) (.int j u)) Q E s):OpR X f (rI C λi j=>.int (g i j)):=by
 intro pins s σ H x y v u Q I rx ry h;let[i,j,rfl,rfl,hc,q]:=h;let[t,rfl]:=rx;let[t',rfl]:=ry;exact rule i j t t' s _ _ hc #[.int (g i j),H,I.tok _,#[_,rfl],q]
def Lv{g:Int->Int->Int}(rule:∀(i j:Int)(t u:Tok)(s:Shared)(Q:T8)(E:T8),Q (.int (g i j) s.toks) {s with toks:=s.toks+1}->wpAny (!3) X.A (f (.int i t) (.int j u)) Q E s):OpR X f (wL λi j=>.int (g i j)):=by
 intro pins s σ H x y v u Q I rx ry h;let[i,j,rfl,rfl,q]:=h;let[t,rfl]:=rx;let[t',rfl]:=ry;exact rule i j t t' s _ _ #[.int (g i j),H,I.tok _,#[_,rfl],q]
def D6{g:Int->Int->Bool}(rule:∀(i j:Int)(t u:Tok)(s:Shared)(Q:T8)(E:T8),Q (.bool (g i j)) s->wpAny (!3) X.A (f (.int i t) (.int j u)) Q E s):OpR X f (wL λi j=>.bl (g i j)):=by
 intro pins s σ H x y v u Q I rx o h;let[i,j,rfl,rfl,q]:=h;let[t,rfl]:=rx;let[l,rfl]:=o;exact rule i j t l s _ _ #[.bl (g i j),H,I,rfl,q]
def  qH(i j:Int):Prop:=0<=j/\j<=1000000/\i.natAbs<2^64
def  CMul(i j:Int):Prop:=-2^64<i/\i<2^64\/-2^64<j/\j<2^64
def CMul.ok(h:CMul i j):IntMulOk i j:=by
 rcases h with⟨h1,h2⟩|⟨h1,h2⟩;.exact .of_left (intBits_le_64 h1 h2)
 .exact .of_right (intBits_le_64 h1 h2)
def Ie:OpR X (binaryOp .Sub) (wL λi j=>.int (i-j)):=Lv λ_ _ _ _ _ _ _ q=>sub_int q
def Ig:OpR X (binaryOp .Mult) (rI CMul λi j=>.int (i*j)):=Lu λ_ _ _ _ _ _ _ g q=>mul_int q g.ok
def Ih:OpR X (binaryOp .Mod) (rI (λ_ j=>0<j) λi j=>.int (i%j)):=Lu λi j _ _ _ _ _ g q=>by exact mod_int' (by lia) (by rw[Int.fmod_eq_emod_of_nonneg i (by lia)];exact q)
def Ii:OpR X (binaryOp .Pow) (rI qH λi j=>.int (i^j.toNat)):=Lu λ_ _ _ _ _ _ _ g q=>pow_int_small g.1 g.2.1 g.2.2 q
def Ij:OpR X (binaryOp .LShift) (rI qH λi j=>.int (i*2^j.toNat)):=Lu λ_ _ _ _ _ _ _ g q=>lshift_int_small g.1 g.2.1 g.2.2 q
def SX{g:Int->Int}(rule:∀(i:Int)(t:Tok)(s:Shared)(Q:T8)(E:T8),Q (.int (g i) s.toks) {s with toks:=s.toks+1}->wpAny (!3) X.A (f (.int i t)) Q E s):RF X f (rU λi=>.int (g i)):=by
 intro pins s σ H x v Q I rx h;let[i,rfl,q]:=h;let[t,rfl]:=rx;exact rule i t s _ _ #[.int (g i),H,I.tok _,#[_,rfl],q]
end
noncomputable def  zZ:V->V->Bool
|.non,.non=>true|.non,.int _=>true|.int _,.non=>true|.non,.bl _=>true|.bl _,.non=>true|.non,.str _=>true|.str _,.non=>true|.int _,.int _=>true|.bl _,.bl _=>true|.str _,.str _=>true|.byt _,.byt _=>true|.int _,.str _=>true|.str _,.int _=>true|.bl _,.str _=>true|.str _,.bl _=>true|_,_=>false
def  SY:R2:=λx y H Q=>zZ x y=true/\Q (.bl (decide (x=y))) H
def  SZ:R2:=λx y H Q=>zZ x y=true/\Q (.bl (not (decide (x=y)))) H
def wM:decide (V.int i=V.int j)=(i==j):=by rw[Bool.eq_iff_iff];simp
def dec_bl:decide (V.bl i=V.bl j)=(i==j):=by rw[Bool.eq_iff_iff];simp
def wN:decide (V.str i=V.str j)=(i==j):=by rw[Bool.eq_iff_iff];simp
def wO:decide (V.byt i=V.byt j)=(i.toList==j.toList):=by rw[Bool.eq_iff_iff];cases i;cases j;simp
section
variable{X:Cx}{a b c:Expr}{ta tb tc:TE}{pos:Pos}
def fin_bl{σ:St}(I:Inv X pins σ H s)(q:Q (.bl k) H)(e:k=g):EP X pins σ Q (.bool g) s:=by subst e;exact#[.bl k,H,I,rfl,q]
def Lw:OpR X (compareOp .Eq) SY:=by intro pins s σ H x y v u Q I rx g h;let[o,q]:=h;cases x with
|non=>cases rx;cases y with
  |non=>cases g;exact PySem.EqNone.eq_none_none !10|bl j=>cases g;exact PySem.EqNone.eq_none_bool !10|int j=>let[l,rfl]:=g;exact PySem.EqNone.eq_none_int !10|str j=>let[l,rfl]:=g;exact PySem.EqNone.eq_none_str !10|_=>exact absurd o Ur
|bl i=>cases rx;cases y with
  |non=>cases g;exact PySem.EqNone.eq_bool_none !10|bl j=>cases g;exact eq_bool (fin_bl I q dec_bl)|str j=>let[l,rfl]:=g;exact PySem.EqMixed.eq_bool_str !10|_=>exact absurd o Ur
|int i=>let[t,rfl]:=rx;cases y with
  |non=>cases g;exact PySem.EqNone.eq_int_none !10|int j=>let[l,rfl]:=g;exact eq_int (fin_bl I q wM)|str j=>let[l,rfl]:=g;exact PySem.EqMixed.eq_int_str !10|_=>exact absurd o Ur
|str i=>let[t,rfl]:=rx;cases y with
  |non=>cases g;exact PySem.EqNone.eq_str_none !10|bl j=>cases g;exact PySem.EqMixed.eq_str_bool !10|int j=>let[l,rfl]:=g;exact PySem.EqMixed.eq_str_int !10|str j=>let[l,rfl]:=g;exact eq_str (fin_bl I q wN)|_=>exact absurd o Ur
|byt i=>let[t,rfl]:=rx;cases y with
  |byt j=>let[l,rfl]:=g;exact PySem.W.eq_bytes (fin_bl I q wO)|_=>exact absurd o Ur
|_=>cases y<;>exact absurd (show false=true from o) Ur
def Lx:OpR X (compareOp .NotEq) SZ:=by intro pins s σ H x y v u Q I rx g h;let[o,q]:=h;cases x with
|non=>cases rx;cases y with
  |non=>cases g;exact PySem.EqNone.ne_none_none !10|bl j=>cases g;exact PySem.EqNone.ne_none_bool !10|int j=>let[l,rfl]:=g;exact PySem.EqNone.ne_none_int !10|str j=>let[l,rfl]:=g;exact PySem.EqNone.ne_none_str !10|_=>exact absurd o Ur
|bl i=>cases rx;cases y with
  |non=>cases g;exact PySem.EqNone.ne_bool_none !10|bl j=>cases g;exact ne_bool (fin_bl I q (congrArg not dec_bl))|str j=>let[l,rfl]:=g;exact PySem.EqMixed.ne_bool_str !10|_=>exact absurd o Ur
|int i=>let[t,rfl]:=rx;cases y with
  |non=>cases g;exact PySem.EqNone.ne_int_none !10|int j=>let[l,rfl]:=g;exact ne_int (fin_bl I q (congrArg not wM))|str j=>let[l,rfl]:=g;exact PySem.EqMixed.ne_int_str !10|_=>exact absurd o Ur
|str i=>let[t,rfl]:=rx;cases y with
  |non=>cases g;exact PySem.EqNone.ne_str_none !10|bl j=>cases g;exact PySem.EqMixed.ne_str_bool !10|int j=>let[l,rfl]:=g;exact PySem.EqMixed.ne_str_int !10|str j=>let[l,rfl]:=g;exact ne_str (fin_bl I q (congrArg not wN))|_=>exact absurd o Ur
|byt i=>let[t,rfl]:=rx;cases y with
  |byt j=>let[l,rfl]:=g;exact PySem.W.ne_bytes (fin_bl I q (congrArg not wO))|_=>exact absurd o Ur
|_=>cases y<;>exact absurd (show false=true from o) Ur
def op_lt:OpR X (compareOp .Lt) (wL λi j=>.bl (decide (i<j))):=D6 λ_ _ _ _ _ _ _ q=>lt_int q
def pK:OpR X (compareOp .LtE) (wL λi j=>.bl (decide (i<=j))):=D6 λ_ _ _ _ _ _ _ q=>le_int q
def op_gt:OpR X (compareOp .Gt) (wL λi j=>.bl (decide (j<i))):=D6 λ_ _ _ _ _ _ _ q=>gt_int q
def GP:OpR X (compareOp .GtE) (wL λi j=>.bl (decide (j<=i))):=D6 λ_ _ _ _ _ _ _ q=>ge_int q
def op_isN:OpR X (compareOp .Is) λx y H Q=>y=.non/\Q (.bl (decide (x=.non))) H:=by intro pins s σ H x y v u Q I rx g h;let[rfl,q]:=h;cases g;refine is_none_gen (fin_bl I q ?_);cases x<;>first
|(cases rx;rfl)|(let[t,rfl]:=rx;rfl)
def op_notN:OpR X (compareOp .IsNot) λx y H Q=>y=.non/\Q (.bl (not (decide (x=.non)))) H:=by intro pins s σ H x y v u Q I rx g h;let[rfl,q]:=h;cases g;refine isnot_none_gen (fin_bl I q ?_);cases x<;>first
|(cases rx;rfl)|(let[t,rfl]:=rx;rfl)
def OpR.or(h:OpR X f r)(h':OpR X f j):OpR X f λx y H Q=>r x y H Q\/j x y H Q:=by
 intro pins s σ H x y v u Q I rx g q;rcases q with q|q;.exact h pins s σ H x y v u Q I rx g q
 .exact h' pins s σ H x y v u Q I rx g q
def dW(b:Expr)(h:op≠.In:=by decide)(h2:op≠.NotIn:=by decide):behindInMarks op b=false:=by
 have g:(op==CmpOp.In)=false:=by cases op<;>first|rfl|exact absurd rfl h
 have j:(op==CmpOp.NotIn)=false:=by cases op<;>first|rfl|exact absurd rfl h2
 cases b<;>simp[behindInMarks,g,j]
def D7(l:OpR X (compareOp op) r)(t:PE X a ta)(p:PE X b tb)(o:behindInMarks op b=false):PE X (.Compare a [op] [b] pos) (Lr r ta tb):=by intro pins s σ H Q I h;exact wpAny_Compare1 (Ic t p I h λv u g x y H2 C rx j q=>l pins g σ H2 x y v u Q C rx j q) o
def  GQ(t:TE):TT:=λσ H Q=>t σ H λx H'=>∃k,x=.bl k/\Q k H'
def D8(T:OpR X (compareOp op) r)(ha:PE X a ta)(hb:PE X b tb)(U:behindInMarks op b=false):PT X (.Compare a [op] [b] pos) (GQ (Lr r ta tb)):=by
 intro pins s σ H Q I h;refine wpAny_isTrue_Compare1 (bG (ha pins s σ H _ I h) λv j#[x,H1,I1,p,J]=>bG (hb pins j σ H1 _ I1 J) λu g#[y,H2,I2,o,C]=>bG (T pins g σ H2 x y v u _ I2 p o C) λc s3#[z,H3,I3,l,k,e,t]=>?_) U;subst e;cases l;exact wpAny_truthy_bool #[H3,I3,t]
def  uZ(r r':R2)(ta tb tc:TE):TE:=λσ H Q=>ta σ H λx H1=>tb σ H1 λy H2=>r x y H2 λz H3=>∃k,z=.bl k/\if k=true then tc σ H3 λw' H4=>r' y w' H4 Q else Q (.bl false) H3
def z7(ho:OpR X (compareOp op) r)(ho':OpR X (compareOp op') r')(ha:PE X a ta)(hb:PE X b tb)(hc:PE X c tc)(hm:lastMarks [op,op'] [b,c]=false:=by with_unfolding_all rfl):PE X (.Compare a [op,op'] [b,c] pos) (uZ r r' ta tb tc):=by
 intro pins s σ H Q I h;refine Compare_chain (bG (ha pins s σ H _ I h) λv s1#[x,H1,I1,r1,q1]=>chain_link (bG (hb pins s1 σ H1 _ I1 q1) λu s2#[y,H2,I2,r2,q2]=>bG (ho pins s2 σ H2 x y v u _ I2 r1 r2 q2) λd s3#[z,H3,I3,r3,k,e,q3]=>?_)) hm;subst e;cases r3;refine wpAny_truthy_bool ?_;cases k with
|false=>exact ite_ff #[.bl false,H3,I3,rfl,q3]|true=>exact ite_tt (chain_last (bG (hc pins s3 σ H3 _ I3 q3) λw' s4#[z',H4,I4,r4,q4]=>ho' pins s4 σ H4 y z' u w' Q I4 r2 r4 q4))
def z8(ho:OpR X (compareOp op) r)(ho':OpR X (compareOp op') r')(ha:PE X a ta)(hb:PE X b tb)(hc:PE X c tc)(hm:lastMarks [op,op'] [b,c]=false:=by with_unfolding_all rfl):PT X (.Compare a [op,op'] [b,c] pos) (GQ (uZ r r' ta tb tc)):=by
 intro pins s σ H Q I h;refine isTrue_chain (bG (ha pins s σ H _ I h) λv s1#[x,H1,I1,r1,q1]=>test_link (bG (hb pins s1 σ H1 _ I1 q1) λu s2#[y,H2,I2,r2,q2]=>bG (ho pins s2 σ H2 x y v u _ I2 r1 r2 q2) λd s3#[z,H3,I3,r3,k,e,q3]=>?_)) hm;subst e;cases r3;refine wpAny_truthy_bool ?_;cases k with
|false=>let[k',e',q']:=q3;cases e';exact ite_ff #[H3,I3,q']|true=>refine ite_tt (test_last (bG (hc pins s3 σ H3 _ I3 q3) λw' s4#[z',H4,I4,r4,q4]=>bG (ho' pins s4 σ H4 y z' u w' _ I4 r2 r4 q4) λd' s5#[z2,H5,I5,r5,k2,e2,q5]=>?_));subst e2;cases r5;exact wpAny_truthy_bool #[H5,I5,q5]
def  Ly(K:Frag)(x:V)(H:Hp)(k:Bool):Prop:=match x with
|.non=>k=false|.bl b=>k=b|.int i=>k=(i !=0)|.str y=>y.length<=sizeLine/\k=((y.length:Int)!=0)|.byt y=>y.size<=sizeLine/\k=((y.size:Int)!=0)|.ref p=>(∃xs,SqL K H p xs/\k=not xs.isEmpty)\/(∃xs,SqT K H p xs/\k=not xs.isEmpty)\/∃kvs,H p=!.dK kvs/\k=not kvs.isEmpty|_=>False
def u4{vs:List (κ×Value)}(r:KV kvs vs):not vs.isEmpty=not kvs.isEmpty:=by cases r<;>rfl
def ni(r:Vals xs its):not its.toArray.isEmpty=not xs.isEmpty:=by cases r<;>simp
def jY:(sizeLine:Nat)<2^63:=by rw[sizeLine_eq];decide
def Ik:Pd X λx H Q=>∃k,Ly X.K x H k/\Q k H:=by intro pins s σ H x v Q I rx h;let[k,e,q]:=h;have hs:=sizeLine_eq;cases x with
|non=>cases rx;have g:=e;subst g;exact truthy_none #[H,I,q]|bl b=>cases rx;have g:=e;subst g;exact wpAny_truthy_bool #[H,I,q]|int i=>let[t,rfl]:=rx;have g:=e;subst g;exact PySem.P.truthy_int #[H,I,q]|str y=>let[t,rfl]:=rx;obtain⟨T,g⟩:y.length<=sizeLine/\k=((y.length:Int)!=0):=e;subst g;exact PySem.P.truthy_str (by lia) #[H,I.tok _,q]|byt y=>let[t,rfl]:=rx;obtain⟨T,g⟩:y.size<=sizeLine/\k=((y.size:Int)!=0):=e;subst g;exact PySem.W.truthy_bytes (by lia) #[H,I.tok _,q]|ref p=>
  cases rx;have g:(∃xs,SqL X.K H p xs/\k=not xs.isEmpty)\/(∃xs,SqT X.K H p xs/\k=not xs.isEmpty)\/∃kvs,H p=!.dK kvs/\k=not kvs.isEmpty:=e;rcases g with⟨xs,l,g⟩|⟨xs,l,g⟩|⟨kvs,l,g⟩;.subst g;let[C,r,pl,J]:=I.list l;have j:=r.length;exact wpAny_truthy_list pl.isList (by simp only[size_toArray];lia) #[H,I.tok _,by rw[ni r];exact q]
  .subst g;let[C,r,pl,J]:=I.tuple l;have j:=r.length;exact truthy_tuple pl (by simp only[size_toArray];lia) #[H,I.tok _,by rw[ni r];exact q]
  .subst g;obtain⟨J,U,o,r,m⟩:kvs.length<=sizeLine/\(p==sysModules)=false/\∃o,KV kvs o/\s.heap.DictOf (ja X.prog X.w) p o:=I.hok p _ l;have j:=Paired.length r;exact wpAny_truthy_dict U m (by lia) #[H,I.tok _,by rw[u4 r];exact q]|_=>exact(e).elim
def z9(p:PE X a ta)(o:∀whole,isTrue a X.env whole=do let v<-whole;standAt a.pos;holding [v] (truthy v)):PT X a λσ H Q=>ta σ H λx H'=>∃k,Ly X.K x H' k/\Q k H':=by
 intro pins s σ H Q I h;exact isTrue_plain (bG (p pins s σ H _ I h) λv g#[x,H1,r,j,l]=>Ik pins g σ H1 x v Q r j l) (o _)
def fw(r:Vals [x] g):∃u,g=[u]/\RelV x u:=by cases r with|cons l j=>cases j;exact#[_,rfl,l]
def sM(r:Vals [x,y] j):∃u g,j=[u,g]/\RelV x u/\RelV y g:=by cases r with|cons t p=>cases p with|cons o l=>cases l;exact#[_,_,rfl,t,o]
def yz(l:X.calm=true):eJ X (.builtin "max") λxs H Q=>∃i j,xs=[.int i,.int j]/\Q (.int (if j>i then j else i)) H:=by
 intro pins s σ H xs p Q I r h;let[i,j,rfl,q]:=h;let[u,o,rfl,[t,rfl],[J,rfl]]:=sM r;refine max_two_ints (I.ok.hd l) λh' C k=>#[_,H,I.kept k,?_,q];by_cases g:j>i;.rw[if_pos g,if_pos g];exact#[_,rfl]
 .rw[if_neg g,if_neg g];exact#[_,rfl]
def call_min2(l:X.calm=true):eJ X (.builtin "min") λxs H Q=>∃i j,xs=[.int i,.int j]/\Q (.int (if j<i then j else i)) H:=by
 intro pins s σ H xs p Q I r h;let[i,j,rfl,q]:=h;let[u,o,rfl,[t,rfl],[C,rfl]]:=sM r;refine min_two_ints (I.ok.hd l) λh' J k=>#[_,H,I.kept k,?_,q];by_cases g:j<i;.rw[if_pos g,if_pos g];exact#[_,rfl]
 .rw[if_neg g,if_neg g];exact#[_,rfl]
end
structure ObjM(h:Heap)(x dx C:Addr)(mA:Str->Ua):Prop where
 obj:h.get? x=!PySem.W.instObj C dx 
 ns:h.Ns1 dx mA
 ne:dx≠x
def yA{h:Heap}(n:h.Ns1 dx mA):∃j,h.get? dx=!j/\∀name,PySem.W.lookIn name j=!mA name:=by
 let[o,es,J,p,hd,C,_,r]:=n;refine#[o,p,λname=>?_];have e:=r name;unfold nsFind findBy at e;rw[<-Array.find?_toList]at e;unfold PySem.W.lookIn;rw[hd];dsimp only;split;.rename_i y q;rw[q]at e;exact congrArg some e
 .rename_i q;rw[q]at e;have a:es.toList.any (·.refKey)=false:=by rw[List.any_eq_false];intro y l;let[z,t,g]:=C y (Array.mem_toList_iff.mp l);simp[DictEntry.refKey,g]
  rw[if_neg (by rw[a];exact Ur)];exact congrArg some e
def ObjM.look(I:ObjM h x dx C mA):∃g,PySem.W.InstAt h x (PySem.W.instObj C dx) C !g/\∀name,PySem.W.lookIn name g=!mA name:=let#[g,j,l]:=yA I.ns;#[g,#[I.obj,rfl,rfl,j],l]
section
variable{prog:Program}{w:World}{A:Around}{E:T8}{s:Shared}{K:Frag}{x dx C f:Addr}{mA:Str->Ua}{name:Str}{v:Value}
def D9(X:K.In s.heap)(I:ObjM s.heap x dx C mA)(hg:PySem.W.plainGet K C name=true)(hh:PySem.W.hasDictIn K C=true)(ha:findIn K (.ref C) name=!none)(hv:mA name=!v)(hv':PySem.W.handedIn v=true)(h:Q v {s with toks:=s.toks+1}):wpAny (!7) A (getAttr (.ref x) name expr) Q E s:=by
 let[od,J,hl]:=I.look;exact PySem.W.get_value X J (PySem.W.plainGet_of hg).1 (PySem.W.findObj_own hh ha rfl (by rw[hl,hv])) hv' h
def Aa(X:K.In s.heap)(I:ObjM s.heap x dx C mA)(g:PySem.W.plainGet K C name=true)(r:findIn K (.ref C) name=!!.ref f)(o:PySem.W.isFn K (.ref f)=true)(l:mA name=none)(h:Q (.ref f,[.ref x]) s):wpAny (!7) A (getMethod (.ref x) name pl) Q E s:=by
 let[j,J,p]:=I.look;exact PySem.W.method_fn X J (PySem.W.plainGet_of g).1 (PySem.W.plainGet_of g).2 r (beq_iff_eq.mp o) (by show(PySem.W.lookIn name j).map (·.isSome)=!false;rw[p,l];rfl) h
def Ea(X:K.In s.heap)(I:ObjM s.heap x dx C mA)(hs:findIn K (.ref C) "__setattr__"=!!.builtin "object.__setattr__")(hp:PySem.W.plainOver K C=true)(ht:PySem.W.takerIn K C name=!none)(hh:PySem.W.hasDictIn K C=true)(hw:PySem.Within mA ns)(hsz:ns.length<=sizeLine)(h:∀h',ObjM h' x dx C (λy=>if y=name then !v else mA y)->Heap.SameBut dx s.heap h'->Q () {s with heap:=h',toks:=s.toks+2}):wpAny (!7) A (setAttr (.ref x) name v) Q E s:=by
 let[od,J,hl]:=I.look;refine PySem.W.set_plain X J hs (PySem.W.osa_open X J hp ht λb=>?_);let[cd,hc,hd']:=PySem.W.any_some hh;refine Ul (Uo (Ul (Ul (wpAny_loadPart I.obj (Ul (PySem.W.Looks.here (PySem.W.looks_clsIn X hc) ?_))))));rw[hd'];refine Uo (Ul (Uo (Ul (wpAny_nsSet1 I.ns λh' hn2 hs2=>?_))));let[oD,esD,epD,hoD,hdD,hcD]:=hn2.count (PySem.Within.cons name v hw);exact Ul (wpAny_lookBehind hoD (by rw[hdD];exact pastItsLine_dict (Uy hcD (by rw[length_cons];lia))) (Uo (h _ #[(hs2.2 _ (Ne.symm I.ne)).trans I.obj,hn2,I.ne] hs2)))
def Ab(X:K.In s.heap)(hm:PySem.W.makesIn K C=true)(hi:findIn K (.ref C) "__init__"=!!.ref f)(hf:PySem.W.typeIn K (.ref f)=!.type "function")(h:codeAny (!7) (A.under (.builtin "type.__call__" #[.ref C::vs,kw])) (.call (.ref f) #[.ref (!21)::vs,kw]) (PySem.W.InitBack (!21) R) {s with heap:=(s.heap.push PySem.W.emptyDict).push (PySem.W.instObj C s.heap.objs.size)}):codeAny (!7) A (.call (.ref C) #[vs,kw]) R s:=by exact PySem.W.make_core (PySem.W.makes_of X hm) (PySem.W.looks_findIn X hi) (λself=>PySem.W.bind_fn X self hf) (.inl rfl) h
end
noncomputable def  gu(f:Str)(v:V):List (Str×V)->List (Str×V)
|[]=>[(f,v)]|(g,x)::r=>if g=f then(g,v)::r else(g,x)::gu f v r
def ma(f g:Str)(v:V):∀fs:List (Str×V),(gu f v fs).lookup g=if g=f then !v else fs.lookup g
|[]=>by
  show List.lookup g [(f,v)]=_;by_cases h:g=f;.have hb:(g==f)=true:=beq_iff_eq.mpr h;simp only[List.lookup,hb,if_pos h]
  .have hb:(g==f)=false:=beq_eq_false_iff_ne.mpr h;simp only[List.lookup,hb,if_neg h]|(k,x)::r=>by
  have ih:=ma f g v r;rw[show gu f v ((k,x)::r)=if k=f then(k,v)::r else(k,x)::gu f v r from rfl];by_cases hk:k=f
  .rw[if_pos hk];by_cases h:g=k;.have hb:(g==k)=true:=beq_iff_eq.mpr h;simp only[List.lookup,hb,if_pos (h.trans hk)]
   .have hb:(g==k)=false:=beq_eq_false_iff_ne.mpr h;simp only[List.lookup,hb,if_neg λe:g=f=>h (e.trans hk.symm)]
  .rw[if_neg hk];by_cases h:g=k;.have hb:(g==k)=true:=beq_iff_eq.mpr h;simp only[List.lookup,hb,if_neg λe:g=f=>hk (h.symm.trans e)]
   .have hb:(g==k)=false:=beq_eq_false_iff_ne.mpr h;simp only[List.lookup,hb];exact ih
def lE(f:Str)(v:V):∀fs:List (Str×V),f∈(gu f v fs).map (·.1)/\∀g,g∈fs.map (·.1)->g∈(gu f v fs).map (·.1)
|[]=>#[by simp[gu],λg h=>by simp at h]|(k,x)::r=>by
  let[i1,i2]:=lE f v r;rw[show gu f v ((k,x)::r)=if k=f then(k,v)::r else(k,x)::gu f v r from rfl];by_cases hk:k=f;.rw[if_pos hk];subst hk;exact#[by simp,λg h=>by simpa using h]
  .rw[if_neg hk];refine#[?_,λg h=>?_];.rw[List.map_cons];exact Uu _ i1
   .rw[List.map_cons]at h⊢;rcases mem_cons.mp h with e|e;.exact mem_cons.mpr (.inl e)
    .exact Uu _ (i2 g e)
def mf(f:Str)(v:V):∀fs:List (Str×V),(gu f v fs).length<=fs.length+1
|[]=>by simp[gu]|(k,x)::r=>by
  have ih:=mf f v r;rw[show gu f v ((k,x)::r)=if k=f then(k,v)::r else(k,x)::gu f v r from rfl];by_cases hk:k=f;.rw[if_pos hk,length_cons,length_cons];omega
  .rw[if_neg hk,length_cons,length_cons];omega
def RelO.some_of(r:RelO (!v) o):∃u,o=!u/\RelV v u:=by cases o with
|none=>exact(r).elim|some u=>exact#[u,rfl,r]
def RelO.none_of(r:RelO none o):o=none:=by cases o with
|none=>rfl|some u=>exact(r).elim
def yB(r:RelV v u):PySem.W.handedIn u=true:=by cases v with
|non=>cases r;rfl|bl b=>cases r;rfl|int i=>let[t,e]:=r;cases e;rfl|str x=>let[t,e]:=r;cases e;rfl|byt b=>let[t,e]:=r;cases e;rfl|flt b=>let[t,e]:=r;cases e;rfl|ref a=>cases r;rfl|ty n=>cases r;rfl
section
variable{P:Program}{w:World}{H H':Hp}{h h':Heap}{a C dx:Addr}{fs fs':List (Str×V)}
def qI(g:HOk P w H h)(e:H a=!.ins C dx fs):∃mA,ObjM h a dx C mA/\(∀f,RelO (fs.lookup f) (mA f))/\PySem.Within mA (fs.map (·.1))/\fs.length<=1000/\H dx=!.own a:=by let[d,z,ne,j,mA,n,r,q]:=g a _ e;exact#[mA,#[j,n,ne],r,q,z,d]
end
structure Cls(K:Frag)(C:Addr):Prop where
 pg:PySem.W.plainGet K C Str.empty=true
 hd:PySem.W.hasDictIn K C=true
 po:PySem.W.plainOver K C=true
 sa:findIn K (.ref C) "__setattr__"=!!.builtin "object.__setattr__"
def Cls.get{K}(c:Cls K C)(f:Str):PySem.W.plainGet K C f=true:=c.pg
def  NoAttr(K:Frag)(C:Addr)(f:Str):Prop:=findIn K (.ref C) f=!none
def NoAttr.taker{K}(n:NoAttr K C f):PySem.W.takerIn K C f=!none:=by unfold PySem.W.takerIn;grind[NoAttr]
structure Meth(K:Frag)(C:Addr)(m:Str)(f:Addr):Prop where
 at_:findIn K (.ref C) m=!!.ref f  
 fn:PySem.W.isFn K (.ref f)=true
 kp:PySem.W.keepIn K (.ref f)=true
section
variable{X:Cx}{pins:T5}{σ:St}{H:Hp}{s:Shared}{a C dx:Addr}{fs:List (Str×V)}{f:Str}{v:V}{A:Around}{E:T8}
def u5(I:Inv X pins σ H s)(e:H a=!.ins C dx fs)(c:Cls X.K C)(n:NoAttr X.K C f)(l:fs.lookup f=!v)(h:∀u s',Inv X pins σ H s'->RelV v u->Q u s'):wpAny (!3) A (getAttr (.ref a) f b) Q E s:=by let[mA,O,r,_,_,_]:=qI I.hok e;let[u,j,g]:=RelO.some_of (by rw[<-l];exact r f);exact D9 I.kIn O (c.get f) c.hd n j (yB g) (h u _ (I.tok _) g)
def u6(I:Inv X pins σ H s)(e:H a=!.ins C dx fs)(c:Cls X.K C)(n:NoAttr X.K C f)(hl:fs.length<1000)(J:RelV y u)(h:∀s',Inv X pins σ (upd H a (.ins C dx (gu f y fs))) s'->Q () s'):wpAny (!3) A (setAttr (.ref a) f u) Q E s:=by
 let[mA,O,r,l,_,p]:=qI I.hok e;have T:(fs.map (·.1)).length<=sizeLine:=by rw[length_map,sizeLine_eq];lia
 refine Ea I.kIn O c.sa c.po n.taker c.hd l T λh' j t=>h _ ?_;refine I.write (by rw[e];exact True.intro) (.inr p) (λb q hb z=>(t.2 b hb).trans z) (let#[o,_,_,e',_]:=j.ns;#[o,e']) #[by rw[af O.ne];exact p,?_,O.ne,j.obj,_,j.ns,λg=>?_,λg U=>?_];.have:=mf f y fs;lia
 .show RelO ((gu f y fs).lookup g) (if g=f then !u else mA g);rw[ma];by_cases q:g=f;.rw[if_pos q,if_pos q];exact J
  .rw[if_neg q,if_neg q];exact r g
 .by_cases q:g=f;.rw[q];exact(lE f y fs).1
  .refine(lE f y fs).2 g (l g λz=>U ?_);show(if g=f then !u else mA g)=none;rw[if_neg q];exact z
def Inv.made(I:Inv X pins σ H s):Inv X pins σ (upd (upd H s.heap.objs.size (.own !21)) (!21) (.ins C s.heap.objs.size [])) {s with heap:=(s.heap.push PySem.W.emptyDict).push (PySem.W.instObj C s.heap.objs.size)}:=by
 have e1:(s.heap.push PySem.W.emptyDict).get? s.heap.objs.size=!PySem.W.emptyDict:=Uq s.heap rfl;have e2:((s.heap.push PySem.W.emptyDict).push (PySem.W.instObj C s.heap.objs.size)).get? (!21)=!PySem.W.instObj C s.heap.objs.size:=by have:=Uq (s.heap.push PySem.W.emptyDict) (o:=PySem.W.instObj C s.heap.objs.size) rfl;rwa[Heap.size_push]at this
 refine(I.laid (o:=.own !21) (t':=s.toks) (λb u q=>Um _ q) (UI _) #[_,e1]).laid (λb u q=>Um _ q) (Nat.le_of_eq (Heap.size_push _ _)) ?_;have ne:s.heap.objs.size≠s.heap.objs.size+1:=Uz (Nat.lt_succ_self _);refine#[by rw[af ne,ah],Nat.zero_le _,ne,e2,λ_=>none,(Heap.Ns1.of_empty #[PySem.W.emptyDict,#[ ],_,e1,rfl,λe he=>absurd he (by simp),λ_=>rfl]).at λo q=>Um _ q,λ_=>True.intro,λy hy=>absurd rfl hy]
end
def  Pe(K:Frag)(ta:TE)(f:Str):TE:=λσ H Q=>ta σ H λx H1=>∃a C dx fs v,x=.ref a/\H1 a=!.ins C dx fs/\Cls K C/\NoAttr K C f/\fs.lookup f=!v/\Q v H1
def  Pf(K:Frag)(ta tv:TE)(f:Str):TS:=λD σ H=>tv σ H λy H1=>ta σ H1 λx H2=>∃a C dx fs,x=.ref a/\H2 a=!.ins C dx fs/\Cls K C/\NoAttr K C f/\fs.length<1000/\D.nx σ (upd H2 a (.ins C dx (gu f y fs)))
section
variable{X:Cx}{o e value:Expr}{f:Str}{pos pos' tpos:Pos}{ta tv:TE}
def Ac(j:PE X e ta)(o:attributeBase e f X.env (eval e X.env)=eval e X.env):PE X (.Attribute e f pos) (Pe X.K ta f):=by intro pins s σ H Q I h;refine(λj h=>Attribute_any_ h (by rw[arm_eval_Attribute,j])) o (bG (j pins s σ H _ I h) λu U#[x,H1,t,rx,a,C,dx,fs,v,ex,p,c,n,l,q]=>?_);subst ex;obtain rfl:u=Value.ref a:=rx;exact u5 t p c n l λJ T r g=>#[v,H1,r,g,q]
def Ad(T:PE X o ta)(t:PE X value tv)(J:swapsWith value (!.Attribute o f pos') pos.line X.env=pure false):PS X (.Assign [.Attribute o f pos'] value pos) (Pf X.K ta tv f):=by intro pins s σ H D I h;refine plainObj_wpAny_Assign_Attribute (bG (t pins s σ H _ I h) λu g#[y,H1,I1,j,q]=>bG (T pins g σ H1 _ I1 q) λr s2#[x,H2,I2,rx,a,C,dx,fs,ex,U,c,n,l,p]=>?_) J;subst ex;obtain rfl:r=Value.ref a:=rx;exact u6 I2 U c n l j λs3 I3=>#[σ,_,I3,p]
end
structure Room(k:Nat)(A:Around):Prop where
 hd:A.handled=none
 dp:A.depth+3*k+5<recursionLimit
 un:A.units+16*k+200<cLine
def Room.mono(r:Room k A)(h:j<=k):Room j A:=#[r.hd,by have:=r.dp;lia,by have:=r.un;lia]
def Room.deeper(r:Room (k+1) A)(env:Env):Room k (A.deeper env):=#[r.hd,by have:=r.dp;show A.depth+1+3*k+5<_;lia,by have:=r.un;show A.units+3+16*k+200<_;lia]
def u7{A:Around}:(A.under (.builtin "type.__call__" #[.ref C::g,j])).depth=A.depth+1:=by constructor<;>grind
def u8{A:Around}:(A.under (.builtin "type.__call__" #[.ref C::g,j])).units=A.units+1:=by constructor<;>grind
def Room.make(r:Room (k+1) A)(C:Addr)(g:T9)(j:List (Str×Value)):Room k (A.under (.builtin "type.__call__" #[.ref C::g,j])):=#[r.hd,by have:=r.dp;rw[u7];lia,by have:=r.un;rw[u8];lia]
def Room.depth(r:Room k A):A.depth<recursionLimit:=by have:=r.dp;lia
def  LA:TA:=λ_ H Q=>Q [] H
def  LB(ta:TE)(tr:TA):TA:=λσ H Q=>ta σ H λx H1=>tr σ H1 λxs H2=>Q (x::xs) H2
section
variable{X:Cx}{e:Expr}{es:Ui}{te:TE}{t:TA}{pos:Pos}
def pa_nil:PA X [] LA:=λ_ _ _ _ H Q I h=>Calls.spliced_nil #[[],H,I,.nil,h]
def bi(J:PE X e te)(C:PA X es t)(r:starEach (e::es) X.env=(false,eval e X.env)::starEach es X.env:=by rfl):PA X (e::es) (LB te t):=by intro pos pins s σ H Q I h;rw[r];show wpAny _ _ (spliced ((false,eval e X.env)::backTo pos (starEach es X.env))) _ _ s;exact Calls.spliced_cons (bG (J pins s σ H _ I h) λu g#[x,H1,U,l,p]=>bG (C pos pins g σ H1 _ U p) λus s2#[xs,H2,T,j,o]=>#[x::xs,H2,T,.cons l j,o])
def  Pg(t:TA):TE:=λσ H Q=>t σ H λxs H1=>xs.length<=sizeLine/\∀p,H1 p=none->Q (.ref p) (upd H1 p (.tup xs))
def  Ph(t:TA):TE:=λσ H Q=>t σ H λxs H1=>xs.length<=sizeLine/\∀p,H1 p=none->Q (.ref p) (upd H1 p (.lst xs))
def qJ{x1}(h:PA X es t):PE X (.Tuple es x1 pos) (Pg t):=by intro pins s σ H Q I o;refine wpAny_Tuple_spliced (bG (h pos pins s σ H _ I o) λl g#[xs,H1,j,r,z,q]=>#[by rw[<-r.length];exact z,#[.ref g.heap.objs.size,upd H1 g.heap.objs.size _,j.laid (λb u e=>Um _ e) (UI _) ?_,rfl,q _ (j.hok.fresh (UI _))]]);exact#[z,l,r,#[_,Uq _ rfl,rfl,_,rfl]]
def Ae(h:PA X es t):PE X (.List es pos) (Ph t):=by intro pins s σ H Q I o;refine wpAny_List_spliced (bG (h pos pins s σ H _ I o) λl g#[xs,H1,j,r,z,q]=>#[by rw[<-r.length];exact z,#[.ref g.heap.objs.size,upd H1 g.heap.objs.size _,j.laid (λb u e=>Um _ e) (UI _) ?_,rfl,q _ (j.hok.fresh (UI _))]]);exact#[z,l,0,r,Uq _ rfl]
end
abbrev Sp:=List V->Hp->VK->XK->Prop
abbrev Il:=List Env->Hp->Shared->XK->T8
structure Env0(P:Program)(w:World)(K:Frag)(mg:Str->Ua)(base:Heap)(A:Around)(outer:List Env)(s:Shared)(H:Hp):Prop where
 frames:A.frames=!outer
 mod:Mod K mg base
 bs:∀b o,base.get? b=!o->s.heap.get? b=!o/\H b=none
 bsz:base.objs.size<=s.heap.objs.size
 funs:s.heap.FunFrames base outer
 frf:(∀b∈frs outer,H b=none)/\GT H
 hok:HOk P w H s.heap
 bare:AllBare s.gens
def  CE(outer:List Env)(P:Program)(w:World)(H:Hp)(s:Shared)(Q:VK)(u:Value)(s':Shared):Prop:=∃v H',s'.os=s.os/\AllBare s'.gens/\Un (frs outer) [] H H' s.heap s'.heap/\HOk P w H' s'.heap/\RelV v u/\Q v H'
def  CR(CX:Il)(outer:List Env)(P:Program)(w:World)(H:Hp)(s:Shared)(Q:VK)(E:XK)(r:Result)(s':Shared):Prop:=match r with
|.ok (.ret u)=>CE outer P w H s Q u s'|.ok _=>False|.error e=>CX outer H s E e s'
structure FnOk(P:Program)(w:World)(K:Frag)(mg:Str->Ua)(base:Heap)(CX:Il)(k:Nat)(f:Addr)(fd:FuncData)(ps:Uc)(sp:Sp):Prop where
 len:∀vs H Q E,sp vs H Q E->vs.length=ps.length
 run:∀(A:Around)(outer:List Env)(s:Shared)(H:Hp)(args:Args)(us:T9)(vs:List V)(Q:VK)(E:XK),Room k A->Env0 P w K mg base A outer s H->BindsTo s fd args (ps.zip us)->Vals vs us->sp vs H Q E->codeAny (model P w) A (.call (.ref f) args) (CR CX outer P w H s Q E) s
def FnOk.imp{K}(F:FnOk P w K mg base CX k f fd ps sp)(h:∀j H Q E,l j H Q E->sp j H Q E):FnOk P w K mg base CX k f fd ps l:=#[λj H Q E q=>F.len j H Q E (h _ _ _ _ q),λA g s H args o j Q E t C I p r=>F.run A g s H args o j Q E t C I p (h _ _ _ _ r)]
def Env0.make{K}(e:Env0 P w K mg base A g s H)(C:Addr)(j:T9)(l:List (Str×Value)):Env0 P w K mg base (A.under (.builtin "type.__call__" #[.ref C::j,l])) g s H:=#[by first|exact e.frames|(simpa[Around.under,Code.envs,Code.isFrame,pushEnvs]using e.frames),e.mod,e.bs,e.bsz,e.funs,e.frf,e.hok,e.bare]
section
variable{X:Cx}{pins:T5}{σ:St}{H:Hp}{s s':Shared}
def Inv.env0(I:Inv X pins σ H s):Env0 X.prog X.w X.K X.mg X.base X.A X.stack s H:=#[I.ok.frames,I.ok.mod,I.bs,Uy I.ok.bsz I.sz,I.stack,#[I.stkFree,I.tab],I.hok,I.bare]
def Inv.after(I:Inv X pins σ H s)(h:CE X.stack X.prog X.w H s Q u s'):EP X pins σ Q u s':=by let[v,H',os,bare,un,l,r,q]:=h;let[o,g,d,t,j]:=s';obtain rfl:j=s.os:=os;exact#[v,H',I.call un l bare λb z=>absurd z (by simp),r,q]
end
def  LC(sp:Sp)(dvs:List V)(E:XK)(t:TA):TE:=λσ H Q=>t σ H λvs H1=>sp (vs++dvs) H1 Q E
def  LD(C:Addr)(m:Str)(sp:Sp)(dvs:List V)(E:XK)(ta:TE)(t:TA):TE:=λσ H Q=>ta σ H λx H1=>∃a dx fs,x=.ref a/\H1 a=!.ins C dx fs/\fs.lookup m=none/\t σ H1 λvs H2=>sp (x::(vs++dvs)) H2 Q E
def  LF(C:Addr)(sp:Sp)(dvs:List V)(E:XK)(t:TA):TE:=λσ H Q=>t σ H λvs H1=>∀x dx,H1 x=none->H1 dx=none->dx≠x->sp (.ref x::(vs++dvs)) (upd (upd H1 dx (.own x)) x (.ins C dx [])) (λv H2=>v=.non/\Q (.ref x) H2) E
def  Binds(K:Frag)(fd:FuncData)(ps:Uc)(ds:T9):Prop:=∀(s:Shared)(us:T9),K.In s.heap->(us++ds).length=ps.length->BindsTo s fd #[us,[]] (ps.zip (us++ds))
def Binds.all{K}(h:∀g:T9,g.length=ps.length->bindArgs fd #[g,[]]=pure (ps.zip g)):Binds K fd ps []:=λs g _ j=>by rw[List.append_nil]at j⊢;exact .of_eq (h g j)
def  lF(CX:Il)(X:Cx)(E:XK):Prop:=∀(pins:T5)(σ:St)(H:Hp)(s:Shared)(e:Value)(s':Shared),Inv X pins σ H s->CX X.stack H s E e s'->X.xe e s'
section
variable{X:Cx}{CX:Il}{k:Nat}{f C:Addr}{fd:FuncData}{ps:Uc}{sp:Sp}{dvs:List V}{ds:T9}{E:XK}{x m:Str}{p pos apos:Pos}{e o:Expr}{es:Ui}{ta:TE}{t:TA}
def Af{σ:St}(F:FnOk X.prog X.w X.K X.mg X.base CX k f fd ps sp)(p:Room k X.A)(C:Binds X.K fd ps ds)(hd:Vals dvs ds)(o:lF CX X E)(I:Inv X pins σ H s)(r:Vals vs j)(h:sp (vs++dvs) H Q E):wpAny (!3) X.A (call (.ref f) j) (EP X pins σ Q) X.xe s:=by have l:=r.append hd;refine wpAny_call (codeAny_mono (F.run X.A X.stack s H #[j,[]] _ _ Q E p I.env0 (C s j I.kIn (by rw[<-l.length];exact F.len _ _ _ _ h)) l h) λr s' g=>?_);cases r with
|error e=>exact o pins σ H s e s' I g|ok J=>cases J with
|ret u=>exact I.after g|next=>exact False.elim g|brk=>exact False.elim g|cont=>exact False.elim g
def qK(F:FnOk X.prog X.w X.K X.mg X.base CX k f fd ps sp)(C:Room k X.A)(U:Gl X x)(J:X.mg x=!.ref f)(T:PySem.W.keepIn X.K (.ref f)=true)(hb:Binds X.K fd ps ds)(hd:Vals dvs ds)(o:lF CX X E)(ha:PA X (e::es) t)(j:(!5)=false:=by decide)(he:starEach (e::es) X.env=(false,eval e X.env)::starEach es X.env:=by rfl)(g:(!19).any (·.1)=false:=by rfl):PE X (!17) (LC sp dvs E t):=by
 intro pins s σ H Q I h;exact wpAny_Call_Name_kw (qE I U J (PySem.W.callWith_K I.ok.mod.kin T (bG (ha pos pins s σ H _ I h) λus s1#[vs,H1,l,r,q]=>#[l.kIn,Af F C hb hd o l r q]) he g) j)
def Ag(T:PE X o ta)(c:Cls X.K C)(p:Meth X.K C m f)(F:FnOk X.prog X.w X.K X.mg X.base CX k f fd ps sp)(J:Room k X.A)(U:Binds X.K fd ps ds)(hd:Vals dvs ds)(r:lF CX X E)(t:eval (.Call (.Attribute o m apos) [] [] pos) X.env=(do
   let j<-eval o X.env
   standAt apos.atName let(f,first)<-holding [j] (getMethod j m pl)callWith pos f first (backTo pos (starEach [] X.env)) (backToKw pos (keywordEach [] X.env))):=by rfl):PE X (.Call (.Attribute o m apos) [] [] pos) (LD C m sp dvs E ta LA):=by
 intro pins s σ H Q I h;refine PySem.W.methodCall_KW (bG (T pins s σ H _ I h) fun u s1#[x,H1,g,rx,a,dx,fs,ex,ea,l,q]=>?_) t;subst ex;obtain rfl:u=Value.ref a:=rx;refine(fun I e c k l h=>by
    let[mA,O,r,_,_,_]:=qI I.hok e;exact Aa I.kIn O (c.get m) k.at_ k.fn (RelO.none_of (by rw[<-l];exact r m)) h) g ea c p l ?_;exact PySem.W.callWith_K0 g.kIn p.kp (Af (vs:=[.ref a]) F J U hd r g (.cons rfl .nil) q)
structure Mk(K:Frag)(C f:Addr):Prop where
 makes:PySem.W.makesIn K C=true
 init:findIn K (.ref C) "__init__"=!!.ref f  
 fn:PySem.W.isFn K (.ref f)=true
 kp:PySem.W.keepIn K (.ref C)=true
def Ah{σ:St}(M:Mk X.K C f)(F:FnOk X.prog X.w X.K X.mg X.base CX k f fd ps sp)(hr:Room (k+1) X.A)(hb:Binds X.K fd ps ds)(hd:Vals dvs ds)(hx:lF CX X E)(I:Inv X pins σ H s)(r:Vals vs us)(h:∀x dx,H x=none->H dx=none->dx≠x->sp (.ref x::(vs++dvs)) (upd (upd H dx (.own x)) x (.ins C dx [])) (λv H2=>v=.non/\Q (.ref x) H2) E):wpAny (!3) X.A (call (.ref C) us) (EP X pins σ Q) X.xe s:=by
 have hq:=h _ s.heap.objs.size (I.hok.fresh (Nat.le_succ _)) (I.hok.fresh (UI _)) (Uz (Nat.lt_succ_self _));have I2:=Inv.made (C:=C) I;have r2:Vals (V.ref (!21)::(vs++dvs)) (Value.ref (!21)::(us++ds)):=.cons rfl (r.append hd);have hl:(Value.ref (!21)::us++ds).length=ps.length:=by have e:=r2.length;rw[F.len _ _ _ _ hq]at e;exact e.symm
 refine wpAny_call (Ab I.kIn M.makes M.init (beq_iff_eq.mp M.fn) (codeAny_mono (F.run _ X.stack _ _ #[Value.ref _::us,[]] (Value.ref _::(us++ds)) _ _ E (hr.make C us []) (I2.env0.make C us []) (hb _ (Value.ref _::us) I2.kIn hl) r2 hq) λr s' hq'=>?_));cases r with
|error e=>exact hx pins σ _ _ e s' I2 hq'|ok fl=>cases fl with
|ret u=>let[v,H',I3,rv,ev,q3]:=I2.after hq';subst ev;exact#[rv,#[V.ref _,H',I3,rfl,q3]]|next=>exact False.elim hq'|brk=>exact False.elim hq'|cont=>exact False.elim hq'
def Eb(M:Mk X.K C f)(F:FnOk X.prog X.w X.K X.mg X.base CX k f fd ps sp)(J:Room (k+1) X.A)(U:Gl X x)(T:X.mg x=!.ref C)(hb:Binds X.K fd ps ds)(hd:Vals dvs ds)(o:lF CX X E)(ha:PA X (e::es) t)(j:(!5)=false:=by decide)(he:starEach (e::es) X.env=(false,eval e X.env)::starEach es X.env:=by rfl)(g:(!19).any (·.1)=false:=by rfl):PE X (!17) (LF C sp dvs E t):=by
 intro pins s σ H Q I h;exact wpAny_Call_Name_kw (qE I U T (PySem.W.callWith_K I.ok.mod.kin M.kp (bG (ha pos pins s σ H _ I h) λus s1#[vs,H1,l,r,q]=>#[l.kIn,Ah M F J hb hd o l r q]) he g) j)
end
structure FnScope(N P:Uc)(sc:Scope):Prop where
 kind:sc.kind=.function
 co:sc.isCoroutine=false
 gen:sc.isGenerator=false
 nd:N.Nodup
 pre:N.take P.length=P
 par:∀x∈P,sc.names.lookup x=some .local\/sc.names.lookup x=some .cell
 nofree:∀y∈sc.names,y.2≠.free
def pL{kindOf}:∀{binds:List (Str×Value)}{m:Str->Ua},(∀v,(x,v)∉binds)->bindL kindOf binds m x=m x
|[],_,_=>rfl|(n,v)::r,m,h=>by
  unfold bindL;rw[pL λw hw=>h w (mem_cons_of_mem _ hw)];split
  .have:x≠n:=by rintro rfl;exact h v Ut
   simp[this]
  .rfl
def pM{kindOf}:∀{binds:List (Str×Value)}{m:Str->Ua},(∀v,(x,v)∉binds)->bindC kindOf binds m x=m x
|[],_,_=>rfl|(n,v)::r,m,h=>by
  unfold bindC;rw[pM λw hw=>h w (mem_cons_of_mem _ hw)];split;.rfl
  .have:x≠n:=by rintro rfl;exact h v Ut
   simp[this]
def pN{kindOf}:∀{P:Uc}{vs:T9}{i:Nat}{m:Str->Ua},P.Nodup->P[i]?=!x->vs[i]?=!v->kindOf x=some .local->bindL kindOf (P.zip vs) m x=!v
|[],_,_,_,_,h,_,_=>by simp at h|_::_,[],_,_,_,_,h,_=>by simp at h|p::P,w::vs,0,m,nd,h1,h2,hk=>by simp at h1 h2;subst h1;subst h2;show bindL kindOf ((p,w)::P.zip vs) m p=_;unfold bindL;rw[pL λv hv=>(List.nodup_cons.mp nd).1 (List.of_mem_zip hv).1,if_pos hk];simp|p::P,w::vs,i+1,m,nd,h1,h2,hk=>by show bindL kindOf ((p,w)::P.zip vs) m x=_;unfold bindL;exact pN (i:=i) (List.nodup_cons.mp nd).2 (by simpa using h1) (by simpa using h2) hk
def pO{kindOf}:∀{P:Uc}{vs:T9}{i:Nat}{m:Str->Ua},P.Nodup->P[i]?=!x->vs[i]?=!v->kindOf x≠some .local->bindC kindOf (P.zip vs) m x=!v
|[],_,_,_,_,h,_,_=>by simp at h|_::_,[],_,_,_,_,h,_=>by simp at h|p::P,w::vs,0,m,nd,h1,h2,hk=>by simp at h1 h2;subst h1;subst h2;show bindC kindOf ((p,w)::P.zip vs) m p=_;unfold bindC;rw[pM λv hv=>(List.nodup_cons.mp nd).1 (List.of_mem_zip hv).1,if_neg hk];simp|p::P,w::vs,i+1,m,nd,h1,h2,hk=>by show bindC kindOf ((p,w)::P.zip vs) m x=_;unfold bindC;exact pO (i:=i) (List.nodup_cons.mp nd).2 (by simpa using h1) (by simpa using h2) hk
def  ki(N:Uc)(vs:List V):St:=vs.map some++List.replicate (N.length-vs.length) none
def  oT(CX:Il)(P:Program)(w:World)(K:Frag)(mg:Str->Ua)(base:Heap)(N:Uc)(qual:Str)(scope:Scope)(f:Addr)(cd:Value)(A:Around)(outer:List Env)(s:Shared)(H:Hp)(E:XK):Cx where
 prog:=P;w:=w;K:=K;mg:=mg;base:=base;A:=A.deeper (envOfC qual scope s.heap.objs.size f cd);N:=N;s₀:=s;H₀:=H;env:=envOfC qual scope s.heap.objs.size f cd;outer:=outer;stack:=envOfC qual scope s.heap.objs.size f cd::outer;ex:=[];calm:=true;fn:=λ_=>true;pn:=[];xe:=λe s'=>wpAny (model P w) (A.deeper (envOfC qual scope s.heap.objs.size f cd)) (leaving (envOfC qual scope s.heap.objs.size f cd) e) (λ_ s''=>CX outer H s E e s'') (λe' s''=>CX outer H s E e' s'') s'
def sN{g:Scope}(h:g.names.lookup x=some .cell):∃c,(cellsFrom n g.names []).lookup x=!c:=by exact Option.isSome_iff_exists.mp (PySem.W.cellsFrom_some g.names n [] (.inl h))
def yC{K}(S:FnScope N ps scope)(hd:A.handled=none)(l:Env0 P w K mg base A j s H)(hl:C.length=ps.length)(r:Vals C U)(x:InCallC s s.heap.objs.size (bindL (envOfC g scope s.heap.objs.size f T).kindOf (ps.zip U) λ_=>none) (cellsFrom (!21) scope.names []) (bindC (envOfC g scope s.heap.objs.size f T).kindOf (ps.zip U) λ_=>none) s1):Inv (oT CX P w K mg base N g scope f T A j s H E) [] (ki N C) H s1:=by
 have hpl:ps.length<=N.length:=by have:=congrArg List.length S.pre;rw[List.length_take]at this;lia
 let[h1,tk,rfl,hk]:=x.done;have o:∀b:Addr,b∉(oT CX P w K mg base N g scope f T A j s H E).ex:=λb z=>absurd (show b∈([]:List Addr)from z) (by simp);refine#[#[l.mod,S.kind,rfl,rfl,UI _,λy z c h1 h2=>?_,λy t=>?_,λy c _ h=>?_,λ_=>hd,Around.frames_deeper l.frames,.inr #[rfl,rfl],λb z=>absurd z (o b),l.bs,l.bsz,λb _ _=>o b,λb z=>absurd z (o b),l.funs,l.frf],rfl,l.bare,Un.kept hk,#[_,x.toInCall.ns,λi y v h1 h2 h3=>?_],λy c h=>#[_,x.cell y c h],l.hok.fresh (UI _),λy c h=>?_,λp J=>absurd (show p∈([]:T5)from J) (by simp),l.hok.kept hk,?_];.exact name_of_addr x.apart (PySem.mem_of_lookup h1) (PySem.mem_of_lookup h2)
 .have t:scope.names.lookup y=some .cell\/scope.names.lookup y=some .free:=t;rcases t with t|t;.exact sN t
  .exact absurd rfl (S.nofree _ (PySem.mem_of_lookup t))
 .exact UF (x.above y c (PySem.mem_of_lookup h))
 .have hi:i<C.length:=by
   unfold ki at h2;by_cases hi:i<C.length;.exact hi
   .rw[getElem?_append_right (by simpa using hi),List.getElem?_replicate]at h2;split at h2<;>cases h2
  have ha:C[i]?=!v:=by unfold ki at h2;rw[getElem?_append_left (by simpa using hi),getElem?_map]at h2;cases e:C[i]?with
|none=>rw[e]at h2;cases h2|some a=>rw[e]at h2;cases h2;rfl
  let[u,hu,rv]:=r.get ha;have J:ps[i]?=!y:=by rw[<-S.pre,List.getElem?_take_of_lt (by lia)];exact h1
  have I:ps.Nodup:=by rw[<-S.pre];exact S.nd.sublist (List.take_sublist _ _)
  refine#[u,rv,?_];rcases S.par y (UH J)with k|k;.exact .inl #[k,pN I J hu k]
  .let[c,e]:=sN k;refine .inr #[.inl k,c,e,?_];have q:=x.cell y c e;rw[pO I J hu (by show scope.names.lookup y≠_;rw[k];decide)]at q;exact q
 .exact l.hok.fresh (UF (x.above y c (PySem.mem_of_lookup h)))
 .unfold ki;show _=N.length;rw[length_append,length_map,List.length_replicate];lia
def GR{K}{dV kV doc pm l ct oc}(lk:K.lookup f=!#[oc,od,.func (PySem.W.fnOf name j C body scope dV kV doc pm an l ct),osl])(hcd:PySem.W.codeIn K l j=true)(S:FnScope N ps scope)(len:∀T H Q E,sp T H Q E->T.length=ps.length)(I:∀(A:Around)(g:List Env)(s:Shared)(H:Hp)(T:List V)(Q:VK)(E:XK),Room k (A.deeper (envOfC j scope s.heap.objs.size f l))->sp T H Q E->∃t,PSs (oT CX P w K mg base N j scope f l A g s H E) body t/\t {nx:=λ_ H'=>Q .non H',rt:=Q} (ki N T) H):FnOk P w K mg base CX (k+1) f (PySem.W.fnOf name j C body scope dV kV doc pm an l ct) ps sp:=by
 refine#[len,λA g s H args us T Q E hr e0 hb r hsp=>?_];have hl:=len _ _ _ _ hsp;have KX:=e0.mod.kin.keeps λb o e=>(e0.bs b o e).1;have U:∀y∈ps.zip us,scope.names.lookup y.1=some .local\/scope.names.lookup y.1=some .cell/\((cellsFrom (!21) scope.names []).lookup y.1).isSome=true:=λ#[n,v]hy=>by
  rcases S.par n (List.of_mem_zip hy).1 with q|q;.exact .inl q
  .exact .inr #[q,PySem.W.cellsFrom_some _ _ _ (.inl q)]
 refine codeAny_call_function hr.depth (KX _ _ lk) rfl S.co S.gen rfl (PySem.W.codeRec_of KX hcd) (hb _ _ _ _ (wpAny_newFunctionEnv_cells S.kind U λenv he s1 x=>?_));subst he;refine#[(e0.mod.nolimit.keeps λb o e=>(e0.bs b o e).1).keeps x.toInCall.keep,codeAny_func ?_];let[t,ht,hq]:=I A g s H T Q E (hr.deeper _) hsp;refine UJ (ht [] s1 _ H _ (yC S hr.hd e0 hl r x) hq) (λfl s' hs=>?_) λe s' hs=>hs;have fin:∀{p:St}{H':Hp}{v:V}{u:Value},Inv (oT CX P w K mg base N j scope f l A g s H E) [] p H' s'->RelV v u->Q v H'->CE g P w H s Q u s':=λ{p H' v u}J rv q=>#[v,H',J.os,J.bare,J.base,J.hok,rv,q];cases fl with
|ret u=>let[v,p,H',J,rv,q]:=hs;exact fin J rv q|next=>let[p,H',J,q]:=hs;exact fin (v:=V.non) J rfl q|brk=>let[_,_,_,q]:=hs;exact False.elim q|cont=>let[_,_,_,q]:=hs;exact False.elim q
section
variable{X:Cx}{x:Str}{p pos:Pos}{e:Expr}{es:Ui}{t:TA}{id T:String}{r:List V->Hp->VK->Prop}
def  RG(r:List V->Hp->VK->Prop)(t:TA):TE:=λσ H Q=>t σ H λvs H1=>r vs H1 Q
def nj(hc:eJ X (.builtin id) r)(hg:Gl X x)(hm:X.mg x=none)(U:bootBuiltins x=!.builtin id)(ha:PA X (e::es) t)(hn:x≠"__name__":=by decide)(j:(!5)=false:=by decide)(he:starEach (e::es) X.env=(false,eval e X.env)::starEach es X.env:=by rfl)(g:(!19).any (·.1)=false:=by rfl):PE X (!17) (RG r t):=by
 intro pins s σ H Q I h;exact wpAny_Call_Name_kw (cz I hg hm U (PyProof.Rows.callWith_builtin1 (bG (ha pos pins s σ H _ I h) λo C#[l,H1,I1,J,T]=>hc pins C σ H1 l o Q I1 J T) he g) hn j)
def pP(hc:eJ X (.type T) r)(hg:Gl X x)(hm:X.mg x=none)(hv:bootBuiltins x=!.type T)(ha:PA X (e::es) t)(hn:x≠"__name__":=by decide)(j:(!5)=false:=by decide)(he:starEach (e::es) X.env=(false,eval e X.env)::starEach es X.env:=by rfl)(g:(!19).any (·.1)=false:=by rfl):PE X (!17) (RG r t):=by
 intro pins s σ H Q I h;exact wpAny_Call_Name_kw (cz I hg hm hv (PyProof.Rows.callWith_type1 (bG (ha pos pins s σ H _ I h) λo C#[l,H1,I1,J,U]=>hc pins C σ H1 l o Q I1 J U) he g) hn j)
end
end L2
namespace HT
open PySem PyProof.Rows
noncomputable def  lexLt:Ud->Ud->Bool
|[],[]=>false|[],_::_=>true|_::_,[]=>false|x::xs,y::ys=>if x=y then lexLt xs ys else decide (x<y)
def lexLt_cons(x y:Int)(xs ys:Ud):lexLt (x::xs) (y::ys)=if x=y then lexLt xs ys else decide (x<y):=rfl
def jE:lexLt [] []=false:=rfl
def im(y:Int)(ys:Ud):lexLt [] (y::ys)=true:=rfl
def io(x:Int)(xs:Ud):lexLt (x::xs) []=false:=rfl
def sO(A:Around)(s:Shared)(a:Int)(t:Tok)(c:Int)(u:Tok):∃e,SeqAt.EqAt A s (.int a t) (.int c u) e/\(e=true↔a=c):=#[a==c,SeqAt.EqAt.int_int a t c u,by simp]
def Ai(A:Around)(s:Shared)(a:Int)(t:Tok)(c:Int)(u:Tok)(prog:Program)(w:World)(E:T8)(Q:T8)(h:Q (.bool (decide (a<c))) s):wpAny (!7) A (richCompare .Lt (.int a t) (.int c u)) Q E s:=(PyProof.Rows.lt_int h:wpAny _ A (compareOp .Lt _ _) Q E s)
section
open PySem.SeqAt
open PySem.AutoSeq1(wpAny_loadPart')
open PySem.MeetsSeq PySem.MeetsSeq2 PySem.MeetsSeq3
def oU(l b:Addr)(items items2:Ug)(n n2:Nat)(dd dd2:Option Addr)(sl sl2:Array Ua)(ns ms:Ud)(hi:IntsAre items.toList ns)(hj:IntsAre items2.toList ms):Meets (Builtin.«tuple.__lt__» #[[.ref l,.ref b],[]]) λ_ R s=>s.heap.get? l=some {cls:=.type "tuple",dict:=dd,data:=.seq items n,slots:=sl}/\s.heap.get? b=some {cls:=.type "tuple",dict:=dd2,data:=.seq items2 n2,slots:=sl2}/\R (.ok (.ret (.bool (lexLt ns ms)))) s:=.of_wp λprog w A R s h=>by
  let[hp,g,d,tk,os]:=s;let[hl,hb,h]:=h;have f2:=AutoSeq1.sub_tuple_tuple;have z1:items.size=ns.length:=by rw[<-hi.length];simp
  have z2:items2.size=ms.length:=by rw[<-hj.length];simp
  wp_walk using wpAny_loadPart' hl,wpAny_loadPart' hb,wpAny_forIn_list _ (λrest b s'=>b.1=none/\s'=#[hp,g,d,tk,os]/\∃(vs ws:T9)(ns' ms':Ud),rest=vs.zip ws/\IntsAre vs ns'/\IntsAre ws ms'/\ns'.length+items2.size=ms'.length+items.size/\R (.ok (.ret (.bool (lexLt ns' ms')))) #[hp,g,d,tk,os]) _;case turn=>rintro⟨y,x⟩rest b s'⟨hb',rfl,vs,ws,ns',ms',hz,hvi,hwi,hlen,hR⟩;cases hvi with
|nil=>rw[List.zip_nil_left]at hz;cases hz|cons a t hvi'=>cases hwi with
|nil=>rw[List.zip_nil_right]at hz;cases hz|cons c u hwi'=>rw[List.zip_cons_cons]at hz;injection hz with hyx hrest;injection hyx with hy hx;subst hy hx;rw[lexLt_cons]at hR;simp only[length_cons]at hlen;let[e,he,hiff]:=sO A.in1 #[hp,g,d,tk,os] a t c u;refine Ul (he prog w _ _ ?_);cases e with
|true=>rw[if_pos (hiff.mp rfl)]at hR;wp_walk;exact#[rfl,rfl,_,_,_,_,hrest,hvi',hwi',by omega,hR]|false=>rw[if_neg λq=>absurd (hiff.mpr q) Bool.false_ne_true]at hR;have hri:=Ai A.in1 #[hp,g,d,tk,os] a t c u prog w;wp_walk using hri;exact#[_,rfl,by simpa using hR]
  case fin=>
   rintro⟨b1,b2⟩s'⟨hb',rfl,vs,ws,ns',ms',hz,hvi,hwi,hlen,hR⟩;simp only at hb';subst hb';have hv:lexLt ns' ms'=decide (items.size<items2.size):=by cases hvi with
|nil=>cases hwi with
     |nil=>simp only[List.length_nil]at hlen;rw[jE];exact(decide_eq_false !6).symm|cons c u hw=>simp only[List.length_nil,length_cons]at hlen;rw[im];exact(decide_eq_true !6).symm
|cons a t hv=>cases hwi with
|nil=>simp only[List.length_nil,length_cons]at hlen;rw[io];exact(decide_eq_false !6).symm|cons c u hw=>rw[List.zip_cons_cons]at hz;cases hz
   rw[hv]at hR;wp_walk;exact#[_,rfl,by simpa[Builtin.Tuple.tupleCompareSizes]using hR]
  case h=>exact#[rfl,rfl,items.toList,items2.toList,ns,ms,rfl,hi,hj,by omega,h]
end
def lt_tupInts(hl:IsTup s.heap l items)(hb:IsTup s.heap b items2)(hi:IntsAre items.toList ns)(hj:IntsAre items2.toList ms)(hu:A.units<cLine)(h:Q (.bool (lexLt ns ms)) s):wpAny (!7) A (compareOp .Lt (.ref l) (.ref b)) Q E s:=by
 let[[cls,dd,data,sl],ho,hc,n,hd]:=id hl;let[[cls2,dd2,data2,sl2],ho2,hc2,n2,hd2]:=id hb;subst hc hd hc2 hd2;exact richCompare_meets_room (op:=.Lt) #[_,ho,rfl] #[_,ho2,rfl] PySem.F.slot_tuple_lt PySem.F.entry_tuple_lt (PySem.F.args_tuple_lt_2 _ _) (oU l b items items2 n n2 dd dd2 sl sl2 ns ms hi hj) #[ho,ho2,show Value.bool (lexLt ns ms)≠Value.notImplemented/\Q (.bool (lexLt ns ms)) s from#[(λx=>nomatch x),h]] hu
def cat_tup{prog:Program}{w:World}{A:Around}{E:T8}{s:Shared}(ht:IsTup s.heap t l.toArray)(hb:IsTup s.heap b g.toArray)(hv:l≠[])(h1:g=[]->Q (.ref t) s)(h2:g≠[]->Q (.ref s.heap.objs.size) {s with heap:=s.heap.push {cls:=.type "tuple",data:=.seq (l++g).toArray}})(I:l.length+g.length<=sizeLine):wpAny (!7) A (binaryOp .Add (.ref t) (.ref b)) Q E s:=by
 let[[cls,dd,data,U],C,hc,n,hd]:=id ht;let[[cls2,p,data2,o],j,T,n2,J]:=id hb;subst hc hd T J;have e:l.toArray++g.toArray=(l++g).toArray:=by simp
 by_cases r:g=[]
 .exact concat_meets #[_,C,rfl] #[_,j,rfl] noFill_tuple_add seq_tuple_add PySem.F.slot_tuple_add PySem.F.entry_tuple_add (PySem.F.args_tuple_add_2 _ _) (tuple_addW1 t b l.toArray g.toArray n n2 dd p U o (by simpa using hv) (by simp[r])) #[C,j,h1 r]
 .refine concat_meets #[_,C,rfl] #[_,j,rfl] noFill_tuple_add seq_tuple_add PySem.F.slot_tuple_add PySem.F.entry_tuple_add (PySem.F.args_tuple_add_2 _ _) (tuple_addW2 t b l.toArray g.toArray n n2 dd p U o (by simpa using hv) (by simpa using r) (by rw[size_toArray,size_toArray];exact I)) #[C,j,?_];rw[e];exact h2 r
noncomputable def  sIx(n d:Nat):Uk->Nat
|none=>d|some v=>if v<0 then(v+(n:Int)).toNat else min v.toNat n
def sIx_none(n d:Nat):sIx n d none=d:=rfl
def sIx_nat(n d k:Nat):sIx n d (!(k:Int))=min k n:=by show(if(k:Int)<0 then((k:Int)+(n:Int)).toNat else min (k:Int).toNat n)=min k n;rw[if_neg (by lia),Int.toNat_natCast]
def wP(v:Int)(n d:Nat):(if v<0 then max (v+(n:Int)) 0 else min v (n:Int))=((sIx n d !v:Nat):Int):=by
 show(if v<0 then max (v+(n:Int)) 0 else min v (n:Int))=((if v<0 then(v+(n:Int)).toNat else min v.toNat n:Nat):Int);by_cases hv:v<0;.simp only[if_pos hv];lia
 .simp only[if_neg hv];lia
def u9(lo hi:Uk)(n:Nat):Builtin.Slice.sliceAdjust lo hi 1 (n:Int)=(((sIx n 0 lo:Nat):Int),((sIx n n hi:Nat):Int)):=by
 refine Prod.ext ?_ ?_;.cases lo with
|none=>rfl|some v=>exact wP v n 0
 .cases hi with
|none=>rfl|some v=>exact wP v n n
def vb(i j:Nat):Builtin.Slice.slicePlaces (i:Int) (j:Int) 1=j-i:=by unfold Builtin.Slice.slicePlaces;split<;>lia
def nk(p:IsPart v o)(h:Q o s):wpAny (!7) A (Builtin.Slice.slicePartIndex v) Q E s:=by cases p with
|none=>exact slicePart_none h|int i t=>exact slicePart_int h
def sliceApplied_gen{lo hi}{Q:Int×Int×Nat->Shared->Prop}(hs:s.heap.IsSliceOf sl vl vu .none)(pl:IsPart vl lo)(pu:IsPart vu hi)(h:Q (((sIx n 0 lo:Nat):Int),1,sIx n n hi-sIx n 0 lo) s):wpAny (!7) A (Builtin.Slice.sliceApplied (.ref sl) (pure (n:Int))) Q E s:=by let[os,hos,hcs,hds]:=id hs;refine Ul (Ul (wpAny_field hos hds rfl (Ul (wpAny_field hos hds rfl (Ul (wpAny_field hos hds rfl (Uo (Ul (slicePart_none (Ul (nk pl (Ul (nk pu (Ul (Uo ?_)))))))))))))));show wpAny _ _ (match Builtin.Slice.sliceAdjust lo hi 1 (n:Int)with|(lo,hi)=>pure (lo,(1:Int),Builtin.Slice.slicePlaces lo hi 1)) _ _ s;rw[u9];show wpAny _ _ (pure (((sIx n 0 lo:Nat):Int),(1:Int),Builtin.Slice.slicePlaces ((sIx n 0 lo:Nat):Int) ((sIx n n hi:Nat):Int) 1)) _ _ s;rw[vb];exact Uo h
def Aj(xs:Ug)(i k:Nat):((List.range k).filterMap λ(m:Nat)=>xs[((i:Int)+(m:Int)*1).toNat]?).toArray=((xs.toList.drop i).take k).toArray:=by
 have e:(λ(m:Nat)=>xs[((i:Int)+(m:Int)*1).toNat]?)=λm=>xs[i+m]?:=by
  funext m;have:((i:Int)+(m:Int)*1).toNat=i+m:=by lia
  rw[this]
 rw[e];have:=pick_run xs i k;rw[List.filterMap_map]at this;have g:((λx=>xs[x]?)∘λx=>i+x)=λm=>xs[i+m]?:=rfl;grind
def getItem_tuple_cut{lo hi}(ht:IsTup s.heap t items)(hs:s.heap.IsSliceOf sl vl vu .none)(pl:IsPart vl lo)(pu:IsPart vu hi)(hw:¬(sIx items.size 0 lo=0/\sIx items.size items.size hi=items.size))(h:Q (.ref s.heap.objs.size) {s with heap:=s.heap.push {cls:=.type "tuple",data:=.seq ((items.toList.drop (sIx items.size 0 lo)).take !40).toArray}})(hsz:items.size<=sizeLine):wpAny (!7) A (getItem (.ref t) (.ref sl)) Q E s:=by
 have htake:sizeOk (.seq ((items.toList.drop (sIx items.size 0 lo)).take !40).toArray):=by show((items.toList.drop (sIx items.size 0 lo)).take !40).toArray.size<=sizeLine;rw[size_toArray,List.length_take,List.length_drop,Array.length_toList];omega
 let[os,hos,hcs,hds]:=id hs;have hTs:s.TypeIs (.ref sl) "slice":=#[os,hos,hcs];unfold getItem;try with_reducible refine wpAny_holding ?_
 first|refine Ul (Uo ?_)|skip
 refine Ul (wpAny_sequenceKey ht.typeIs (!2) ?_);refine Ul (wpAny_callSpecial?_slot ht.typeIs PyProof.Rows.slot_tuple_getitem (wpAny_call_entry PyProof.Rows.slot_tuple_getitem ht.typeIs entry_tuple_getitem ?_ (args_tuple_getitem _ _)));show wpAny _ _ (Builtin.Tuple.tupleItemsOf (.ref t)>>=_) _ _ s;refine Ul (tupleItemsOf_ ht (Ul (wpAny_typeOf hTs (Ul (sliceApplied_gen hs pl pu ?_)))));have hno:¬(((sIx items.size 0 lo:Nat):Int)==0&&(1:Int)==1&&(!40)==items.size)=true:=by intro q;rw[and_eq_true,and_eq_true]at q;have q1:=eq_of_beq q.1.1;have q2:=eq_of_beq q.2;exact hw #[by lia,by lia]
 show wpAny _ _ (if(((sIx items.size 0 lo:Nat):Int)==0&&(1:Int)==1&&(!40)==items.size)=true then _ else _) _ _ s;rw[if_neg hno,Aj];first
|exact Ul (wpAny_newObj_type (Uo #[_,rfl,Uo h]) htake)|exact Ul (wpAny_newObj_type (Ul (Uo _)) htake)|exact Ul (Ul (wpAny_newObj_type (Uo _) htake))|exact Ul (Ul (wpAny_newObj_type _ htake))
end HT
namespace L2
open PySem PySem.Spec PyProof.Rows
noncomputable abbrev TO:=St->Hp->(Uk->Hp->Prop)->Prop
def  PO(X:Cx)(e:Option Expr)(t:TO):Prop:=∀(pins:T5)(s:Shared)(σ:St)(H:Hp)(Q:Uk->Hp->Prop),Inv X pins σ H s->t σ H Q->wpAny (!3) X.A (evalPart e X.env) (λu s'=>∃o H',Inv X pins σ H' s'/\IsPart u o/\Q o H') X.xe s
def  Ec:TO:=λ_ H Q=>Q none H
def  LG(t:TE):TO:=λσ H Q=>t σ H λx H1=>∃i,x=.int i/\Q (!i) H1
def eL:∀{g:T9},Vals (j.map V.int) g->IntsAre g j:=by induction j with
|nil=>intro g r;rw[List.map_nil]at r;cases r;exact .nil|cons n j p=>intro g r;cases r with|cons o l=>let[t,e]:=o;subst e;exact .cons n t (p l)
section
variable{X:Cx}{e:Expr}{te:TE}{lo hi:Option Expr}{tl th:TO}{pos p2:Pos}
def po_none:PO X none Ec:=by intro pins s σ H Q I h;exact Uo #[none,H,I,.none,h]
def Ed(h:PE X e te):PO X (!e) (LG te):=by intro pins s σ H Q I l;refine bG (h pins s σ H _ I l) λu p#[x,H1,o,g,j]=>?_;let[i,rfl,q]:=j;let[t,rfl]:=g;exact#[!i,H1,o,.int i t,q]
def  SlR(X:Cx)(r:V->Uk->Uk->Hp->VK->Prop):Prop:=∀(pins:T5)(s:Shared)(σ:St)(H:Hp)(x:V)(v vl vu:Value)(lo hi:Uk)(sl:Addr)(Q:VK),Inv X pins σ H s->RelV x v->s.heap.IsSliceOf sl vl vu .none->IsPart vl lo->IsPart vu hi->r x lo hi H Q->∃T id,typeLookup (.type T) "__getitem__"=pure !.builtin id/\s.TypeIs v T/\wpAny (!3) X.A (getItem v (.ref sl)) (EP X pins σ Q) X.xe s
def SlR.or(h:SlR X r)(h':SlR X p):SlR X λx lo hi H Q=>r x lo hi H Q\/p x lo hi H Q:=by
 intro pins s σ H x v j g lo hi l Q I rx o pl pu q;rcases q with q|q;.exact h pins s σ H x v j g lo hi l Q I rx o pl pu q
 .exact h' pins s σ H x v j g lo hi l Q I rx o pl pu q
def  S1(r:V->Uk->Uk->Hp->VK->Prop)(te:TE)(tl th:TO):TE:=λσ H Q=>te σ H λx H1=>tl σ H1 λl H2=>th σ H2 λu H3=>r x l u H3 Q
def sR(hr:SlR X r)(he:PE X e te)(hl:PO X lo tl)(hu:PO X hi th):PE X (.Subscript e (.Slice lo hi none p2) pos) (S1 r te tl th):=by intro pins s σ H Q I h;refine Subscript_ (bG (he pins s σ H _ I h) λv s1#[x,H1,I1,r1,q1]=>wpAny_Slice (bG (hl pins s1 σ H1 _ I1 q1) λvl s2#[l,H2,I2,pl,q2]=>bG (hu pins s2 σ H2 _ I2 q2) λvu s3#[u,H3,I3,pu,q3]=>Uo ?_));have I4:Inv X pins σ H3 {s3 with heap:=s3.heap.push {cls:=.type "slice",data:=.fields #[ vl,vu,.none]}}:=I3.kept λb ob q=>Um _ q;let[T,id,hT,ht,hg]:=hr pins {s3 with heap:=s3.heap.push {cls:=.type "slice",data:=.fields #[ vl,vu,.none]}} σ H3 x v vl vu l u s3.heap.objs.size Q I4 r1 (Heap.IsSliceOf.new ..) pl pu q3;exact tail_any ht hT hg (by with_unfolding_all rfl)
def  yD(xs:List V)(lo hi:Uk):List V:=(xs.drop (HT.sIx xs.length 0 lo)).take (HT.sIx xs.length xs.length hi-HT.sIx xs.length 0 lo)
def mh(xs:List V)(lo hi:Uk):(yD xs lo hi).length<=xs.length:=by unfold yD;rw[List.length_take,List.length_drop];lia
def  Pi(K:Frag):V->Uk->Uk->Hp->VK->Prop:=λx lo hi H Q=>∃a xs,x=.ref a/\SqT K H a xs/\¬(HT.sIx xs.length 0 lo=0/\HT.sIx xs.length xs.length hi=xs.length)/\∀p,H p=none->Q (.ref p) (upd H p (.tup (yD xs lo hi)))
def sl_tup:SlR X (Pi X.K):=by
 intro pins s σ H x v T J lo hi U Q I rx C pl pu h;let[a,xs,rfl,p,t,q]:=h;cases rx;let[j,r,o,l]:=I.tuple p;have g:j.toArray.size=xs.length:=by rw[size_toArray];exact r.length.symm
 refine#["tuple",_,PyProof.Rows.slot_tuple_getitem.lookup,o.typeIs,HT.getItem_tuple_cut o C pl pu (by rw[g];exact t) ?_ (by rw[g];exact l)];rw[g];refine#[.ref s.heap.objs.size,_,I.laid (λb ob q=>Um _ q) (UI _) ?_,rfl,q _ (I.hok.fresh (UI _))];exact#[Uy (mh xs lo hi) l,_,(r.drop _).take _,IsTup.new _ _]
def  LH(K:Frag):R2:=λx y H Q=>∃a b ns ms,x=.ref a/\y=.ref b/\SqT K H a (ns.map V.int)/\SqT K H b (ms.map V.int)/\Q (.bl (HT.lexLt ns ms)) H
def Ak(J:X.A.units<cLine):OpR X (compareOp .Lt) (LH X.K):=by intro pins s σ H x y v u Q I rx j h;let[a,b,t,C,rfl,rfl,U,T,q]:=h;cases rx;cases j;let[r,o,p,_]:=I.tuple U;let[g,l,p2,_]:=I.tuple T;exact HT.lt_tupInts p p2 (eL o) (eL l) J #[.bl _,H,I,rfl,q]
def  GS(K:Frag):R2:=λx y H Q=>∃a b xs ys,x=.ref a/\y=.ref b/\SqT K H a xs/\SqT K H b ys/\xs≠[]/\xs.length+ys.length<=sizeLine/\(ys=[]->Q (.ref a) H)/\(ys≠[]->∀p,H p=none->Q (.ref p) (upd H p (.tup (xs++ys))))
def Vals.nil_iff(r:Vals xs g):g=[]↔xs=[]:=by cases r with
|nil=>simp|cons _ _=>simp
def Ee:OpR X (binaryOp .Add) (GS X.K):=by intro pins s σ H x y v u Q I rx p h;let[a,b,xs,ys,rfl,rfl,ha,U,T,o,t,r]:=h;cases rx;cases p;let[J,j,C,_]:=I.tuple ha;let[l,g,p2,_]:=I.tuple U;refine HT.cat_tup C p2 (λz=>T (j.nil_iff.mp z)) (λz=>#[.ref a,H,I,rfl,t (g.nil_iff.mp z)]) (λz=>#[.ref s.heap.objs.size,_,I.laid (λb ob q=>Um _ q) (UI _) ?_,rfl,r (λw=>z (g.nil_iff.mpr w)) _ (I.hok.fresh (UI _))]) (by rw[<-j.length,<-g.length];exact o);exact#[by rw[length_append];exact o,_,j.append g,IsTup.new _ _]
end
noncomputable def  yE(n:Nat)(i:Int):Option Nat:=if 0<=i then if i<n then !i.toNat else none else if-(n:Int)<=i then some (i+n).toNat else none
def  oR{α:Type}(xs:List α)(i:Int):Option α:=(yE xs.length i).bind λj=>xs[j]?
def wQ(h:yE n i=!j):seqIndex? i n=!j/\j<n/\-(n:Int)<=i/\i<n:=by
 unfold yE at h;by_cases h0:0<=i
 .rw[if_pos h0]at h;by_cases h1:i<n;.rw[if_pos h1]at h;have e:=Option.some.inj h;exact#[by rw[seqIndex_of h0 h1,e],by lia,by lia,h1]
  .rw[if_neg h1]at h;cases h
 .rw[if_neg h0]at h;by_cases h1:-(n:Int)<=i;.rw[if_pos h1]at h;have e:=Option.some.inj h;exact#[by rw[seqIndex_neg (by lia) h1,e],by lia,h1,by lia]
  .rw[if_neg h1]at h;cases h
def qL{v:α}(h:oR xs i=!v):∃j,seqIndex? i xs.length=!j/\xs[j]?=!v/\j<xs.length/\-(xs.length:Int)<=i/\i<xs.length:=by unfold oR at h;cases e:yE xs.length i with
|none=>rw[e]at h;cases h|some j=>rw[e]at h;let[h1,h2,l,g]:=wQ e;exact#[j,h1,h,h2,l,g]
def  cU(b:Expr):Prop:=∀o i,subscripted b false o i=operate [o,i] (getItem o i)
def  IxR(X:Cx)(r:R2):Prop:=∀(value slice:Expr)(pins:T5)(s:Shared)(σ:St)(H:Hp)(x y:V)(v u:Value)(Q:VK),Inv X pins σ H s->RelV x v->RelV y u->r x y H Q->subscripted slice false v u=operate [v,u] (getItem v u)->wpAny (!3) X.A (subscriptTail value slice v u) (EP X pins σ Q) X.xe s
def  S3(X:Cx)(id:String)(r:V->List V->Hp->VK->Prop):Prop:=∀(pins:T5)(s:Shared)(σ:St)(H:Hp)(x:V)(xs:List V)(v:Value)(us:T9)(Q:VK),Inv X pins σ H s->RelV x v->Vals xs us->r x xs H Q->wpAny (!3) X.A (call (.builtin id) (v::us)) (EP X pins σ Q) X.xe s
section
variable{X:Cx}{a b:Expr}{ta tb:TE}{pos:Pos}
def IxR.or(h:IxR X r)(h':IxR X l):IxR X λx y H Q=>r x y H Q\/l x y H Q:=by
 intro value slice pins s σ H x y v u Q I rx g q j;rcases q with q|q;.exact h value slice pins s σ H x y v u Q I rx g q j
 .exact h' value slice pins s σ H x y v u Q I rx g q j
def pQ(o:IxR X r)(t:PE X a ta)(p:PE X b tb)(l:cU b):PE X (.Subscript a b pos) (Lr r ta tb):=by intro pins s σ H Q I h;exact Subscript_ (Ic t p I h λv u g x y H2 C rx j q=>o a b pins g σ H2 x y v u Q C rx j q (l _ _))
def  LI(K:Frag):R2:=λx y H Q=>∃p xs i v,x=.ref p/\y=.int i/\SqL K H p xs/\oR xs i=!v/\Q v H
def  LJ(K:Frag):R2:=λx y H Q=>∃p xs i v,x=.ref p/\y=.int i/\SqT K H p xs/\oR xs i=!v/\Q v H
def  LK:R2:=λx y H Q=>∃z i c,x=.str z/\y=.int i/\z.length<=sizeLine/\oR z.cps.toList i=!c/\Q (.str #[#[ c]]) H
def ix_list:IxR X (LI X.K):=by
 intro value slice pins s σ H x y v u Q I rx T h C;let[p,xs,i,z,rfl,rfl,U,he,q]:=h;cases rx;let[t,rfl]:=T;let[l,r,pl,hz]:=I.list U;let[j,h1,h2,h3,h4,h5]:=qL he;let[w,J,g]:=r.get h2;have hl:=r.length;have hn:=jY;have fin:EP X pins σ Q w s:=#[z,H,I,g,q];by_cases h0:0<=i
 .have o:i.toNat=j:=by rw[seqIndex_of h0 h5]at h1;exact Option.some.inj h1
  exact item_listR pl.isList h0 (by lia) (by rw[o];simpa using J) fin C
 .have o:(i+(l.toArray.size:Int)).toNat=j:=by rw[seqIndex_neg (by lia) h4]at h1;rw[size_toArray,<-hl];exact Option.some.inj h1
  exact subscriptTail_builtinR pl.isList.typeIs slot_list_getitem.lookup (wpAny_getItem_list_neg pl.isList (by lia) (by rw[size_toArray]<;>lia) (by lia) (by rw[o];simpa using J) #[rfl,fin]) C
def ix_tup:IxR X (LJ X.K):=by
 intro value slice pins s σ H x y v u Q I rx l h C;let[p,xs,i,z,rfl,rfl,J,U,q]:=h;cases rx;let[t,rfl]:=l;let[o,r,pl,hz]:=I.tuple J;let[j,h1,h2,h3,h4,h5]:=qL U;let[w,T,g]:=r.get h2;have hn:=jY;exact subscriptTail_builtinR pl.typeIs slot_tuple_getitem.lookup (getItem_tuple pl (by lia) (by lia) (by rw[size_toArray,<-r.length];exact h1) (by simpa using T) #[rfl,#[z,H,I,g,q]]) C
def Im:IxR X LK:=by
 intro value slice pins s σ H x y v u Q I rx g h l;let[z,i,c,rfl,rfl,U,p,q]:=h;let[t,rfl]:=rx;let[T,rfl]:=g;let[j,h1,h2,h3,C,r]:=qL p;have o:z.cps.toList.length=z.length:=by simp[Str.length]
 rw[o]at h1 C r;have J:=jY;exact tail_any (typeIs_str s z t) slot_str_getitem.lookup (getItem_str (by rw[(decide_eq_false (by lia)),(decide_eq_false (by lia)),Bool.or_false]) (by rw[h1];simpa using h2) #[.str #[#[ c]],H,I.tok _,#[_,rfl],q]) l
def  S4(K:Frag):R2:=λx y H Q=>LI K x y H Q\/LJ K x y H Q\/LK x y H Q
def ix_seq:IxR X (S4 X.K):=ix_list.or (ix_tup.or Im)
def vc(g:T9)(n j:Nat)(u:Value):Obj.mapSeq (·.setIfInBounds j u) {cls:=.type "list",data:=.seq g.toArray n}={cls:=.type "list",data:=.seq (g.set j u).toArray n}:=by simp[Obj.mapSeq]
def Inv.lst{σ:St}(I:Inv X pins σ H s)(h:H p=!.lst xs):∃(g:T9)(n:Nat),Vals xs g/\s.heap.get? p=some {cls:=.type "list",data:=.seq g.toArray n}/\xs.length<=sizeLine:=by
 let[z,g,n,r,e]:=I.hok p _ h;exact#[g,n,r,e,z]
def Inv.lstUpd{σ:St}{its its':T9}(I:Inv X pins σ H s)(h:H p=!.lst xs)(ho:s.heap.get? p=some {cls:=.type "list",data:=.seq its.toArray n})(hf:f {cls:=.type "list",data:=.seq its.toArray n}={cls:=.type "list",data:=.seq its'.toArray n'})(r:Vals ys its')(hz:ys.length<=sizeLine)(t:Nat):Inv X pins σ (upd H p (.lst ys)) {s with heap:=s.heap.update p f,toks:=t}:=by
 have e:(s.heap.update p f).get? p=some {cls:=.type "list",data:=.seq its'.toArray n'}:=by rw[Heap.get?_update_self f ho (by rw[hf]<;>rfl),hf]
 refine I.write (by rw[h];trivial) (.inl rfl) (λb u hb q=>(Heap.get?_update_other _ _ (Ne.symm hb)).trans q) #[_,e] ?_;exact#[hz,its',n',r,e]
def  LL:V->V->V->Hp->(Hp->Prop)->Prop:=λo i v H Q=>∃p xs k j,o=.ref p/\i=.int k/\H p=!.lst xs/\yE xs.length k=!j/\Q (upd H p (.lst (xs.set j v)))
def Al:Ia X LL:=by
 intro pins s σ H o i v ov iv u Q I ro ri rv h;let[p,xs,k,j,rfl,rfl,hp,hj,q]:=h;cases ro;let[t,rfl]:=ri;let[its,n,r,ho,hz]:=I.lst hp;let[h1,h2,h3,h4]:=wQ hj;have hl:=r.length;have hn:=jY;have I':Inv X pins σ (upd H p (.lst (xs.set j v))) {s with heap:=s.heap.update p (Obj.mapSeq (·.setIfInBounds j u))}:=I.lstUpd hp ho (vc its n j u) (r.set rv j) (by rw[List.length_set];exact hz) s.toks;by_cases h0:0<=k
 .have hk:k.toNat=j:=by rw[seqIndex_of h0 h4]at h1;exact Option.some.inj h1
  exact PySem.W.ki_setAt ho h0 (by lia) (by rw[size_toArray,<-hl];exact h4) (by rw[hk];exact#[_,I',q])
 .have hk:(k+(its.toArray.size:Int)).toNat=j:=by rw[seqIndex_neg (by lia) h3]at h1;rw[size_toArray,<-hl];exact Option.some.inj h1
  exact PySem.W.ki_setBack ho (by lia) (by rw[size_toArray,<-hl];exact h3) (by lia) (by rw[hk];exact#[_,I',q])
def qM(lo hi:Uk)(n:Nat):(sliceBounds lo hi none n).1=((HT.sIx n 0 lo:Nat):Int)/\(sliceBounds lo hi none n).2.1=((HT.sIx n n hi:Nat):Int)/\(sliceBounds lo hi none n).2.2=1:=by
 refine#[?_,?_,rfl];.cases lo with
|none=>simp[sliceBounds,HT.sIx]|some i=>
   simp only[sliceBounds,HT.sIx,Option.getD_none,show(1:Int)>0 by decide,if_true];by_cases h:i<0;.simp only[h,if_true]<;>lia
   .simp only[h,if_false]<;>lia
 .cases hi with
|none=>simp[sliceBounds,HT.sIx]|some i=>
   simp only[sliceBounds,HT.sIx,Option.getD_none,show(1:Int)>0 by decide,if_true];by_cases h:i<0;.simp only[h,if_true]<;>lia
   .simp only[h,if_false]<;>lia
def oV(g:T9)(lo hi:Uk):slicePick g.toArray lo hi none=((g.drop (HT.sIx g.length 0 lo)).take (HT.sIx g.length g.length hi-HT.sIx g.length 0 lo)).toArray:=by let[h1,h2,j]:=qM lo hi g.toArray.size;unfold slicePick;rw[h1,h2,j];simp only[sliceRange_one,pick_run,size_toArray]<;>rfl
def  Pj(K:Frag):V->Uk->Uk->Hp->VK->Prop:=λx lo hi H Q=>∃a xs,x=.ref a/\SqL K H a xs/\∀p,H p=none->Q (.ref p) (upd H p (.lst (yD xs lo hi)))
def Ef:SlR X (Pj X.K):=by intro pins s σ H x v J C lo hi T Q I rx t pl pu h;let[a,xs,rfl,p,q]:=h;cases rx;let[l,r,j,o]:=I.list p;have g:=r.length;refine#["list",_,slot_list_getitem.lookup,j.isList.typeIs,wpAny_getItem_list_slice j.isList t pl pu .none (by simp) ?_ (by rw[size_toArray]<;>lia)];rw[oV,<-g];refine#[.ref s.heap.objs.size,_,I.laid (λb U q=>Um _ q) (UI _) ?_,rfl,q _ (I.hok.fresh (UI _))];exact#[Uy (mh xs lo hi) o,_,0,(r.drop _).take _,Uq _ rfl]
noncomputable def  iq:V->Bool
|.non=>true|.bl _=>true|.int _=>true|.str _=>true|_=>false
noncomputable def  DT:V->V->Bool
|.non,.non=>true|.bl a,.bl b=>a==b|.bl a,.int b=>(if a then 1 else 0)==b|.int a,.bl b=>a==if b then 1 else 0|.int a,.int b=>a==b|.str a,.str b=>a==b|_,_=>false
def Am(j:RelV y u)(rx:RelV x v)(o:iq y=true)(l:iq x=true):SeqAt.EqAt A s u v (DT y x):=by cases y with
|non=>cases j;cases x with
  |non=>cases rx;exact SeqAt.EqAt.same _|bl b=>cases rx;exact SeqAt.EqAt.none_bool b|int b=>let[t,rfl]:=rx;exact SeqAt.EqAt.none_int b t|str b=>let[t,rfl]:=rx;exact SeqAt.EqAt.none_str b t|_=>exact absurd l Ur
|bl a=>cases j;cases x with
  |non=>cases rx;exact SeqAt.EqAt.bool_none a|bl b=>cases rx;exact SeqAt.EqAt.bool_bool a b|int b=>let[t,rfl]:=rx;exact SeqAt.EqAt.bool_int a b t|str b=>let[t,rfl]:=rx;exact SeqAt.EqAt.bool_str a b t|_=>exact absurd l Ur
|int a=>let[g,rfl]:=j;cases x with
  |non=>cases rx;exact SeqAt.EqAt.int_none a g|bl b=>cases rx;exact SeqAt.EqAt.int_bool a g b|int b=>let[t,rfl]:=rx;exact SeqAt.EqAt.int_int a g b t|str b=>let[t,rfl]:=rx;exact SeqAt.EqAt.int_str a g b t|_=>exact absurd l Ur
|str a=>let[g,rfl]:=j;cases x with
  |non=>cases rx;exact SeqAt.EqAt.str_none a g|bl b=>cases rx;exact SeqAt.EqAt.str_bool a g b|int b=>let[t,rfl]:=rx;exact SeqAt.EqAt.str_int a g b t|str b=>let[t,rfl]:=rx;exact SeqAt.EqAt.str_str a g b t|_=>exact absurd l Ur
|_=>exact absurd o Ur
def  vd(x:V)(u:Value):Bool:=match u with
|.none=>DT .non x|.bool b=>DT (.bl b) x|.int i _=>DT (.int i) x|.str z _=>DT (.str z) x|_=>false
def An(r:RelV y u)(f:iq y=true):vd x u=DT y x:=by cases y with
|non=>cases r;rfl|bl b=>cases r;rfl|int i=>let[t,rfl]:=r;rfl|str z=>let[t,rfl]:=r;rfl|_=>exact absurd f Ur
def kj:∀{xs:List V}{us:T9},Vals xs us->xs.all iq=true->us.any (vd x)=xs.any λy=>DT y x
|_,_,.nil,_=>rfl|y::xs,u::us,.cons r t,f=>by rw[List.all_cons,and_eq_true]at f;rw[List.any_cons,List.any_cons,An r f.1,kj t f.2]
def ir(rx:RelV x v)(fx:iq x=true):∀{xs:List V}{us:T9},Vals xs us->xs.all iq=true->∀u∈us,SeqAt.EqAt A s u v (vd x u)
|_,_,.nil,_=>λu hu=>by cases hu|y::xs,u::us,.cons r t,f=>λu' hu=>by
  rw[List.all_cons,and_eq_true]at f;rcases mem_cons.mp hu with rfl|hu;.rw[An r f.1];exact Am r rx f.1 fx
  .exact ir rx fx t f.2 u' hu
def  Pl(x:V)(xs:List V):Bool:=xs.any λy=>DT y x
def  Oj(K:Frag)(neg:Bool):R2:=λx y H Q=>∃p xs,y=.ref p/\(SqL K H p xs\/SqT K H p xs)/\iq x=true/\xs.all iq=true/\Q (.bl (if neg then not (Pl x xs)else Pl x xs)) H
def op_in_seq:OpR X (compareOp .In) (Oj X.K false):=by
 intro pins s σ H x y v u Q I rx t h;let[p,xs,rfl,j,o,fs,q]:=h;cases t;rcases j with j|j;.let[g,r,pl,C]:=I.list j;refine SeqAt.in_listAt (vd x) pl.isList (λw l=>ir rx o r fs w (by simpa using l)) #[.bl _,H,I,rfl,?_];rw[show g.toArray.any (vd x)=g.any (vd x)by simp,kj r fs];exact q
 .let[g,r,pl,C]:=I.tuple j;refine SeqAt.in_tupleAt (vd x) pl (λw l=>ir rx o r fs w (by simpa using l)) #[.bl _,H,I,rfl,?_];rw[show g.toArray.any (vd x)=g.any (vd x)by simp,kj r fs];exact q
def op_notIn_seq:OpR X (compareOp .NotIn) (Oj X.K true):=by
 intro pins s σ H x y v u Q I rx t h;let[p,xs,rfl,j,o,fs,q]:=h;cases t;rcases j with j|j;.let[g,r,pl,C]:=I.list j;refine SeqAt.notIn_listAt (vd x) pl.isList (λw l=>ir rx o r fs w (by simpa using l)) #[.bl _,H,I,rfl,?_];rw[show g.toArray.any (vd x)=g.any (vd x)by simp,kj r fs];exact q
 .let[g,r,pl,C]:=I.tuple j;refine SeqAt.notIn_tupleAt (vd x) pl (λw l=>ir rx o r fs w (by simpa using l)) #[.bl _,H,I,rfl,?_];rw[show g.toArray.any (vd x)=g.any (vd x)by simp,kj r fs];exact q
def call_len_seq:eJ X (.builtin "len") λxs H Q=>∃p ys,xs=[.ref p]/\(SqL X.K H p ys\/SqT X.K H p ys)/\Q (.int ys.length) H:=by
 intro pins s σ H xs C Q I r h;let[p,ys,rfl,j,q]:=h;let[u,rfl,rx]:=fw r;cases rx;have J:=jY;rcases j with j|j;.let[o,l,pl,t]:=I.list j;have g:=l.length;exact Calls.call_len_list pl.isList (by simp only[size_toArray]<;>lia) #[.int ys.length,H,I.tok _,#[s.toks+1,by rw[size_toArray,g]],q]
 .let[o,l,pl,t]:=I.tuple j;have g:=l.length;exact len_tuple pl (by simp only[size_toArray]<;>lia) #[.int ys.length,H,I.tok _,#[s.toks+1,by rw[size_toArray,g]],q]
def qN:eJ X (.type "list") λxs H Q=>∃p ys,xs=[.ref p]/\(SqL X.K H p ys\/SqT X.K H p ys)/\∀l,H l=none->Q (.ref l) (upd H l (.lst ys)):=by
 intro pins s σ H xs us Q I r h;let[p,ys,rfl,T,q]:=h;let[u,rfl,rx]:=fw r;cases rx;have fin:∀(g:T9),Vals ys g->ys.length<=sizeLine->∀(h':Heap)(t:Nat),(∀b o',s.heap.get? b=!o'->h'.get? b=!o')->h'.get? s.heap.objs.size=some {cls:=.type "list",dict:=none,data:=.seq g.toArray t,slots:=#[ ]}->EP X pins σ Q _ {s with heap:=h'}:=λg j J h' t C e=>#[.ref s.heap.objs.size,_,I.laid C (UI _) (show ObjOk X.prog X.w _ h' _ (.lst ys)from#[J,g,t,j,e]),rfl,q _ (I.hok.fresh (UI _))];rcases T with T|T;.let[g,j,pl,J]:=I.list T;have U:=j.length;let[o,ho,hc,n,hd]:=pl.isList;exact call_list_seq p (.inl rfl) ho hc hd (λh' t C e=>fin g j J h' t C e) (by simp only[size_toArray]<;>lia)
 .let[g,j,pl,J]:=I.tuple T;have U:=j.length;let[o,ho,hc,n,hd]:=pl;exact call_list_seq p (.inr rfl) ho hc hd (λh' t C e=>fin g j J h' t C e) (by simp only[size_toArray]<;>lia)
def call_tuple_of:eJ X (.type "tuple") λxs H Q=>∃p ys,xs=[.ref p]/\((SqL X.K H p ys/\∀l,H l=none->Q (.ref l) (upd H l (.tup ys)))\/SqT X.K H p ys/\Q (.ref p) H):=by
 intro pins s σ H xs us Q I r h;let[p,ys,rfl,h]:=h;let[u,rfl,rx]:=fw r;cases rx;rcases h with⟨hq,q⟩|⟨hq,q⟩
 .let[its,r',pl,hz]:=I.list hq;have hlen:=r'.length;refine call_tuple_list pl.isList (λh' kp=>?_) (by simp only[size_toArray]<;>lia);have I1:Inv X pins σ H {s with heap:=h'}:=I.kept kp;have I2:Inv X pins σ (upd H h'.objs.size (.tup ys)) {s with heap:=h'.push {cls:=.type "tuple",data:=.seq its.toArray}}:=I1.laid (λb o e=>Um _ e) (UI _) #[hz,its,r',IsTup.new _ _];exact#[.ref h'.objs.size,_,I2,rfl,q _ (I1.hok.fresh (UI _))]
 .let[its,r',pl,hz]:=I.tuple hq;exact call_tuple_same pl #[.ref p,H,I,rfl,q]
def  RH(K:Frag)(T:String)(x:V)(H:Hp):Prop:=match x with
|.str _=>T="str"|.int _=>T="int"|.ref p=>(T="list"/\∃xs,SqL K H p xs)\/(T="tuple"/\∃o,K.lookup p=!o/\o.cls=.type "tuple"/\o.dict=none)\/T="dict"/\((∃kvs,H p=!.dK kvs)\/∃kvs,H p=!.dT kvs)\/T="set"/\∃S n,H p=!.set S n|_=>False
def Io{σ:St}(I:Inv X pins σ H s)(r:RelV x v)(ty:RH X.K T x H):s.TypeIs v T/\∀a,v=.ref a->∃j,s.heap.get? a=!j/\j.dict=none:=by cases x with
|str z=>let[t,rfl]:=r;cases ty;exact#[typeIs_str s z t,λ_ e=>nomatch e]|int i=>let[t,rfl]:=r;cases ty;exact#[typeIs_int s i t,λ_ e=>nomatch e]|ref p=>
  cases r;rcases ty with⟨rfl,xs,C⟩|⟨rfl,o,g,J,hd⟩|⟨rfl,g⟩|⟨rfl,S,n,g⟩;.let[l,_,pl,_]:=I.list C;refine#[pl.isList.typeIs,λa e=>?_];cases e;let[o,n,e,c,hd,_]:=pl;exact#[o,e,hd]
  .refine#[#[o,I.kIn p o g,J],λa e=>?_];cases e;exact#[o,I.kIn _ o g,hd]
  .have z:∃o,s.heap.get? p=!o/\o.ExactDict:=by
    rcases g with⟨U,g⟩|⟨U,g⟩;.let[_,_,_,_,o,_,_,e,ex,_]:=I.hok p _ g;exact#[o,e,ex]
    .let[_,_,_,_,o,_,_,e,ex,_]:=I.hok p _ g;exact#[o,e,ex]
   let[o,e,ex]:=z;refine#[#[o,e,ex.1],λa e2=>?_];cases e2;exact#[o,e,ex.2.1]
  .let[o,_,_,_,e,ex,_]:=I.hok p _ g;refine#[#[o,e,ex.1],λa e2=>?_];cases e2;exact#[o,e,ex.2.1]|_=>exact False.elim ty
def  S5(K:Frag)(T:String)(r:V->List V->Hp->VK->Prop)(to:TE)(t:TA):TE:=λσ H Q=>to σ H λx H1=>RH K T x H1/\t σ H1 λxs H2=>r x xs H2 Q
variable{o e:Expr}{es:Ui}{to:TE}{t:TA}{name:Str}{apos cpos:Pos}{T id:String}{r:V->List V->Hp->VK->Prop}
def kl(pa:PlainAttrs T)(slot:Slot T name id)(C:typeOf (.builtin id)=pure (.type "method_descriptor"))(hm:S3 X id r)(ho:PE X o to)(ha:PA X (e::es) t)(l:attributeBase o name X.env (eval o X.env)=eval o X.env:=by rfl)(p:((backTo cpos (starEach (e::es) X.env)).all (λx=>not x.1)&&(backToKw cpos (keywordEach [] X.env)).all (λx=>x.1.isSome)&&decide ((e::es).length+([]:List Keyword).length+(if([]:List Keyword).isEmpty then 0 else 1)<30))=true:=by rfl)(j:(apos.endLine==cpos.line)=true:=by rfl)(hs:starEach (e::es) X.env=(false,eval e X.env)::starEach es X.env:=by rfl)(g:(backTo cpos (starEach es X.env)).any (·.1)=false:=by rfl):PE X (.Call (.Attribute o name apos) (e::es) [] cpos) (S5 X.K T r to t):=by
 intro pins s σ H Q I h;refine wpAny_Call_method_late l p j rfl (bG (ho pins s σ H _ I h) λv s1#[x,H1,I1,J,ty,q1]=>?_);let[h1,h2]:=Io I1 J ty;refine#[T,id,pa,slot,C,h1,h2,?_];have U:=ha cpos pins s1 σ H1 _ I1 q1;rw[hs]at U⊢;exact Calls.callWith_builtin (by show(false||(backTo cpos (starEach es X.env)).any (·.1))=false;rw[g]<;>rfl) (Calls.evalArgs_plain (bG U λus s2#[vs,H2,I2,r2,q2]=>hm pins s2 σ H2 x vs v us Q I2 J r2 q2))
end
def  Ol(X:Cx)(id:String)(r:V->List V->Hp->VK->Prop):Prop:=∀(pins:T5)(s:Shared)(σ:St)(H:Hp)(x:V)(xs:List V)(v:Value)(us:T9)(Q:VK),Inv X pins σ H s->RelV x v->Vals xs us->r x xs H Q->wpAny (!3) X.A (call (.builtin id) (v::us)) (EP X pins σ Q) X.xe s
def Vals.one:∀{x:V}{g:T9},Vals [x] g->∃u,g=[u]/\RelV x u|_,_,.cons r .nil=>#[_,rfl,r]
def Vals.eraseIdx:∀{xs:List V}{us:T9}(i:Nat),Vals xs us->Vals (xs.eraseIdx i) (us.eraseIdx i)
|_,_,_,.nil=>.nil|_,_,0,.cons _ t=>t|_,_,i+1,.cons r t=>.cons r (Vals.eraseIdx i t)
def Vals.reverse(h:Vals xs g):Vals xs.reverse g.reverse:=by induction h with
|nil=>exact .nil|cons r t j=>rw[List.reverse_cons,List.reverse_cons];exact Vals.append j (.cons r .nil)
def Vals.rep{xs:List V}{us:T9}(h:Vals xs us):∀k:Nat,Vals (List.replicate k xs).flatten (List.replicate k us).flatten
|0=>.nil|k+1=>by rw[List.replicate_succ,List.replicate_succ,List.flatten_cons,List.flatten_cons];exact Vals.append h (Vals.rep h k)
def pR{α:Type}:∀(l:List α)(i:Nat),(l.eraseIdx i).length<=l.length
|[],_=>UI _|_::_,0=>Nat.le_succ _|_::r,i+1=>Nat.succ_le_succ (pR r i)
def pS(its:T9):∀(k:Nat)(acc:T9),List.foldl (λx1 x2=>x1++x2) acc.toArray (List.replicate k its.toArray)=(acc++(List.replicate k its).flatten).toArray
|0,acc=>by simp|k+1,acc=>by
  have e:acc.toArray++its.toArray=(acc++its).toArray:=by simp
  have e2:acc++its++(List.replicate k its).flatten=acc++(List.replicate (k+1) its).flatten:=by rw[List.replicate_succ,List.flatten_cons,List.append_assoc]
  rw[<-e2,<-pS its k (acc++its),<-e,List.replicate_succ,List.foldl_cons]
def Inv.lset{its its':T9}(I:Inv X pins σ H s)(hH:H l=!.lst xs)(e:s.heap.get? l=some {cls:=.type "list",data:=.seq its.toArray n})(hf:f its.toArray=its'.toArray)(hv:Vals ys its')(hz:ys.length<=sizeLine):Inv X pins σ (upd H l (.lst ys)) {s with heap:=s.heap.update l (Obj.mapSeq f),toks:=t'}:=by
 have q:=PySem.IsL.update e f;rw[hf]at q;refine I.write (by rw[hH];exact trivial) (.inl rfl) (λb' u hb hu=>(Heap.get?_update_other s.heap _ (Ne.symm hb)).trans hu) #[_,q] ?_;exact#[hz,its',_,hv,q]
def Inv.lnew(I:Inv X pins σ H s)(hv:Vals ys its)(hz:ys.length<=sizeLine):Inv X pins σ (upd H s.heap.objs.size (.lst ys)) {s with heap:=s.heap.push {cls:=.type "list",data:=.seq its.toArray},toks:=t'}:=I.laid (λ_ _ q=>Um _ q) (UI _) #[hz,its,0,hv,Uq _ rfl]
noncomputable def  Inv.fresh(I:Inv X pins σ H s):=I.hok.fresh (UI _)
def Inv.lstM{X:Cx}{pins:T5}{σ:St}{H:Hp}{s:Shared}{l:Addr}{xs:List V}(I:Inv X pins σ H s)(j:H l=!.lst xs):xs.length<=sizeLine/\∃(g:T9)(n:Nat),Vals xs g/\xs.length=g.length/\s.heap.get? l=some {cls:=.type "list",data:=.seq g.toArray n}:=by let[z,g,n,r,e]:=I.hok l _ j;exact#[z,g,n,r,r.length,e]
def sS(h:n<=sizeLine):Builtin.List.listTooLong n=false:=by exact decide_eq_false (by lia)
section
variable{X:Cx}
def  Eg:V->List V->Hp->VK->Prop:=λx vs H Q=>∃l xs y,x=.ref l/\vs=[y]/\H l=!.lst xs/\xs.length<sizeLine/\Q .non (upd H l (.lst (xs++[y])))
def jb:Ol X "list.append" Eg:=by intro pins s σ H x p v t Q I rx rv h;let[l,xs,y,rfl,rfl,j,C,q]:=h;cases rx;let[u,rfl,o]:=rv.one;let[z,g,n,r,J,e]:=I.lstM j;refine call_meets F.slot_list_append #[_,e,rfl] F.entry_list_append (F.args_list_append_2 _ _) (PySem.list_append l g.toArray n u (by rw[size_toArray];lia)) #[e,#[.non,_,I.lset j e (by simp) (r.append (.cons o .nil)) ?_,rfl,q]];rw[length_append,List.length_singleton];lia
def  Ip:V->List V->Hp->VK->Prop:=λx vs H Q=>∃l xs i k y,x=.ref l/\vs=[.int i]/\H l=!.lst xs/\-2^63<=i/\i<2^63/\seqIndex? i xs.length=!k/\xs[k]?=!y/\Q y (upd H l (.lst (xs.eraseIdx k)))
def Ao:Ol X "list.pop" Ip:=by
 intro pins s σ H x vs v us Q I rx rv h;let[l,xs,i,k,y,rfl,rfl,o,h1,h2,U,C,q]:=h;cases rx;let[u,rfl,p]:=rv.one;let[t,rfl]:=p;let[z,g,n,r,T,e]:=I.lstM o;let[w,J,j]:=r.get C;refine call_meets F.slot_list_pop #[_,e,rfl] F.entry_list_pop (F.args_list_pop_2 _ _) (MeetsSeq.list_pop_at l g.toArray n i t k w (fitsIndex_both h1 h2) (by rw[size_toArray,<-T];exact U) (by rw[<-Array.getElem?_toList];exact J) (by rw[size_toArray];lia)) #[e,?_];refine#[y,_,I.lset (its':=g.eraseIdx k) o e ?_ (r.eraseIdx k) ?_,j,q];.show g.toArray.eraseIdxIfInBounds k=(g.eraseIdx k).toArray;rw[List.eraseIdxIfInBounds_toArray]
 .have:=pR xs k;lia
def  Pm:R2:=λx y H Q=>∃l k xs,x=.ref l/\y=.int k/\H l=!.lst xs/\-2^63<=k/\k<2^63/\xs.length*k.toNat<=sizeLine/\∀p,H p=none->Q (.ref p) (upd H p (.lst (List.replicate k.toNat xs).flatten))
def Eh{α:Type}(xs:List α)(k:Nat):(List.replicate k xs).flatten.length=k*xs.length:=by induction k with
|zero=>simp|succ k g=>rw[List.replicate_succ,List.flatten_cons,length_append,g,Nat.succ_mul,Nat.add_comm]
def Iq:OpR X (binaryOp .Mult) Pm:=by
 intro pins s σ H x y v u Q I rx ry h;let[l,k,xs,rfl,rfl,hH,h1,h2,hz,q]:=h;cases rx;let[t,rfl]:=ry;let[z,g,n,r,hl,e]:=I.lstM hH;have p:g.toArray.size*k.toNat<=sizeLine:=by rw[size_toArray,<-hl];exact hz
 have J:¬g.toArray.size*k.toNat>(2^63-1)/8:=by
  have:(sizeLine:Nat)<=(2^63-1)/8:=by decide
  lia
 have C:¬not (Builtin.List.listFitsIndex k)=true:=by rw[fitsIndex_both h1 h2];exact Ur
 have j:¬Builtin.List.listTooLong (g.toArray.size*k.toNat)=true:=by rw[sS p];exact Ur
 have o:List.foldl (λx1 x2=>x1++x2) #[ ] (List.replicate (if g.toArray.isEmpty=true then 0 else k.toNat) g.toArray)=(List.replicate k.toNat g).flatten.toArray:=by
  have f0:∀m:Nat,List.foldl (λx1 x2=>x1++x2) #[ ] (List.replicate m g.toArray)=(List.replicate m g).flatten.toArray:=λm=>by have:=pS g m [];rw[List.nil_append]at this;exact this
  rw[f0];cases g with
|nil=>simp|cons a r'=>rw[if_neg (by simp)]
 refine wpAny_binaryOp_repeat_ref (T:="list") (U:="int") (!2) #[_,e,rfl] (λs'=>typeIs_int s' k t) noFill_list_mul F.fills_int_mul F.slot_int_rmul repeat_list F.slot_int_index.lookup (call_meets F.slot_int_rmul (typeIs_int s k t) F.entry_int_rmul (F.args_int_rmul_2 _ _) (int___rmul___int_list k t l g.toArray n) #[e,rfl,#[_,e,rfl],call_meets F.slot_list_mul #[_,e,rfl] F.entry_list_mul (F.args_list_mul_2 _ _) (AutoListH.list___mul___list_int_3 l g.toArray n k t C J j) #[e,?_]]);rw[o];exact#[.ref _,_,I.lnew (t':=s.toks) (r.rep k.toNat) (by rw[Eh,Nat.mul_comm];exact hz),rfl,q _ I.fresh]
end
section
variable{prog:Program}{w:World}{A:Around}{E:T8}{s:Shared}
set_option maxRecDepth 100000 in
end
end L2
namespace Att
open PySem PySem.W PySem.Calls PyProof.Rows
def mI:∀(g:Ud)(j:T9),WellAll P h j (g.map WData.int)->IntsAre j g:=by intro g;induction g with
|nil=>intro j w;cases w;exact .nil|cons n g l=>intro j w;cases w with|cons a b=>cases a;exact .cons _ _ (l _ b)
def yF{l:OpenLaw}(hn:l.most=!n)(hpre:l.row.toRowW.claim.pre args=true)(hwl:WellAll P h vals args):∃a vs ns,vals=[Value.ref a]/\args=[WData.list (ns.map WData.int)]/\h.get? a=some {cls:=.type "list",data:=.seq vs.toArray}/\IntsAre vs ns/\ns.length<=n:=by
 have hc:l.pre.holds [] {args:=args}=true:=(pre_splitW hpre).2;let[d,r,rfl,h1,h2]:=hasAllW_cons (pre_splitW hpre).1;obtain rfl:=hasAllW_nil h2;let[xs,rfl,h3]:=hasW_list h1;let[ns,rfl]:=items_int h3;have hlen:ns.length<=n:=by
  have h4:(WTm.not (.lt (.lit (.int (n:Int))) (.len (.arg 0)))).holds [] {args:=[.list (ns.map .int)]}=true:=by have h4:=(holds_andW hc).1;rw[hn]at h4;exact h4
  have h5:=condW_of h4 (w_not (w_lt w_lit (w_len_list (w_arg rfl))));refine Nat.le_of_not_lt λq=>?_;first
|(rw[decide_eq_true q']at h5;exact absurd h5 !2)|(simp at h5;lia)
 cases hwl with|cons w1 w2=>cases w2;cases w1 with|list ho hall=>exact#[_,_,ns,rfl,rfl,ho,mI ns _ hall,hlen]
def yG(l:OpenLaw)(args:List WData):l.row.toRowW.claim.post args (.bool true) args=true:=postW_of (by first|rfl|decide|simp[WShape.has,WShape.arms,WShape.armsAll]) (w_eq_bool (w_res rfl) w_lit) rfl
def attach_call{l:OpenLaw}(hn:l.most=!n)(hdf:d.params.defaults=[])(call:∀(w:World)(s₀ s₁:Shared)(mg mb:Str->Ua)(fa:Addr)(o:Obj)(pm cd doc:Value)(a:Addr)(vs:T9)(ns:Ud),Ground q loose [] XP w s₀ mg mb s₁.heap->YP w s₁.heap->s₁.heap.get? fa=!o->o.data=.func (docDef d.name d.params d.body d.scope pm cd doc)->s₁.heap.CodeRec cd d.name->mg d.name=!.ref fa->s₁.heap.get? a=some {cls:=.type "list",data:=.seq vs.toArray}->IntsAre vs ns->ns.length<=n->s₁.gens=#[ ]->codeAny (model l.prog w) callerA (.call (.ref fa) #[[.ref a],[]]) (λr s'=>r=.ok (.ret (.bool true))/\OldK s₁.heap s'.heap/\s'.os=s₁.os/\AllBare s'.gens) s₁):WalkO q loose XP YP l.row.toRowW d [] λf vs=>PySem.call f vs:=by
 intro w s₀ s₁ mg mb G ρ fa o pm cd doc dV kV ho hd hcd hD hmg hg args vals as hpre hlay hrd hwl hlo;obtain rfl:dV=.none:=Dflts.none hD hdf;obtain rfl:kV=.none:=Dflts.noKw hD;let[a,vs,ns,rfl,rfl,hobj,hints,hlen]:=yF hn hpre hwl;refine enter_call (codeAny_mono (call w s₀ s₁ mg mb fa o pm cd doc a vs ns G ρ ho (fd_plain hd) hcd hmg hobj hints hlen hg) λr s' hq=>?_);let[rfl,h2,h3,h4]:=hq;exact#[.inl #[.bool true,.bool true,[],rfl,λ_=>rfl,.bool true,yG l _,λ_=>#[List.Pairwise.nil,λ_ hm=>nomatch hm]],h2,h3,h4]
end Att
namespace L2
open PySem PySem.Spec PyProof.Rows
def pT:∀{vs:T9}{ns:Ud},IntsAre vs ns->Vals (ns.map V.int) vs
|_,_,.nil=>.nil|_,_,.cons n t h=>.cons #[t,rfl] (pT h)
def  Pn(H:Hp):Prop:=∀b,H b=none\/∃o xs,H b=!.frz o (.lst xs)
def  dN(H:Hp):Hp:=λb=>match lamTabs.lookup b with
|some z=>!.cod #[ ] z.1 z.2|none=>H b
def iw(h:lamTabs.lookup b=none):dN H b=H b:=by unfold dN;rw[h]
def withT_yes(h:lamTabs.lookup b=!z):dN H b=!.cod #[ ] z.1 z.2:=by unfold dN;rw[h]
def  qO(K:Frag)(h:Heap):Prop:=∀b z,lamTabs.lookup b=!z->h.get? b=some {cls:=.none,data:=.fields #[ ]}/\K.lookup b=none/\isCodeTable h b
def Ap{K}(hT:qO K g.heap)(KX:K.In g.heap)(hns:g.heap.Ns mainGlobals mg)(p:g.heap.Ns builtinsNs mb)(hbb:∀x:Str,x≠"__name__"->mb x=bootBuiltins x)(hlim:g.heap.NoLimit)(hg:g.gens=#[ ])(ha:g.heap.get? a=some {cls:=.type "list",data:=.seq C.toArray})(hi:IntsAre C ns)(hl:ns.length<=sizeLine)(hr:Room k callerA)(F:∀base:Heap,K.In base->base.Ns mainGlobals mg->FnOk P w K mg base CX k fa fd [x] sp)(U:∀(s:Shared)(u:Value),BindsTo s fd #[[u],[]] [(x,u)])(hsp:∀H:Hp,SqL K H a (ns.map V.int)->sp [.ref a] H (λv _=>v=.bl true) λ_ _ _=>False)(hCX:∀H e s',CX [] H g (λ_ _ _=>False) e s'->False):codeAny (model P w) callerA (.call (.ref fa) #[[.ref a],[]]) (λr s'=>r=.ok (.ret (.bool true))/\OldK g.heap s'.heap/\s'.os=g.os/\AllBare s'.gens) g:=by
 have rv:=pT hi;have lenV:=hi.length;have core:∀H:Hp,Pn H->SqL K H a (ns.map V.int)->HOk P w H g.heap->(∀b,H b≠none->b=a)->(H a≠none->K.lookup a=none)->codeAny (model P w) callerA (.call (.ref fa) #[[.ref a],[]]) (λr s'=>r=.ok (.ret (.bool true))/\OldK g.heap s'.heap/\s'.os=g.os/\AllBare s'.gens) g:=by
  intro l hO hS0 hok0 hA0 hK;have hTa:lamTabs.lookup a=none:=by cases q:lamTabs.lookup a with
|none=>rfl|some z=>
    have e:=(hT a z q).1;rw[ha]at e;cases e
  have up:∀b o,l b=!o->dN l b=!o:=λb o e=>by rw[iw (by rw[hA0 b (by rw[e];simp)];exact hTa)];exact e
  have hA:∀b,dN l b≠none->b=a\/∃z,lamTabs.lookup b=!z:=λb h=>by cases q:lamTabs.lookup b with
|some z=>exact .inr #[z,rfl]|none=>rw[iw q]at h;exact .inl (hA0 b h)
  have hS:=SqL.up up hS0;have hok:HOk P w (dN l) g.heap:=λb o e=>by cases q:lamTabs.lookup b with
|some z=>
    rw[withT_yes q]at e;cases e;exact .inl (hT b z q).1|none=>
    rw[iw q]at e;exact(hok0 b o e).stay (λ_ _ _ z=>z) (λc z=>up _ _ z) (λc xs z=>up _ _ z) λc o' u' z=>up _ _ z
  have j:∀{b:Addr}{o:Obj},g.heap.get? b=!o->dN l b=none->(sG g.heap _).get? b=!o:=λe n=>zR e n;have noA:∀{b:Addr}{o:Obj}{es:Array DictEntry}{ep:Nat},g.heap.get? b=!o->o.data=.dict es ep->dN l b=none:=λ{b o es ep}e d=>by cases q:dN l b with
|none=>rfl|some u=>
    rcases hA b (by rw[q];simp)with e'|⟨z,e'⟩
    .subst e';rw[ha]at e;cases e;have d':=d;cases d'
    .rw[(hT b z e').1]at e;cases e;have d':=d;cases d'
  have t:∀{b:Addr}{m:Str->Ua},g.heap.Ns b m->(sG g.heap (dN l)).Ns b m:=λ{b m}#[o,es,ep,e,d,r]=>#[o,es,ep,j e (noA e d),d,r];have hKb:K.In (sG g.heap (dN l)):=λb o e=>j (KX b o e) (by cases q:dN l b with
|none=>rfl|some u=>
    rcases hA b (by rw[q];simp)with e'|⟨z,e'⟩
    .subst e';rw[hK (by rw[iw hTa]at q;rw[q];simp)]at e;cases e
    .rw[(hT b z e').2.1]at e;cases e);have hM:Mod K mg (sG g.heap (dN l)):=#[hKb,t hns,#[mb,t p,hbb],let#[mc,h1,h2]:=hlim;#[mc,t h1,h2]];have e0:Env0 P w K mg (sG g.heap (dN l)) callerA [] g (dN l):=#[rfl,hM,λb o e=>D1 e,Nat.le_of_eq ((λh H=>PySem.W.hideAll_size _ _) _ _),trivial,#[λb p=>absurd (show b∈([]:List Addr)from p) (by simp),λb z q=>withT_yes q],hok,.of_eq hg];refine codeAny_mono ((F _ hKb (t hns)).run callerA [] g _ #[[.ref a],[]] [.ref a] [.ref a] _ _ hr e0 (U g _) (.cons rfl .nil) (hsp _ hS)) λr s' h=>?_;cases r with
|error e=>exact(hCX _ e s' h).elim|ok fl=>cases fl with
|next=>exact False.elim h|brk=>exact False.elim h|cont=>exact False.elim h|ret u=>
    let[v,H',os,bare,un,T,r',q]:=h;have q':=q;subst q';obtain rfl:u=Value.bool true:=r';have I:∀b o,g.heap.get? b=!o->s'.heap.get? b=!o\/isCodeTable g.heap b/\o.cls=.none/\∃C more,o.data=.fields C/\s'.heap.get? b=some {o with data:=.fields (C++more)}:=λb o e=>by cases q:dN l b with
|none=>exact .inl (un.keep b o e q (by intro z;exact absurd (show b∈([]:List Addr)from z) (by simp)) (by simp))|some u=>cases qt:lamTabs.lookup b with
|some z=>
       have z2:=un.frzs b (.cod #[ ] z.1 z.2) True.intro (withT_yes qt);let[g1,g2,g3]:=hT b z qt;rw[e]at g1;cases g1;rcases T b _ z2 with y|⟨_,_,_,_,y,_⟩;.exact .inl y
       .exact .inr #[g3,rfl,_,_,rfl,y]|none=>
       rw[iw qt]at q;rcases hO b with z|⟨ob,xs,z⟩;.rw[q]at z;cases z
       .let[e1,_]:=hok b _ (up _ _ z);let[e2,_]:=T b _ (un.frzs b (.frz ob _) True.intro (up _ _ z));rw[e]at e1;cases e1;exact .inl e2
    refine#[rfl,#[λb o e=>?_,λb o e=>?_],os,bare]
    .rcases I b o e with y|⟨y1,y2,vs',more,y3,y4⟩;.exact .inl y
     .exact .inr (.inl #[y1,y2,vs',more,y3,y4])
    .rcases I b o e with y|⟨_,_,_,_,_,y4⟩;.exact#[_,y]
     .exact#[_,y4]
 cases hk:K.lookup a with
|some o=>
  have e:=KX a o hk;rw[ha]at e;cases e;refine core (λ_=>none) (λ_=>.inl rfl) (.inr #[_,C.toArray,_,hk,rfl,rfl,rfl,by rw[size_toArray,lenV];exact hl,by simpa using rv]) (λb u z=>by have z':(none:Option HO)=!u:=z;cases z') (λb z=>absurd rfl z) λz=>absurd rfl z|none=>
  refine core (λb=>if b=a then !.frz {cls:=.type "list",data:=.seq C.toArray} (.lst _)else none) (λb=>?_) (.inl (.inr #[{cls:=.type "list",data:=.seq C.toArray},if_pos rfl])) (λb u z=>?_) (λb z=>?_) λ_=>hk
  .by_cases p:b=a;.exact .inr #[_,_,if_pos p]
   .exact .inl (if_neg p)
  .by_cases p:b=a
   .have z':=(if_pos p).symm.trans z;cases z';subst p;exact#[ha,by rw[length_map];exact hl,C,_,rv,ha]
   .have z':=(if_neg p).symm.trans z;cases z'
  .by_cases p:b=a;.exact p
   .exact absurd (if_neg p) z
def walk_of{l:PySem.W.OpenLaw}{K:Params->Frag}{CX:World->Il}{sp:World->Sp}(hn:l.most=!n)(U:n<=sizeLine)(hdf:d.params.defaults=[])(hr:Room k callerA)(hY:∀(w:World)(h:Heap),YP w h->(K w.params).In h)(hT:∀(w:World)(h:Heap),YP w h->qO (K w.params) h)(F:∀(w:World)(mg:Str->Ua)(fa:Addr)(h:Heap),(K w.params).In h->h.Ns mainGlobals mg->mg d.name=!.ref fa->∃fd:FuncData,(∀(s:Shared)(u:Value),BindsTo s fd #[[u],[]] [(x,u)])/\∀base:Heap,(K w.params).In base->base.Ns mainGlobals mg->FnOk l.prog w (K w.params) mg base (CX w) k fa fd [x] (sp w))(I:∀(w:World)(H:Hp)(a:Addr)(C:Ud),C.length<=n->SqL (K w.params) H a (C.map V.int)->sp w [.ref a] H (λv _=>v=.bl true) λ_ _ _=>False)(hCX:∀(w:World)(H:Hp)(s:Shared)(e:Value)(s':Shared),CX w [] H s (λ_ _ _=>False) e s'->False):PySem.W.WalkO q J XP YP l.row.toRowW d [] λf vs=>PySem.call f vs:=by
 refine Att.attach_call hn hdf λw s₀ r mg mb fa o pm cd doc a vs C G ρ ho hd hcd hmg t p j hg=>?_;have KX:=hY w _ ρ;let[fd,hb,hF]:=F w mg fa _ KX G.T.g hmg;exact Ap (hT w _ ρ) KX G.T.g G.T.b G.T.builtins G.T.nolimit hg t p (Uy j U) hr hF hb (λH hS=>I w H a C j hS) λH e s'=>hCX w H r e s'
noncomputable abbrev qP:Il:=λ_ _ _ _ _ _=>False
noncomputable abbrev E0:XK:=λ_ _ _=>False
def sT:lF qP X E0:=λ_ _ _ _ _ _ _ h=>h.elim
structure Fun(K:Frag)(x qual:Str)(st:Stmt)(f:Addr)(fd:FuncData):Prop where
 ex:∃(oc:Value)(od:Option Addr)(kV doc pm:Value)(an:Option Addr)(cdv ct:Value)(osl:Array Ua),fd=PySem.W.fnOf x qual (b7 st) (aL st) (ao st) .none kV doc pm an cdv ct/\K.lookup f=!#[oc,od,.func fd,osl]/\PySem.W.codeIn K cdv qual=true
 kp:PySem.W.keepIn K (.ref f)=true
section
variable{P:Program}{w:World}{K:Frag}{mg:Str->Ua}{base:Heap}
def Fun.ok{st}(F:Fun K x l st f fd)(S:FnScope N ps (ao st))(len:∀o H Q E,sp o H Q E->o.length=ps.length)(p:∀(j:Value)(A:Around)(g:List Env)(s:Shared)(H:Hp)(o:List V)(Q:VK)(E:XK),Room k (A.deeper (envOfC l (ao st) s.heap.objs.size f j))->sp o H Q E->∃t,PSs (oT qP P w K mg base N l (ao st) f j A g s H E).nox (aL st) t/\t {nx:=λ_ H'=>Q .non H',rt:=Q} (ki N o) H):FnOk P w K mg base qP (k+1) f fd ps sp:=by
 let[oc,od,kV,U,pm,an,j,ct,I,rfl,J,C]:=F.ex;refine GR J C S len λA g s H o Q E T r=>?_;let[t,h,q]:=p j A g s H o Q E T r;exact#[t,h.nox,q]
def Fun.binds{st}(F:Fun K x l st f fd)(h:∀(kV g pm:Value)(p:Option Addr)(j ct:Value)(o:T9),o.length=ps.length->bindArgs (PySem.W.fnOf x l (b7 st) (aL st) (ao st) .none kV g pm p j ct) #[o,[]]=pure (ps.zip o)):Binds K fd ps []:=by let[I,C,kV,g,pm,p,j,ct,r,rfl,J,t]:=F.ex;exact .all (h kV g pm p j ct)
def nn{st}{kV o pm j ct}(l:K.lookup f=!#[C,t,.func (PySem.W.fnOf x g (b7 st) (aL st) (ao st) .none kV o pm r j ct),p])(c:PySem.W.codeIn K j g=true)(k:PySem.W.keepIn K (.ref f)=true):Fun K x g st f (PySem.W.fnOf x g (b7 st) (aL st) (ao st) .none kV o pm r j ct):=#[#[C,t,kV,o,pm,r,j,ct,p,rfl,l,c],k]
end
def Ir{A B:Prop}(h:B):if false=true then A else B:=by exact h
def Iu{A B:Prop}(h:A):if true=true then A else B:=by exact h
def  Same(H H':Hp):Prop:=∀b o,H b=!o->H' b=!o
def Same.refl(H:Hp):Same H H:=λ_ _ h=>h
def Same.trans(a:Same H H1)(b:Same H1 H2):Same H H2:=λc o h=>b c o (a c o h)
def Same.free(e:Same H H')(h:H' l=Option.none):H l=Option.none:=by cases q:H l with
|none=>rfl|some o=>rw[e l o q]at h;cases h
def Same.seq{K}(e:Same H H')(h:SqL K H a xs):SqL K H' a xs:=by
 rcases h with(h|⟨o,h⟩)|h;.exact .inl (.inl (e _ _ h))
 .exact .inl (.inr #[o,e _ _ h])
 .exact .inr h
def PE.imp(h:PE X e t)(k:∀σ H Q,g σ H Q->t σ H Q):PE X e g:=λpins s σ H Q I q=>h pins s σ H Q I (k _ _ _ q)
def PT.imp(h:PT X e t)(k:∀σ H Q,g σ H Q->t σ H Q):PT X e g:=λpins s σ H Q I q=>h pins s σ H Q I (k _ _ _ q)
def PA.imp(h:PA X e t)(k:∀σ H Q,g σ H Q->t σ H Q):PA X e g:=λpos pins s σ H Q I q=>h pos pins s σ H Q I (k _ _ _ q)
def PS.imp{st}(h:PS X st t)(k:∀D σ H,g D σ H->t D σ H):PS X st g:=λpins s σ H D I q=>h pins s σ H D I (k _ _ _ q)
def PSs.imp{st}(h:PSs X st t)(k:∀D σ H,g D σ H->t D σ H):PSs X st g:=λpins s σ H D I q=>h pins s σ H D I (k _ _ _ q)
def PI.imp(h:PI X tg iter t)(k:∀σ H R,g σ H R->t σ H R):PI X tg iter g:=λpins s σ H R I q=>h pins s σ H R I (k _ _ _ q)
def PG.imp(h:PG X tg t)(k:∀v σ H Q,g v σ H Q->t v σ H Q):PG X tg g:=λpins s σ H v u Q I r q=>h pins s σ H v u Q I r (k _ _ _ _ q)
def mj{α β:Type}{f:α->β->Sem (ForInStep β)}{g}:∀(l:List α)(c:β),(∀x∈l,∀c,f x c=pure (.yield (g c x)))->forIn l c f=pure (l.foldl g c)
|[],_,_=>rfl|x::l,c,h=>by rw[List.forIn_cons,h x mem_cons_self,pure_bind];exact mj l _ λy hy=>h y (Uu _ hy)
noncomputable def  fJ(env:Env)(cs:List (Str×Addr))(x:Str×NameKind):List (Str×Addr):=if x.2==.free then(x.1,(env.cells.lookup x.1).getD 0)::cs else cs
abbrev qQ(env:Env)(scope:Scope):List (Str×Addr):=scope.names.foldl (fJ env) []
def iA(h:(k==NameKind.free)=true):k=.free:=by grind
def np(h:∀y∈scope.names,y.2=.free->∃c,env.cells.lookup y.1=!c):closureFor scope env=pure (qQ env scope):=by
 simp only[closureFor];rw[mj (g:=fJ env) scope.names [] λx j c=>by let[n,k]:=x;unfold fJ;cases l:k==NameKind.free with
|false=>simp|true=>let[a,e]:=h (n,k) j (iA l);simp[cellOf,e]];rfl
def eN:∀(l:List (Str×NameKind))(cs:List (Str×Addr)),(∀x c,cs.lookup x=!c->env.cells.lookup x=!c)->(∀y∈l,y.2=.free->∃c,env.cells.lookup y.1=!c)->∀x c,(l.foldl (fJ env) cs).lookup x=!c->env.cells.lookup x=!c
|[],_,h,_,x,c,e=>h x c e|(n,k)::l,cs,h,hl,x,c,e=>by refine eN l (fJ env cs (n,k)) (λy d q=>?_) (λy hy=>hl y (Uu _ hy)) x c e;unfold fJ at q;cases hk:k==NameKind.free with
|false=>rw[hk]at q;exact h y d (by simpa using q)|true=>rw[hk]at q;let[a,ea]:=hl (n,k) Ut (iA hk);have ea':env.cells.lookup n=!a:=ea;simp only[if_true,List.lookup_cons,ea',Option.getD_some]at q;cases hy:y==n with
|true=>
    rw[hy]at q;have hyn:y=n:=by simpa using hy
    rw[hyn,ea'];exact q|false=>rw[hy]at q;exact h y d q
def jZ:∀(l:List (Str×NameKind))(cs:List (Str×Addr))(x:Str),(x,NameKind.free)∈l\/(cs.lookup x).isSome=true->((l.foldl (fJ env) cs).lookup x).isSome=true
|[],_,_,h=>by
  rcases h with h|h;.cases h
  .exact h|(n,k)::l,cs,x,h=>by
  refine jZ l (fJ env cs (n,k)) x ?_;rcases h with h|h
  .rcases mem_cons.mp h with e|h;.cases e;refine .inr ?_;unfold fJ;simp
   .exact .inl h
  .refine .inr ?_;unfold fJ;split
   .rw[List.lookup_cons];split;.rfl
    .exact h
   .exact h
def nq(h:(relabel scope env).names.lookup x=!k):∃g,(x,g)∈scope.names/\(g=k\/g=.free/\k=.cell):=by
 have h':(scope.names.map λ(n,k)=>if k==NameKind.free&&env.scope.kind==.function&&env.kindOf n==some .cell then(n,NameKind.cell)else(n,k)).lookup x=!k:=h;let[[n,g],o,e]:=UA.mp (PySem.mem_of_lookup h');by_cases j:(g==NameKind.free&&env.scope.kind==.function&&env.kindOf n==some .cell)=true
 .have l:(n,NameKind.cell)=(x,k):=by have:=e;simp only[j,if_true]at this;exact this
  cases l;have p:=iA (by rw[and_eq_true,and_eq_true]at j;exact j.1.1);exact#[g,o,.inr #[p,rfl]]
 .have l:(n,g)=(x,k):=by have:=e;simp only[j]at this;exact this
  cases l;exact#[_,o,.inl rfl]
def  pU(X:Cx)(scope:Scope)(C:Addr)(s:Shared)(H:Hp)(fp:List Addr):Cx where
 prog:=X.prog;w:=X.w;K:=X.K;mg:=X.mg;base:=X.base;A:=X.A;N:=X.N;s₀:=s;H₀:=H;env:=compEnvC scope (qQ X.env scope) C X.env;outer:=X.stack;stack:=X.stack;ex:=fp;fn:=λ_=>false;calm:=X.calm;pn:=[];xe:=λ_ _=>False
structure CSc(X:Cx)(scope:Scope)(ks:Ub):Prop where
 kind:scope.kind=.function
 nocell:∀y∈scope.names,y.2≠.cell
 names:∀y∈scope.names,y.2=.local->scope.names.lookup y.1=some .local
 free:∀y∈scope.names,y.2=.free->X.env.scope.names.lookup y.1=some .cell\/X.env.scope.names.lookup y.1=some .free
 own:∀(i:Nat)(x:Str),X.N[i]?=!x->scope.names.lookup x=some .local->i∈ks
noncomputable def  gv{α:Type}(ks:Ub)(σ:List (Option α)):List (Option α):=ks.foldl (λσ k=>σ.set k none) σ
def km:∀(ks:Ub)(σ:List (Option α)),(gv ks σ).length=σ.length
|[],_=>rfl|k::ks,σ=>by show(gv ks (σ.set k none)).length=_;rw[km ks];simp
def nr:∀(ks:Ub)(σ:List (Option α))(i:Nat)(v:α),(gv ks σ)[i]?=!!v->σ[i]?=!!v/\i∉ks
|[],_,_,_,h=>#[h,by simp]|k::ks,σ,i,v,h=>by
  let[h1,h2]:=nr ks (σ.set k none) i v h;by_cases hk:k=i;.subst hk;rw[List.getElem?_set]at h1;simp only[if_true]at h1;split at h1<;>simp at h1
  .rw[List.getElem?_set_ne hk]at h1;exact#[h1,by simp[h2,Ne.symm hk]]
def sU:∀(ks:Ub)(σ:List (Option α))(i:Nat)(v:α),σ[i]?=!!v->i∉ks->(gv ks σ)[i]?=!!v
|[],_,_,_,h,_=>h|k::ks,σ,i,v,h,hn=>by refine sU ks (σ.set k none) i v ?_ λz=>hn (Uu _ z);rw[List.getElem?_set_ne λz=>hn (by simp[z])];exact h
section
variable{X:Cx}{pins:T5}{σ:St}{H:Hp}{s:Shared}{fp:List Addr}{scope:Scope}{ks:Ub}{C D:Addr}
def Inv.cells_of(I:Inv X pins σ H s)(S:CSc X scope ks):∀y∈scope.names,y.2=.free->∃c,X.env.cells.lookup y.1=!c:=λy g j=>I.ok.has y.1 (S.free y g j)
def ve(I:Inv X pins σ H s)(S:CSc X scope ks)(l:∀b∈fp,jW X pins H b)(p:∀b∈fp,b<s.heap.objs.size)(t:s.heap.objs.size<=C):(!18).Ok where
 mod:=I.ok.mod;kind:=S.kind;glob:=I.ok.glob;blt:=I.ok.blt;above:=t;inj:=λx y c h1 h2=>I.ok.inj x y c (eN _ [] (λ_ _ z=>nomatch z) (I.cells_of S) x c h1) (eN _ [] (λ_ _ z=>nomatch z) (I.cells_of S) y c h2);has:=λx T=>by
  have q:∃k,(relabel scope X.env).names.lookup x=!k/\(k=.cell\/k=.free):=by
   rcases T with h|h;.exact#[_,h,.inl rfl]
   .exact#[_,h,.inr rfl]
  let[k,hk,hc]:=q;let[J,r,h0]:=nq hk;have g:J=.free:=by
   rcases h0 with rfl|⟨h,_⟩
   .rcases hc with z|z;.exact absurd z (S.nocell _ r)
    .exact z
   .exact h
  subst g;exact Option.isSome_iff_exists.mp (jZ scope.names [] x (.inl r))
 cab:=λ_ _ z=>absurd z Ur;hd:=I.ok.hd;frames:=I.ok.frames;stk:=.inl rfl;exf:=λb j=>#[Uz (Uw (p b j) t),λx c e=>(l b j).2.2.2.2.1 x c (eN _ [] (λ_ _ z=>nomatch z) (I.cells_of S) x c e)];bs:=I.bs;bsz:=Uy I.ok.bsz I.sz;noex:=λb o e j=>by
  rcases(l b j).2.2.2.1 with z|z;.exact I.ok.noex b o e z
  .exact absurd (Uw (Uw (Up e) I.ok.bsz) z) (UE _)
 exfs:=λb j U=>by
  rcases mem_cons.mp (I.stkSub b U)with z|z;.exact(l b j).2.1 z
  .exact(l b j).2.2.1 z
 funs:=I.stack;frf:=#[I.stkFree,I.tab]
def yH{g:T9}(I:Inv X pins σ H s)(S:CSc X scope ks)(hf:∀b∈fp,jW X pins H b)(hlt:∀b∈fp,b<s.heap.objs.size)(hD:s.heap.objs.size<=D)(hC:s.heap.objs.size<=C)(hDC:D≠C)(old:∀b o,s.heap.get? b=!o->j.get? b=!o)(hns:j.Ns C m)(hacc:j.get? D=some {cls:=.type "list",data:=.seq g.toArray n}):Inv (!18) [(D,{cls:=.type "list",data:=.seq g.toArray n})] (gv ks σ) H {s with heap:=j,toks:=tk}:=by
 have cs:=eN scope.names [] (λ_ _ z=>nomatch z) (I.cells_of S);refine#[ve I S hf hlt hC,rfl,I.bare,Un.kept old,#[m,hns,λi x v hN hσ hv=>?_],λx c e=>?_,I.hok.fresh hC,λx c e=>I.freeC x c (cs x c e),λp hp=>?_,I.hok.kept old,?_]
 .let[h1,h2]:=nr ks σ i v hσ;have hv':∃k,(relabel scope X.env).names.lookup x=!k/\(k=.local\/k=.cell\/k=.free):=by
   rcases hv with h|h|h;.exact#[_,h,.inl rfl]
   .exact#[_,h,.inr (.inl rfl)]
   .exact#[_,h,.inr (.inr rfl)]
  let[k,hk,hkk]:=hv';let[k0,hm,h0]:=nq hk;have J:k0=.free:=by
   rcases h0 with e|⟨h,_⟩
   .subst e;rcases hkk with z|z|z;.exact absurd (S.own i x hN (S.names _ hm z)) h2
    .exact absurd z (S.nocell _ hm)
    .exact z
   .exact h
  subst J;have hX:=S.free _ hm rfl;let[m0,hn0,hl0]:=I.loc;let[u,r,l]:=hl0 i x v hN h1 (by rcases hX with z|z;exact .inr (.inl z);exact .inr (.inr z));refine#[u,r,.inr #[?_,?_]]
  .have hk2:k=.cell\/k=.free:=by
    rcases h0 with e|⟨_,e⟩;.exact .inr e.symm
    .exact .inl e
   rcases hk2 with e|e;.subst e;exact .inl hk
   .subst e;exact .inr hk
  .rcases l with⟨U,_⟩|⟨_,c,ec,T⟩
   .have t:X.env.scope.names.lookup x=some .local:=U;rcases hX with z|z;.rw[t]at z;cases z
    .rw[t]at z;cases z
   .let[c',ec']:=Option.isSome_iff_exists.mp (jZ scope.names [] x (.inl hm));have e2:=cs x c' ec';rw[ec]at e2;cases e2;let[o,ho,hd]:=T;exact#[c,ec',o,old c o ho,hd]
 .let[v,o,ho,hd]:=I.cell x c (cs x c e);exact#[v,o,old c o ho,hd]
 .have e:p=(D,{cls:=.type "list",data:=.seq g.toArray n}):=by have hp':p∈[]++[(D,({cls:=.type "list",data:=.seq g.toArray n}:Obj))]:=hp;simpa using hp'
  subst e;refine#[hacc,I.hok.fresh hD,hDC,λhb=>?_,λv z=>?_]
  .rcases mem_cons.mp (I.stkSub D hb)with z|z;.exact absurd (Uw I.lt hD) (by rw[z];exact UE _)
   .exact I.nofs hD z
  .have z':Data.seq g.toArray n=Data.cell v:=z;cases z'
 .show(gv ks σ).length=X.N.length;rw[km];exact I.len
def HOk.adopt(x:HOk P w H h)(g:H a=none)(new:ObjOk P w (upd H a o) h a o):HOk P w (upd H a o) h:=λb u q=>by
 by_cases j:b=a;.subst j;rw[ah]at q;cases q;exact new
 .rw[af j]at q;refine(x b u q).stay (λ_ _ _ z=>z) (λc z=>?_) (λc xs z=>?_) λc o' l z=>?_;.rw[af (aq z g)];exact z
  .rw[af (aq z g)];exact z
  .rw[af (aq z g)];exact z
def Ei{p:St}(I:Inv X pins σ H s)(J:Inv (!18) pl p H' s')(U:∀b∈fp,jW X pins H b)(hD:s.heap.objs.size<=D)(g:H' D=none)(l:s'.heap.get? D=some {cls:=.type "list",data:=.seq j.toArray n})(r:Vals ys j)(t:ys.length<=sizeLine):Inv X pins σ (upd H' D (.lst ys)) s':=by
 have B:=J.base;refine I.call' J.os #[B.keep,B.slot,λb o e q T=>?_,B.there,λb xs q=>?_,λb o u q=>?_,λb ps q=>?_] (J.hok.adopt g #[t,j,n,r,l]) J.bare λb hb=>?_;.rw[af ((λb o e=>Nat.ne_of_lt (lt_of_lt_of_le (Heap.lt_size e) hD)) b o e)];exact B.free b o e q T
 .have z:=B.tups b xs q;rw[af (aq z g)];exact z
 .have z:=B.frzs b o u q;rw[af (aq z g)];exact z
 .let[more,z]:=B.tbls b ps q;exact#[more,by rw[af (aq z g)];exact z]
 .let[_,f1,_,f3,f4,f5]:=U b hb;exact#[f3,f1,f4,f5]
end
def  PTs(X:Cx)(ifs:Ui)(t:TT):Prop:=∀(pins:T5)(s:Shared)(σ:St)(H:Hp)(Q:Bool->Hp->Prop),Inv X pins σ H s->t σ H Q->wpAny (!3) X.A (forIn ifs true λc r=>if r=true then do let ok<-isTrue c X.env (eval c X.env);pure (ForInStep.yield ok)else pure (ForInStep.yield r)) (TP X pins σ Q) X.xe s
def  Po:TT:=λ_ H Q=>Q true H
def pts_nil:PTs X [] Po:=λ_ _ _ H _ I h=>wpAny_tests_nil #[H,I,h]
def Ej(h:PT X c t):PTs X [c] t:=λpins s σ H Q I q=>wpAny_tests_one (h pins s σ H Q I q)
def vf{prog:Program}{w:World}{A:Around}{R:Result->Shared->Prop}(I:Nat->Shared->Prop)(g:∀n s,I n s->wpAny (!7) A (pyNext p) (λr o=>match r with
|none=>R (.ok .next) o|some v=>wpAny (!7) A (letOwnedTupleGo tg p v) (λ_ J=>wpAny (!7) A (assign tg env v) (λ_ C=>wpAny (!7) A (forIn ifs true λc r=>if r=true then do let ok<-isTrue c env (eval c env);pure (ForInStep.yield ok)else pure (ForInStep.yield r)) (λok l=>if ok=true then wpAny (!7) A (eval elt env) (λx s5=>wpAny (!7) A (call (.builtin "list.append") [j,x]) (λ_ t=>∃m,m<n/\I m t) (λ_ _=>False) s5) (λ_ _=>False) l else∃m,m<n/\I m l) (λ_ _=>False) C) (λ_ _=>False) J) (λ_ _=>False) o) (λ_ _=>False) s)(n:Nat)(h:I n s):codeAny (!7) A (.compLoop (!12) 0 p j env) R s:=by
 refine codeAny_loop rfl I (λk s' U=>?_) n h;show wpAny _ A ((compTurn (!12) 0 p j env).onRaise λx=>do noteFrame x env;theTreesLotGoes x) _ _ s';refine wpAny_noted ?_;rw[compTurn_list];refine Ul (wpAny_standAt (Ul (UJ (g k s' U) (λr o h1=>?_) λ_ _ z=>z.elim)));cases r with
|none=>exact Uo h1|some v=>refine Ul (UJ h1 (λ_ J h2=>Ul (UJ h2 (λ_ C h3=>Ul (UJ h3 (λok l T=>?_) λ_ _ z=>z.elim)) λ_ _ z=>z.elim)) λ_ _ z=>z.elim);cases ok with
|false=>exact Uo #[rfl,T]|true=>exact Ul (Ul (UJ T (λx s5 h5=>Ul (UJ h5 (λ_ t h6=>Uo (Uo #[rfl,h6])) λ_ _ z=>z.elim)) λ_ _ z=>z.elim))
def  Pp(σ σ':St):Prop:=σ'.length=σ.length/\∀(i:Nat)(v:V),σ[i]?=!!v->σ'[i]?=!!v
def  GU(J:It)(ks:Ub)(g:TG)(tt:TT)(te:TE)(σ:St)(Fin:List V->Hp->Prop)(W:Nat->Nat->List V->Hp->Prop):Prop:=∀i m ys H2,W i m ys H2->J.stop i H2/\ys.length<=sizeLine/\Fin ys H2\/J.go i H2/\ys.length<sizeLine/\∀x H3,J.yld i H2 x H3->g x (gv ks σ) H3 λσ4 H4=>Pp (gv ks σ) σ4/\tt σ4 H4 λc H5=>if c=true then te σ4 H5 λy H6=>∃m',m'<m/\W (i+1) m' (ys++[y]) H6 else∃m',m'<m/\W (i+1) m' ys H5
def  sV(wi:TI)(ks:Ub)(g:TG)(tt:TT)(te:TE):TE:=λσ H Q=>wi σ H λJ H1=>∃W:Nat->Nat->List V->Hp->Prop,(∃m,W 0 m [] H1)/\GU J ks g tt te σ (λys H2=>∀p,H2 p=none->Q (.ref p) (upd H2 p (.lst ys))) W
section
variable{X:Cx}{scope:Scope}{ks:Ub}{tg elt iter:Expr}{ifs:Ui}{g:TG}{tt:TT}{te:TE}{pos:Pos}
def nt{σ:St}{RR:Value->Addr->Result->Shared->Prop}{Fin}(hc:X.calm=true)(S:CSc X scope ks)(I2:Inv X pins σ H2 s2)(T:Turn X.prog X.w X.K tg J fp it tn)(st:tn 0 s2.heap)(f2:∀b∈fp,jW X pins H2 b)(hg:∀C s H,PG (!18) tg g)(htt:∀C s H,PTs (!18) ifs tt)(he:∀C s H,PE (!18) elt te)(w0:∃m,W 0 m [] H2)(turn:GU J ks g tt te σ Fin W)(hR:∀D C H3 s3 m ys,Inv X pins σ (upd H3 D (.lst ys)) s3->H3 D=none->upd H3 D (.lst ys) C=none->C≠X.env.locals->s2.heap.objs.size<=C->s3.heap.Ns C m->Fin ys H3->RR (.ref D) C (.ok .next) s3):wpAny (!3) X.A (newList []) (λacc s₃=>wpAny (!3) X.A (newFunctionEnv scope X.env.globals (qQ X.env scope) [] X.env.qual none .none !X.env) (λcenv s₄=>codeAny (!3) X.A (.compStart (!12) 0 (.ref it) acc {cenv with scope:=relabel scope X.env}) (RR acc cenv.locals) s₄) E s₃) E s2:=by
 have hlt:∀b∈fp,b<s2.heap.objs.size:=λb t=>by
  let[o,e,_]:=T.obj _ _ st b t;exact Up e
 refine wpAny_newObj_type (wpAny_newFunctionEnv S.nocell (by intro y hy;simp at hy) (λh₁ hns₁ U=>?_) S.kind);generalize hH2:s2.heap.push {cls:=.type "list",dict:=none,data:=.seq ([]:T9).toArray}=G at hns₁ U⊢;have hCe:G.objs.size=s2.heap.objs.size+1:=by rw[<-hH2,Heap.size_push]
 have hDC:s2.heap.objs.size≠G.objs.size:=by rw[hCe];exact Uz (Nat.lt_succ_self _)
 have hC:s2.heap.objs.size<=G.objs.size:=by rw[hCe];exact Nat.le_succ _
 have old:∀b o,s2.heap.get? b=!o->h₁.get? b=!o:=λb o e=>U.extBut b o (Uz (Uw (Up e) hC)) (Um _ (hH2▸Um _ e));have hacc:h₁.get? s2.heap.objs.size=some {cls:=.type "list",data:=.seq ([]:T9).toArray 0}:=U.extBut _ _ hDC (Um _ (hH2▸Uq _ rfl));generalize l:s2.heap.objs.size=D at*;generalize hCn:G.objs.size=C at*;have st₁:=T.keep _ _ _ st λb t o e=>old b o e;let ρ:=pU X scope C s2 H2 fp;have fpY:∀{pl:T5}{H':Hp},(∀b∈fp,H' b=none)->(∀p∈pl,D<=p.1)->∀b∈fp,jW ρ pl H' b:=λ{pl H'}hn hp b t=>by
  refine#[hn b t,Uz (Uw (hlt b t) hC),λz=>(ve I2 S f2 (l▸hlt) (l▸hC)).exfs b t z,.inl t,((ve I2 S f2 (l▸hlt) (l▸hC)).exf b t).2,λp hq=>?_]
  .have hq':p∈[]++pl:=hq;have:=hp p (by simpa using hq');exact Nat.ne_of_gt (Uw (hlt b t) this)
 have loop:∀tk,codeAny (!3) X.A (.compLoop (!12) 0 (.ref it) (.ref D) (compEnvC scope (qQ X.env scope) C X.env)) (RR (.ref D) C) {s2 with heap:=h₁,toks:=tk}:=λtk=>by
  let[m0,w0]:=w0;refine vf (λn s'=>∃i ys I j H',Inv ρ [(D,{cls:=.type "list",data:=.seq (List.toArray I) j})] _ H' s'/\Vals ys I/\tn i s'.heap/\(∀b∈fp,H' b=none)/\W i n ys H') ?_ m0 #[0,[],[],0,H2,yH I2 S f2 (l▸hlt) (l▸UI _) (l▸hC) hDC old hns₁ hacc,.nil,st₁,λb t=>(f2 b t).1,w0];rintro n s3⟨i,ys,I,j,H3,I3,rv,GN,fr3,w3⟩;have pinD:∀p∈[(D,({cls:=.type "list",data:=.seq _ j}:Obj))],D<=p.1:=λp hp=>by
   have e:p=(D,{cls:=.type "list",data:=.seq (List.toArray I) j}):=by simpa using hp
   rw[e];exact UI _
  rcases turn i n ys H3 w3 with⟨stop,hz,fin⟩|⟨go,hz,step⟩
  .refine bG (T.done ρ rfl rfl rfl hc i _ s3 _ H3 (λ_ _=>False) I3 (fpY fr3 pinD) GN stop) λr s4#[hr,I4]=>?_;subst hr;have hD4:=I4.pin (D,{cls:=.type "list",data:=.seq _ j}) (UD _ Ut);let[m4,hn4,_]:=I4.loc;exact hR D C H3 s4 m4 ys (Ei I2 I4 f2 (Nat.le_of_eq l) hD4.2.1 hD4.1 rv hz) hD4.2.1 (by rw[af (Ne.symm hDC)];exact I4.free) (Nat.ne_of_gt (Uw I2.lt (l▸hC))) hC hn4 fin
  .refine bG (T.item ρ rfl rfl rfl hc i _ s3 _ H3 (λ_ _=>False) I3 (fpY fr3 pinD) GN go) λr s4#[u,hr,h4]=>?_;subst hr;refine bG h4 λ_ s5#[x,H5,I5,r5,y5,st5,fr5]=>?_;have I5':=I5.pinned (fpY fr5 pinD) (T.obj _ _ st5);refine bG (hg C s2 H2 _ s5 _ H5 x u _ I5' r5 (step x H5 y5)) λ_ s6#[σ6,H6,I6,kp,q6]=>bG (htt C s2 H2 _ s6 σ6 H6 _ I6 q6) λok s7#[H7,I7,q7]=>?_;have stay:∀{H':Hp}{s':Shared},Inv ρ ([(D,({cls:=.type "list",data:=.seq (List.toArray I) j}:Obj))]++nh fp s5.heap) σ6 H' s'->tn (i+1) s'.heap/\∀b∈fp,H' b=none:=λ{H' s'}I'=>by
    refine#[T.keep _ _ _ st5 λb t o e=>(I'.pin (b,o) (UD _ (UD _ (gt t e)))).1,λb t=>?_];let[o,e,_]:=T.obj _ _ st5 b t;exact(I'.pin (b,o) (UD _ (UD _ (gt t e)))).2.1
   cases ok with
|false=>
    let[m',hm,w7]:=q7;let[t7,n7]:=stay I7;exact#[m',hm,i+1,ys,I,j,H7,I7.unpinned.weak kp.1.symm kp.2,rv,t7,n7,w7]|true=>
    refine bG (he C s2 H2 _ s7 σ6 H7 _ I7 q7) λy s8#[yv,H8,I8,r8,m',hm,w8]=>?_;let[t8,n8]:=stay I8;have hD8:=I8.pin (D,{cls:=.type "list",data:=.seq _ j}) (UD _ (UC _ Ut));have hlen:=rv.length;refine append_at hD8.1 (λh9 sb hD9=>?_) (by rw[size_toArray];lia);have I9:Inv ρ [] σ6 H8 {s8 with heap:=h9,toks:=s8.toks}:=Inv.turned (I8.pins_of λp hp=>nomatch hp) (λb o t e=>sb.extBut b o t e) hD8.2.1 hD8.2.2.1 (.inr (Nat.le_of_eq l)) (λx c e z=>by
      let[v,q]:=I8.cell x c e;let[o,ho,hd]:=q;rw[z,hD8.1]at ho;cases ho;exact hD8.2.2.2.2 v hd) λp hp=>nomatch hp;have e9:h9.get? D=some {cls:=.type "list",data:=.seq (List.toArray (I++[y])) (j+1)}:=by rw[hD9];simp
    have I10:Inv ρ [(D,{cls:=.type "list",data:=.seq _ _})] σ6 H8 {s8 with heap:=h9,toks:=s8.toks}:=I9.pins_of λp hp=>by
     have e:p=(D,{cls:=.type "list",data:=.seq (List.toArray (I++[y])) (j+1)}):=by simpa using hp
     subst e;exact#[e9,hD8.2.1,hD8.2.2.1,hD8.2.2.2.1,λv z=>by
      have z':=z;cases z']
    refine#[m',hm,i+1,ys++[yv],I++[y],j+1,H8,I10.weak kp.1.symm kp.2,rv.append (.cons r8 .nil),T.keep _ _ _ t8 λb t o e=>sb.extBut b o (Uz (hlt b t)) e,n8,w8]
 exact codeAny_compStart_list (loop _) (T.self _ 0 _ _ _ st₁ (loop _))
def Ek(hc:X.calm=true)(S:CSc X scope ks)(hi:PI X tg iter wi)(hg:∀C s H fp,PG (!18) tg g)(U:∀C s H fp,PTs (!18) ifs tt)(he:∀C s H fp,PE (!18) elt te)(hs:∀x,foldedSetIterable iter X.env x=pure x:=by intro _;rfl):PE X (!12) (sV wi ks g tt te):=by
 intro pins s σ H Q I h;refine wpAny_comprehension_free rfl hs (np (I.cells_of S)) S.kind S.names (bG (hi pins s σ H _ I h) λv s1 h1=>bG h1 λitv s2 h2=>?_);let[it,fp,tn,J,H2,e,r,T,t,f2,W,w0,l]:=h2;subst e;refine nt hc S r T t f2 (λC s H=>hg C s H fp) (λC s H=>U C s H fp) (λC s H=>he C s H fp) w0 l ?_;intro D C H3 s3 m ys I3 hD hC hCL j hns fin;refine#[m,hns,λh' sb=>#[.ref D,upd H3 D _,?_,rfl,fin D hD]];exact I3.turned (λb o hb e=>sb.extBut b o hb e) hC hCL (.inr (Uy r.sz j)) (λx c e z=>by let[v,o,ho,hd]:=r.cell x c e;exact absurd (Uw (Up ho) j) (by rw[z];exact UE _)) λp hp z=>absurd (Uw (Up (r.pin p hp).1) j) (by rw[z];exact UE _)
def El(hN:X.N.Nodup)(hx:X.N[i]?=!x)(hl:X.env.scope.names.lookup x=some .local)(hc:X.calm=true)(S:CSc X scope ks)(hi:PI X tg iter wi)(hg:∀C s H fp,PG (!18) tg g)(htt:∀C s H fp,PTs (!18) ifs tt)(he:∀C s H fp,PE (!18) elt te)(hsw:swapsWith (!12) (!.Name x px) r.line X.env=pure true)(hs:∀x,foldedSetIterable iter X.env x=pure x:=by intro _;rfl):PS X (.Assign [.Name x px] (!12) r) (zX (sV wi ks g tt te) (sJ i)):=by
 intro pins s σ H Q I h;rw[exec_Assign_Name_used _ _ _ _ hsw];refine Ul (wpAny_standAt (Ul ?_));refine Ul (UJ (wpAny_comprehension_free rfl hs (np (I.cells_of S)) S.kind S.names (bG (hi pins s σ H _ I h) λv s1 h1=>bG h1 λitv s2 h2=>?_)) (λ_ s' hq=>Uo (Uo hq)) λ_ _ e=>e);let[it,fp,tn,J,H2,e,U,T,KU,f2,W,w0,l]:=h2;subst e;refine nt hc S U T KU f2 (λC s H=>hg C s H fp) (λC s H=>htt C s H fp) (λC s H=>he C s H fp) w0 l ?_;intro D C H3 s3 m ys I3 hD hC t j hns fin;refine wpAny_assign_Name (pJ (v:=.ref D) I3 hN hx (.inl hl) rfl (λs4 I4#[a,sb,ha]=>?_) (.inr hl));have hCa:C≠a:=by
  rcases ha with z|z;.rw[z];exact t
  .intro q;let[v,o,ho,hd]:=U.cell x a z;exact absurd (Uw (Up ho) j) (by rw[q];exact UE _)
 refine#[m,hns.sameBut sb hCa,λh' sb'=>#[σ.set i _,upd H3 D _,?_,fin D hD]];exact I4.turned (λb o hb e=>sb'.extBut b o hb e) hC t (.inr (Uy U.sz j)) (λx c e z=>by let[v,o,ho,hd]:=U.cell x c e;exact absurd (Uw (Up ho) j) (by rw[z];exact UE _)) λp hp z=>absurd (Uw (Up (U.pin p hp).1) j) (by rw[z];exact UE _)
end
section
variable{κ:Type}[DecidableEq κ]
noncomputable def  qR(kvs:List (κ×V))(k:κ):Option V:=(kvs.find? λkv=>decide (kv.1=k)).map (·.2)
noncomputable def  kn(kvs:List (κ×V))(k:κ)(v:V):List (κ×V):=if(kvs.any λkv=>decide (kv.1=k))=true then kvs.map λkv=>if kv.1=k then(kv.1,v)else kv else kvs++[(k,v)]
def sX{k:κ}(e:p.1=k):qR (p::r) k=!p.2:=by simp[qR,List.find?_cons,e]
def sY{k:κ}(e:¬p.1=k):qR (p::r) k=qR r k:=by simp[qR,List.find?_cons,e]
def sZ(g:List (κ×V))(k:κ)(v:V):(kn g k v).length<=g.length+1:=by grind[kn]
def KV.val(r:KV C l)(k:κ):RelO (qR C k) (valueAt l k):=by induction r with
|nil=>exact True.intro|@cons p q ps g h t o=>
  let[h1,h2]:=h;by_cases e:p.1=k
  .have j:q.1=k:=h1.symm.trans e;have b:valueAt (q::g) k=!q.2:=by simp[valueAt,List.find?_cons,j]
   rw[sX e,b];exact h2
  .have j:¬q.1=k:=λz=>e (h1.trans z);have b:valueAt (q::g) k=valueAt g k:=by simp[valueAt,List.find?_cons,j]
   rw[sY e,b];exact o
def KV.any(r:KV o j)(k:κ):(o.any λg=>decide (g.1=k))=j.any λg=>decide (g.1=k):=by induction r with
|nil=>rfl|cons h t l=>rw[List.any_cons,List.any_cons,l,h.1]
def KV.repl(r:KV I j)(k:κ)(l:RelV y u):KV (I.map λg=>if g.1=k then(g.1,y)else g) (j.map λg=>if g.1=k then(g.1,u)else g):=by induction r with
|nil=>exact .nil|@cons p q ps C h t o=>
  rw[List.map_cons,List.map_cons];refine .cons ?_ o;let[h1,h2]:=h;by_cases e:p.1=k;.rw[if_pos e,if_pos (h1.symm.trans e)];exact#[h1,l]
  .rw[if_neg e,if_neg λz=>e (h1.trans z)];exact#[h1,h2]
def KV.put(r:KV o g)(k:κ)(j:RelV y u):KV (kn o k y) (stored g k u):=by
 unfold kn stored;rw[r.any];by_cases e:(g.any λl=>decide (l.1=k))=true;.rw[if_pos e,if_pos e];exact r.repl k j
 .rw[if_neg e,if_neg e];exact Paired.snoc r #[rfl,j]
def KV.length{g:List (κ×Value)}(r:KV j g):j.length=g.length:=Paired.length r
end
def GV(r:RelV (kV k) u):(ja P w).is k u=true:=by cases k with
|inl i=>let[t,e]:=r;subst e;exact(λprog w i t=>yq i t) P w i t|inr x=>let[t,e]:=r;subst e;exact(λprog w x t=>yt x t) P w x t
section
variable{P:Program}{w:World}{H:Hp}{h:Heap}{a:Addr}
noncomputable def  LM(ok:HOk P w H h)(e:Rd H a u):=e.ok ok
def LN(ok:HOk P w H h)(e:Rd H a (.dK j)):j.length<=sizeLine/\(a==sysModules)=false/\∃g,KV j g/\h.DictOf (ja P w) a g:=show ObjOk P w H h a (.dK j)from LM ok e
noncomputable def  GW(ok:HOk P w H h)(e:H a=!.dK kvs):=LN ok (.inl e)
end
def Inv.big(I:Inv X pins σ H s):sysModules<s.heap.objs.size:=by exact Nat.lt_trans (!2) (I.mod.glob.keeps I.bk).lt
def Iv{a:Addr}(z:l.length<=sizeLine)(hd:(a==sysModules)=false)(rel:KV l g)(j:h'.DictOf (ja P w) a g):ObjOk P w H' h' a (.dK l):=#[z,hd,g,rel,j]
def Aq(h:Heap)(g:sysModules<h.objs.size):ObjOk P w H (h.push {cls:=.type "dict",data:=.dict #[ ]}) h.objs.size (.dK []):=#[Nat.zero_le _,beq_eq_false_iff_ne.mpr (Ne.symm (Uz g)),[],.nil,Heap.DictOf.new h]
def  Iw:TE:=λ_ H Q=>∀p,H p=none->Q (.ref p) (upd H p (.dK []))
def pe_dnewK:PE X (.Dict [] [] pos) Iw:=λpins s σ H Q I h=>wpAny_Dict_empty #[.ref s.heap.objs.size,_,I.laid (λ_ _ q=>Um _ q) (UI _) (Aq s.heap I.big),rfl,h _ (I.hok.fresh (UI _))]
end L2
namespace HT
open PySem PySem.Spec PyProof.Rows
def Ar(A:Around)(s:Shared)(a:Int)(t:Tok)(c:Int)(u:Tok)(prog:Program)(w:World)(E:T8)(Q:T8)(h:Q (.bool (decide (c<a))) s):wpAny (!7) A (richCompare .Gt (.int a t) (.int c u)) Q E s:=(PyProof.Rows.gt_int h:wpAny _ A (compareOp .Gt _ _) Q E s)
section
open PySem.SeqAt
open PySem.AutoSeq1(wpAny_loadPart')
open PySem.MeetsSeq PySem.MeetsSeq2 PySem.MeetsSeq3
def oW(l b:Addr)(items items2:Ug)(n n2:Nat)(dd dd2:Option Addr)(sl sl2:Array Ua)(ns ms:Ud)(hi:IntsAre items.toList ns)(hj:IntsAre items2.toList ms):Meets (Builtin.«tuple.__gt__» #[[.ref l,.ref b],[]]) λ_ R s=>s.heap.get? l=some {cls:=.type "tuple",dict:=dd,data:=.seq items n,slots:=sl}/\s.heap.get? b=some {cls:=.type "tuple",dict:=dd2,data:=.seq items2 n2,slots:=sl2}/\R (.ok (.ret (.bool (lexLt ms ns)))) s:=.of_wp λprog w A R s h=>by
  let[hp,g,d,tk,os]:=s;let[hl,hb,h]:=h;have f2:=AutoSeq1.sub_tuple_tuple;have z1:items.size=ns.length:=by rw[<-hi.length];simp
  have z2:items2.size=ms.length:=by rw[<-hj.length];simp
  wp_walk using wpAny_loadPart' hl,wpAny_loadPart' hb,wpAny_forIn_list _ (λrest b s'=>b.1=none/\s'=#[hp,g,d,tk,os]/\∃(vs ws:T9)(ns' ms':Ud),rest=vs.zip ws/\IntsAre vs ns'/\IntsAre ws ms'/\ns'.length+items2.size=ms'.length+items.size/\R (.ok (.ret (.bool (lexLt ms' ns')))) #[hp,g,d,tk,os]) _;case turn=>rintro⟨y,x⟩rest b s'⟨hb',rfl,vs,ws,ns',ms',hz,hvi,hwi,hlen,hR⟩;cases hvi with
|nil=>rw[List.zip_nil_left]at hz;cases hz|cons a t hvi'=>cases hwi with
|nil=>rw[List.zip_nil_right]at hz;cases hz|cons c u hwi'=>rw[List.zip_cons_cons]at hz;injection hz with hyx hrest;injection hyx with hy hx;subst hy hx;rw[lexLt_cons]at hR;simp only[length_cons]at hlen;let[e,he,hiff]:=sO A.in1 #[hp,g,d,tk,os] a t c u;refine Ul (he prog w _ _ ?_);cases e with
|true=>rw[if_pos (hiff.mp rfl).symm]at hR;wp_walk;exact#[rfl,rfl,_,_,_,_,hrest,hvi',hwi',by omega,hR]|false=>rw[if_neg λq=>absurd (hiff.mpr q.symm) Bool.false_ne_true]at hR;have hri:=Ar A.in1 #[hp,g,d,tk,os] a t c u prog w;wp_walk using hri;exact#[_,rfl,by simpa using hR]
  case fin=>
   rintro⟨b1,b2⟩s'⟨hb',rfl,vs,ws,ns',ms',hz,hvi,hwi,hlen,hR⟩;simp only at hb';subst hb';have hv:lexLt ms' ns'=decide (items2.size<items.size):=by cases hvi with
|nil=>cases hwi with
     |nil=>simp only[List.length_nil]at hlen;rw[jE];exact(decide_eq_false !6).symm|cons c u hw=>simp only[List.length_nil,length_cons]at hlen;rw[io];exact(decide_eq_false !6).symm
|cons a t hv=>cases hwi with
|nil=>simp only[List.length_nil,length_cons]at hlen;rw[im];exact(decide_eq_true !6).symm|cons c u hw=>rw[List.zip_cons_cons]at hz;cases hz
   rw[hv]at hR;wp_walk;exact#[_,rfl,by simpa[Builtin.Tuple.tupleCompareSizes]using hR]
  case h=>exact#[rfl,rfl,items.toList,items2.toList,ns,ms,rfl,hi,hj,by omega,h]
end
def gt_tupInts(hl:IsTup s.heap l items)(hb:IsTup s.heap b items2)(hi:IntsAre items.toList ns)(hj:IntsAre items2.toList ms)(hu:A.units<cLine)(h:Q (.bool (lexLt ms ns)) s):wpAny (!7) A (compareOp .Gt (.ref l) (.ref b)) Q E s:=by
 let[[cls,dd,data,sl],ho,hc,n,hd]:=id hl;let[[cls2,dd2,data2,sl2],ho2,hc2,n2,hd2]:=id hb;subst hc hd hc2 hd2;exact richCompare_meets_room (op:=.Gt) #[_,ho,rfl] #[_,ho2,rfl] PySem.F.slot_tuple_gt PySem.F.entry_tuple_gt (PySem.F.args_tuple_gt_2 _ _) (oW l b items items2 n n2 dd dd2 sl sl2 ns ms hi hj) #[ho,ho2,show Value.bool (lexLt ms ns)≠Value.notImplemented/\Q (.bool (lexLt ms ns)) s from#[(λx=>nomatch x),h]] hu
end HT
namespace L2
open PySem PySem.Spec PyProof.Rows
def  LO(K:Frag):R2:=λx y H Q=>∃a b ns ms,x=.ref a/\y=.ref b/\SqT K H a (ns.map V.int)/\SqT K H b (ms.map V.int)/\Q (.bl (HT.lexLt ms ns)) H
def As{X:Cx}(J:X.A.units<cLine):OpR X (compareOp .Gt) (LO X.K):=by intro pins s σ H x y v u Q I rx j h;let[a,b,t,C,rfl,rfl,U,T,q]:=h;cases rx;cases j;let[r,o,p,_]:=I.tuple U;let[g,l,p2,_]:=I.tuple T;exact HT.gt_tupInts p p2 (eL o) (eL l) J #[.bl _,H,I,rfl,q]
inductive D where|non|bl(b:Bool)|int(i:Int)|str(x:Str)|ty(n:String)|adr(a:Addr)|tup(ds:List D)|lst(ds:List D)|obj(C:Str)(ns:Uc)(ds:List D)|dct(ks:List gN)(ds:List D)
abbrev _root_.Uj:=Option D
abbrev _root_.Uh:=List D
abbrev _root_.T7:=Option (List D)
mutual
noncomputable def  Is(K:Frag)(H:Hp):D->V->Prop
|.non,v=>v=.non|.bl b,v=>v=.bl b|.int i,v=>v=.int i|.str x,v=>v=.str x|.ty n,v=>v=.ty n|.adr a,v=>v=.ref a|.tup ds,v=>∃a xs,v=.ref a/\SqT K H a xs/\IsL K H ds xs|.lst ds,v=>∃a xs,v=.ref a/\SqL K H a xs/\IsL K H ds xs|.obj C ns ds,v=>∃a Ca dx fs,v=.ref a/\nsIn K mainGlobals C=!!24/\H a=!.ins Ca dx fs/\fs.map (·.1)=ns/\IsL K H ds (fs.map (·.2))|.dct ks ds,v=>∃a kvs,v=.ref a/\H a=!.dK kvs/\kvs.map (·.1)=ks/\IsL K H ds (kvs.map (·.2))noncomputable def  IsL(K:Frag)(H:Hp):Uh->List V->Prop
|[],xs=>xs=[]|d::ds,xs=>∃x r,xs=x::r/\Is K H d x/\IsL K H ds r
end
def Same.seqT{K}(e:Same H H')(h:SqT K H a xs):SqT K H' a xs:=by
 rcases h with(h|⟨o,h⟩)|h;.exact .inl (.inl (e _ _ h))
 .exact .inl (.inr #[o,e _ _ h])
 .exact .inr h
mutual
theorem Is.mono{K:Frag}{H H':Hp}(s:Same H H'):∀(d:D)(v:V),Is K H d v->Is K H' d v
|.non,_,h=>h|.bl _,_,h=>h|.int _,_,h=>h|.str _,_,h=>h|.ty _,_,h=>h|.adr _,_,h=>h|.tup ds,_,#[a,xs,e,q,l]=>#[a,xs,e,s.seqT q,IsL.mono s ds xs l]|.lst ds,_,#[a,xs,e,q,l]=>#[a,xs,e,s.seq q,IsL.mono s ds xs l]|.obj _ _ ds,_,#[a,Ca,dx,fs,e,c,q,z,l]=>#[a,Ca,dx,fs,e,c,s _ _ q,z,IsL.mono s ds _ l]|.dct _ ds,_,#[a,kvs,e,q,z,l]=>#[a,kvs,e,s _ _ q,z,IsL.mono s ds _ l]theorem IsL.mono{K:Frag}{H H':Hp}(s:Same H H'):∀(ds:Uh)(xs:List V),IsL K H ds xs->IsL K H' ds xs
|[],_,h=>h|d::ds,_,#[x,r,e,h,l]=>#[x,r,e,Is.mono s d x h,IsL.mono s ds r l]end
def IsL.paired{K}:∀{ds:Uh}{xs:List V},IsL K H ds xs->Paired (Is K H) ds xs
|[],_,h=>by cases show _=[]from h;exact .nil|_::_,_,#[_,_,e,h,l]=>by cases e;exact .cons h (IsL.paired l)
def IsL.of{K}:∀{ds:Uh}{xs:List V},Paired (Is K H) ds xs->IsL K H ds xs
|_,_,.nil=>rfl|_,_,.cons h l=>#[_,_,rfl,h,IsL.of l]
def  IsL.len{K}(h:IsL K H ds xs):=Paired.length h.paired
def nu:∀{a c:List α}{b d:List β},Paired F a b->Paired F c d->Paired F (a++c) (b++d)
|_,_,_,_,.nil,h=>h|_,_,_,_,.cons h l,q=>.cons h (nu l q)
def gw:∀{a:List α}{b:List β}{i:Nat}{x:α},Paired F a b->a[i]?=!x->∃y,b[i]?=!y/\F x y
|_,_,_,_,.nil,e=>by simp at e|_,_,0,_,.cons h _,e=>by simp at e;subst e;exact#[_,rfl,h]|_,_,i+1,_,.cons _ l,e=>by let[y,h1,h2]:=gw (i:=i) l (by simpa using e);exact#[y,by simpa using h1,h2]
def paired_get':∀{a:List α}{b:List β}{i:Nat}{y:β},Paired F a b->b[i]?=!y->∃x,a[i]?=!x/\F x y
|_,_,_,_,.nil,e=>by simp at e|_,_,0,_,.cons h _,e=>by simp at e;subst e;exact#[_,rfl,h]|_,_,i+1,_,.cons _ l,e=>by let[y,h1,h2]:=paired_get' (i:=i) l (by simpa using e);exact#[y,by simpa using h1,h2]
def nw{x:α}{y:β}(h:F x y):∀{a:List α}{b:List β}(i:Nat),Paired F a b->Paired F (a.set i x) (b.set i y)
|_,_,_,.nil=>.nil|_,_,0,.cons _ l=>.cons h l|_,_,i+1,.cons q l=>.cons q (nw h i l)
def mn:∀{a:List α}{b:List β}(n:Nat),Paired F a b->Paired F (a.take n) (b.take n)
|_,_,0,_=>.nil|_,_,_+1,.nil=>.nil|_,_,n+1,.cons h l=>.cons h (mn n l)
def mo:∀{a:List α}{b:List β}(n:Nat),Paired F a b->Paired F (a.drop n) (b.drop n)
|_,_,0,h=>h|_,_,_+1,.nil=>.nil|_,_,n+1,.cons _ l=>mo n l
def IsL.app{K}(h:IsL K H ds xs)(q:IsL K H es ys):IsL K H (ds++es) (xs++ys):=.of (nu h.paired q.paired)
noncomputable def  IsL.get{K}{i:Nat}(h:IsL K H ds xs)(e:ds[i]?=!d):=gw h.paired e
noncomputable def  IsL.get'{K}{i:Nat}(h:IsL K H ds xs)(e:xs[i]?=!x):=paired_get' h.paired e
noncomputable def  msk(O:Ue)(H:Hp):Hp:=λb=>if O b=true then none else H b
def a8(h:msk O H b=!o):O b=false/\H b=!o:=by
 unfold msk at h;split at h;.cases h
 .rename_i q;exact#[by simpa using q,h]
def aH(h:O b=false):msk O H b=H b:=by unfold msk;rw[if_neg (by simp[h])]
def msk_le:Same (msk O H) H:=λ_ _ h=>(a8 h).2
def Same.msk(s:Same H H'):Same (msk O H) (msk O H'):=λb o h=>by let[h1,h2]:=a8 h;rw[aH h1];exact s b o h2
def fy(h:O a=true):msk O (upd H a o)=msk O H:=by
 funext b;unfold L2.msk;by_cases g:b=a;.subst g;rw[if_pos h,if_pos h]
 .rw[af g]
def ko(h:O a=false):msk O (upd H a o)=upd (msk O H) a o:=by
 funext b;by_cases g:b=a;.subst g;rw[aH h,ah,ah]
 .rw[af g];unfold L2.msk;rw[af g]
def Same.new(h:H a=none):Same H (upd H a o):=λb u q=>by rw[af (aq q h)];exact q
def  Is.full{K}(h:Is K (msk O H) d v):=Is.mono msk_le d v h
def  IsL.full{K}(h:IsL K (msk O H) d v):=IsL.mono msk_le d v h
abbrev Vv:=List (Option D)
abbrev _root_.T1:=Vv->Option Bool
abbrev _root_.TY:=Vv->Option D
abbrev _root_.TX:=Vv->Option (List D)
def  Hid(o:Option HO):Prop:=(∃xs,o=!.lst xs)\/(∃C dx fs,o=!.ins C dx fs)\/∃kvs,o=!.dK kvs
def Hid.ne(h:Hid o):o≠none:=by grind[Hid]
def Hid.same(s:Same H H')(h:Hid (H b)):Hid (H' b):=by
 rcases h with⟨xs,e⟩|⟨C,dx,fs,e⟩|⟨g,e⟩;.exact .inl #[xs,s _ _ e]
 .exact .inr (.inl #[C,dx,fs,s _ _ e])
 .exact .inr (.inr #[g,s _ _ e])
structure VE(K:Frag)(O:Ue)(σ:St)(H:Hp)(Y:Vv):Prop where
 lis:∀b,O b=true->Hid (H b)len:σ.length=Y.length
 sh:∀(i:Nat)(d:D),Y[i]?=!!d->∃v,σ[i]?=!!v/\Is K (msk O H) d v
section
variable{K:Frag}{O:Ue}{σ:St}{H H':Hp}{Y:Vv}
noncomputable def  VE.dom(E:VE K O σ H Y):=λb h=>(E.lis b h).ne
def VE.grow(E:VE K O σ H Y)(s:Same H H'):VE K O σ H' Y where
 lis:=λb h=>(E.lis b h).same s;len:=E.len;sh:=λi d h=>let#[v,e,q]:=E.sh i d h;#[v,e,Is.mono s.msk d v q]
def fX(hd:∀b,O b=true->H b≠none)(h:H p=none):O p=false:=by grind
def  VE.fresh(E:VE K O σ H Y)(h:H p=none):=fX E.dom h
def get_set_some{α:Type}{l:List (Option α)}{x}{y}(h:(l.set i x)[j]?=!!y):j=i/\x=!y\/j≠i/\l[j]?=!!y:=by
 by_cases g:i=j
 .subst g;rw[List.getElem?_set]at h;simp only[if_true]at h;split at h;.exact .inl #[rfl,Option.some.inj h]
  .cases h
 .rw[List.getElem?_set_ne g]at h;exact .inr #[Ne.symm g,h]
def pV{α:Type}{l:List (Option α)}{x}{y}(h:(l.set i x)[i]?=!y):i<l.length:=by have:=(Us.mp h).1;simpa using this
def VE.set(E:VE K O σ H Y){i:Nat}{d:D}{v:V}(h:Is K (msk O H) d v):VE K O (σ.set i !v) H (Y.set i !d)where
 lis:=E.lis;len:=by simpa using E.len
 sh:=λj r q=>by
  rcases get_set_some q with⟨e,g⟩|⟨e,g⟩
  .cases g;subst e;have hi:j<σ.length:=by rw[E.len];exact pV q
   exact#[v,by simp[hi],h]
  .let[l,p,o]:=E.sh j r g;exact#[l,by rw[List.getElem?_set_ne (Ne.symm e)];exact p,o]
def wipe_iff{σ}{v:α}:(gv ks σ)[i]?=some !v↔σ[i]?=!!v/\i∉ks:=#[nr ks σ i v,λh=>sU ks σ i v h.1 h.2]
def VE.wiped(E:VE K O σ H Y)(ks:Ub):VE K O (gv ks σ) H (gv ks Y)where
 lis:=E.lis;len:=by rw[km,km];exact E.len
 sh:=λi d q=>by let[j,g]:=wipe_iff.mp q;let[v,e,r]:=E.sh i d j;exact#[v,wipe_iff.mpr #[e,g],r]
end
def  tP(K:Frag)(O:Ue)(Y:Vv)(o:Uj):TE:=λσ H Q=>VE K O σ H Y/\∃d,o=!d/\∀v H',Same H H'->Is K (msk O H') d v->Q v H'
def  Om(K:Frag)(O:Ue)(Y:Vv)(o:T7):TE:=λσ H Q=>VE K O σ H Y/\∃ds,o=!ds/\∀p xs H',Same H H'->H' p=none->IsL K (msk O H') ds xs->Q (.ref p) (upd H' p (.lst xs))
def  On(K:Frag)(O:Ue)(Y:Vv)(o:Option Bool):TT:=λσ H Q=>VE K O σ H Y/\∃b,o=!b/\∀H',Same H H'->Q b H'
def  S6(K:Frag)(O:Ue)(Y:Vv)(o:T7):TA:=λσ H Q=>VE K O σ H Y/\∃ds,o=!ds/\∀vs H',Same H H'->IsL K (msk O H') ds vs->Q vs H'
def  PP(X:Cx)(e:Expr)(f:TY):Prop:=∀O Y,PE X e (tP X.K O Y (f Y))
def  PF(X:Cx)(e:Expr)(f:TX):Prop:=∀O Y,PE X e (Om X.K O Y (f Y))
def  PQ(X:Cx)(e:Expr)(f:T1):Prop:=∀O Y,PT X e (On X.K O Y (f Y))
def  PX(X:Cx)(es:Ui)(f:TX):Prop:=∀O Y,PA X es (S6 X.K O Y (f Y))
noncomputable def  aO(Y:Vv)(i:Nat):Uj:=match Y[i]?with
|some !d=>!d|_=>none
def pW(h:aO Y i=!d):Y[i]?=!!d:=by unfold aO at h;grind
section
variable{X:Cx}{pos:Pos}
def ny(i:Nat)(l:X.N[i]?=!x:=by rfl)(j:oQ X.env.scope x:=by first|exact Or.inl rfl|exact Or.inr (Or.inl rfl)|exact Or.inr (Or.inr rfl))(hd:(!5)=false:=by decide)(g:(!15)=false:=by decide):PP X (.Name x pos) λY=>aO Y i:=λO Y=>(bH l j hd g).imp λσ H Q#[E,d,e,k]=>by let[v,o,p]:=E.sh i d (pW e);exact#[v,o,k v H (Same.refl _) p]
def pp_int:PP X (.Constant (.int i) j pos) λ_=>!.int i:=λO Y=>pe_int.imp λσ H Q#[E,d,e,k]=>by cases e;exact k _ H (Same.refl _) rfl
def LP(o:Gl X x)(l:X.mg x=none)(g:bootBuiltins x=!.type n)(j:x≠"__name__":=by decide)(hd:(!5)=false:=by decide):PP X (.Name x pos) λ_=>!.ty n:=λO Y=>(D5 (v:=.ty n) o l g rfl j hd).imp λσ H Q#[E,d,e,k]=>by cases e;exact k _ H (Same.refl _) rfl
def Em(j:Gl X x)(g:X.mg x=!u)(r:RelV v u)(h:∀H,Is X.K H d v)(hd:(!5)=false:=by decide):PP X (.Name x pos) λ_=>!d:=λO Y=>(D4 j g r hd).imp λσ H Q#[E,l,e,k]=>by cases e;exact k _ H (Same.refl _) (h _)
def  kb(K:Frag)(r:R2)(g:D->D->Uj):Prop:=∀(O:Ue)(H:Hp)(x y:V)(dx dy d:D)(Q:VK),(∀b,O b=true->H b≠none)->Is K (msk O H) dx x->Is K (msk O H) dy y->g dx dy=!d->(∀v H',Same H H'->Is K (msk O H') d v->Q v H')->r x y H Q
noncomputable def  aa(g:D->D->Uj)(fa fb:TY):TY:=λY=>(fa Y).bind λx=>(fb Y).bind λy=>g x y
def bind_some{α g:Type}{o}{f:α->Option g}{b}(h:o.bind f=!b):∃a,o=!a/\f a=!b:=by cases o with
|none=>cases h|some a=>exact#[a,rfl,h]
abbrev _root_.UK:=@bind_some
def mR(J:kb X.K r g)(h:tP X.K O Y (aa g fa T Y) σ H Q):Lr r (tP X.K O Y (fa Y)) (tP X.K O Y (T Y)) σ H Q:=by
 let[E,d,e,k]:=h;let[dx,e1,e]:=UK e;let[o,e2,U]:=UK e;exact#[E,dx,e1,λx H1 l I=>#[E.grow l,o,e2,λy H2 j C=>J O H2 x y dx o d Q (E.grow (l.trans j)).dom (Is.mono j.msk dx x I) C U λv H' p t=>k v H' (l.trans (j.trans p)) t]]
def mr(l:OpR X (binaryOp op) r)(j:kb X.K r g)(p:PP X a fa)(o:PP X b t):PP X (.BinOp a op b pos) (aa g fa t):=λO Y=>(zY l (p O Y) (o O Y)).imp λσ H Q h=>mR j h
def pp_cmp(l:OpR X (compareOp op) r)(j:kb X.K r g)(t:PP X a fa)(p:PP X b C)(o:behindInMarks op b=false):PP X (.Compare a [op] [b] pos) (aa g fa C):=λO Y=>(D7 l (t O Y) (p O Y) o).imp λσ H Q h=>mR j h
noncomputable def  D.asB:D->Option Bool
|.bl b=>!b|_=>none
def asB_some{d:D}(h:d.asB=!b):d=.bl b:=by cases d<;>first|(cases h;rfl)|cases h
def  ag(f:TY):T1:=λY=>(f Y).bind D.asB
def pq_cmp(l:OpR X (compareOp op) r)(j:kb X.K r g)(t:PP X a fa)(p:PP X b C)(o:behindInMarks op b=false):PQ X (.Compare a [op] [b] pos) (ag (aa g fa C)):=λO Y=>(D8 l (t O Y) (p O Y) o).imp λσ H Q h=>by
 let[E,b,e,k]:=h;let[d,I,J]:=UK e;cases asB_some J;refine mR j #[E,.bl b,I,λv H' s i=>?_];cases i;exact#[b,rfl,k H' s]
def  dX(g g':D->D->Uj)(fa fb fc:TY):TY:=λY=>(fa Y).bind λx=>(fb Y).bind λy=>(g x y).bind λz=>z.asB.bind λk=>if k=true then(fc Y).bind λw=>g' y w else !.bl false
def pX(hr:kb X.K r g)(C:kb X.K r' g')(h:tP X.K O Y (dX g g' fa fb fc Y) σ H Q):uZ r r' (tP X.K O Y (fa Y)) (tP X.K O Y (fb Y)) (tP X.K O Y (fc Y)) σ H Q:=by
 let[E,d,ea,k]:=h;let[dx,e1,U]:=UK ea;let[p,e2,T]:=UK U;let[dz,e3,J]:=UK T;let[b,e4,e]:=UK J;clear ea U T J;cases asB_some e4;refine#[E,dx,e1,λx H1 l i1=>#[E.grow l,p,e2,λy H2 j I=>hr O H2 x y dx p _ _ (E.grow (l.trans j)).dom (Is.mono j.msk dx x i1) I e3 λv H3 o i3=>#[b,i3,?_]]];cases b with
|true=>let[dw,e5,e6]:=UK e;exact#[E.grow (l.trans (j.trans o)),dw,e5,λw' H4 t i4=>C O H4 y w' p dw d Q (E.grow (l.trans (j.trans (o.trans t)))).dom (Is.mono (o.trans t).msk p y I) i4 e6 λv' H5 s5 i5=>k v' H5 (l.trans (j.trans (o.trans (t.trans s5)))) i5]|false=>cases e;exact k _ H3 (l.trans (j.trans o)) rfl
def Au(ho:OpR X (compareOp op) r)(ho':OpR X (compareOp op') r')(hr:kb X.K r g)(hr':kb X.K r' g')(ha:PP X a fa)(hb:PP X b fb)(hc:PP X c fc)(hm:lastMarks [op,op'] [b,c]=false:=by with_unfolding_all rfl):PP X (.Compare a [op,op'] [b,c] pos) (dX g g' fa fb fc):=λO Y=>(z7 ho ho' (ha O Y) (hb O Y) (hc O Y) hm).imp λσ H Q h=>pX hr hr' h
def Av(ho:OpR X (compareOp op) r)(ho':OpR X (compareOp op') r')(hr:kb X.K r g)(hr':kb X.K r' g')(ha:PP X a fa)(hb:PP X b fb)(hc:PP X c fc)(hm:lastMarks [op,op'] [b,c]=false:=by with_unfolding_all rfl):PQ X (.Compare a [op,op'] [b,c] pos) (ag (dX g g' fa fb fc)):=λO Y=>(z8 ho ho' (ha O Y) (hb O Y) (hc O Y) hm).imp λσ H Q h=>by let[E,b,e,k]:=h;let[d,e1,e2]:=UK e;cases asB_some e2;refine pX hr hr' #[E,.bl b,e1,λv H' s i=>?_];cases i;grind
noncomputable def  Pr:D->D->Uj
|.int i,.int j=>!.int (i+j)|_,_=>none
noncomputable def  cA:D->D->Uj
|.int i,.int j=>!.int (i-j)|_,_=>none
instance(i j:Int):Decidable (CMul i j):=Classical.propDecidable _
def  Eo(_ j:Int):Prop:=0<j/\j.natAbs.log2<9000
instance(i j:Int):Decidable (Eo i j):=Classical.propDecidable _
def Ep:OpR X (binaryOp .FloorDiv) (rI Eo λi j=>.int (i/j)):=Lu λi j _ _ _ _ _ g q=>by have h1:=g.1;exact floordiv_int (by lia) (by rw[Int.fdiv_eq_ediv_of_nonneg i (by lia)];exact q) (.inl (PyProof.noPylong_of_log2 g.2))
instance(i j:Int):Decidable (qH i j):=Classical.propDecidable _
noncomputable def  aM:D->D->Uj
|.int i,.int j=>if CMul i j then !.int (i*j)else none|_,_=>none
noncomputable def  bv:D->D->Uj
|.int i,.int j=>if Eo i j then !.int (i/j)else none|_,_=>none
noncomputable def  aJ:D->D->Uj
|.int i,.int j=>if 0<j then !.int (i%j)else none|_,_=>none
noncomputable def  dO:D->D->Uj
|.int i,.int j=>if qH i j then !.int (i^j.toNat)else none|_,_=>none
noncomputable def  td:D->D->Uj
|.int i,.int j=>if qH i j then !.int (i*2^j.toNat)else none|_,_=>none
noncomputable def  aX:Uh->Option Ud
|[]=>![]|.int i::ds=>(aX ds).bind λxs=>!i::xs|_::_=>none
noncomputable def  RI:D->D->Uj
|.int i,.int j=>!.bl (decide (i<j))|_,_=>none
def  Pt:D->D->Uj
|.tup ds,.tup es=>(aX ds).bind λxs=>(aX es).bind λys=>!.bl (HT.lexLt xs ys)|_,_=>none
def  GX(x y:D):Uj:=match RI x y with
|some d=>!d|none=>Pt x y
noncomputable def  nz:D->D->Uj
|.int i,.int j=>!.bl (decide (i<=j))|_,_=>none
noncomputable def  RJ:D->D->Uj
|.int i,.int j=>!.bl (decide (j<i))|_,_=>none
def  Pu:D->D->Uj
|.tup ds,.tup es=>(aX ds).bind λxs=>(aX es).bind λys=>!.bl (HT.lexLt ys xs)|_,_=>none
def  mJ(x y:D):Uj:=match RJ x y with
|some d=>!d|none=>Pu x y
noncomputable def  Ix:D->D->Uj
|.int i,.int j=>!.bl (decide (j<=i))|_,_=>none
def wR{K}{g:Int->Int->Int}(p:∀x y d,f x y=!d->∃i j,x=.int i/\y=.int j/\d=.int (g i j)):kb K (wL λi j=>.int (g i j)) f:=λO H x y dx r d Q _ o l e k=>by let[i,j,rfl,rfl,rfl]:=p dx r d e;exact#[i,j,o,l,k _ H (Same.refl _) rfl]
def r2_bool0{K}{g:Int->Int->Bool}(p:∀x y d,f x y=!d->∃i j,x=.int i/\y=.int j/\d=.bl (g i j)):kb K (wL λi j=>.bl (g i j)) f:=λO H x y dx r d Q _ o l e k=>by let[i,j,rfl,rfl,rfl]:=p dx r d e;exact#[i,j,o,l,k _ H (Same.refl _) rfl]
def kq{K}{g:Int->Int->Int}(p:∀x y d,f x y=!d->∃i j,x=.int i/\y=.int j/\C i j/\d=.int (g i j)):kb K (rI C λi j=>.int (g i j)) f:=λO H x y dx t d Q _ o l e k=>by let[i,j,rfl,rfl,r,rfl]:=p dx t d e;exact#[i,j,o,l,r,k _ H (Same.refl _) rfl]
def eO{f:Int->Int->Uj}{x y d:D}(h:(match x,y with|.int i,.int j=>f i j|_,_=>none)=!d):∃i j,x=.int i/\y=.int j/\f i j=!d:=by grind
def LQ{K}:kb K (wL λi j=>.int (i-j)) cA:=wR λx y d e=>by let[i,j,h1,h2,e]:=eO e;cases e;exact#[_,_,h1,h2,rfl]
def aj{α:Type}[Decidable c]{a b:α}(h:(if c then !a else none)=!b):c/\a=b:=by grind
def LR{K}:kb K (rI CMul λi j=>.int (i*j)) aM:=kq λx y d e=>by let[i,j,h1,h2,e]:=eO e;let[c,e]:=aj e;cases e;exact#[_,_,h1,h2,c,rfl]
def LS{K}:kb K (rI Eo λi j=>.int (i/j)) bv:=kq λx y d e=>by let[i,j,h1,h2,e]:=eO e;let[c,e]:=aj e;cases e;exact#[_,_,h1,h2,c,rfl]
def LU{K}:kb K (rI (λ_ j=>0<j) λi j=>.int (i%j)) aJ:=kq λx y d e=>by let[i,j,h1,h2,e]:=eO e;let[c,e]:=aj e;cases e;exact#[_,_,h1,h2,c,rfl]
def LV{K:Frag}:kb K (rI qH λi j=>.int (i^j.toNat)) dO:=kq λx y d e=>by let[i,j,h1,h2,e]:=eO (f:=λi j=>if qH i j then !.int (i^j.toNat)else none) e;let[c,e]:=aj e;cases e;exact#[_,_,h1,h2,c,rfl]
def LW{K:Frag}:kb K (rI qH λi j=>.int (i*2^j.toNat)) td:=kq λx y d e=>by let[i,j,h1,h2,e]:=eO (f:=λi j=>if qH i j then !.int (i*2^j.toNat)else none) e;let[c,e]:=aj e;cases e;exact#[_,_,h1,h2,c,rfl]
def yI{K}:kb K (wL λi j=>.bl (decide (i<=j))) nz:=r2_bool0 λx y d e=>by let[i,j,h1,h2,e]:=eO e;cases e;exact#[_,_,h1,h2,rfl]
def LX{K:Frag}:kb K (wL λi j=>.bl (decide (j<=i))) Ix:=r2_bool0 λx y d e=>by let[i,j,h1,h2,e]:=eO e;cases e;exact#[_,_,h1,h2,rfl]
def asInts_is{K}:∀{ds:Uh}{ns:Ud}{xs:List V},aX ds=!ns->IsL K H ds xs->xs=ns.map V.int
|[],ns,xs,e,h=>by cases e;exact h|.int i::ds,ns,xs,e,#[x,r,e1,h1,l]=>by let[ms,e2,e3]:=UK (show(aX ds).bind (λxs=>!i::xs)=some ns from e);cases e3;cases show x=.int i from h1;rw[e1,asInts_is e2 l];rfl
def LY{K}:kb K (λx y H Q=>wL (λi j=>.bl (decide (i<j))) x y H Q\/LH K x y H Q) GX:=λO H x y dx g d Q hd r p e k=>by unfold GX at e;cases h:RI dx g with
|some z=>rw[h]at e;cases e;exact .inl ((r2_bool0 λx y d e=>by let[i,j,h1,h2,e]:=eO e;cases e;exact#[_,_,h1,h2,rfl]) O H x y dx g _ Q hd r p h k)|none=>
  rw[h]at e;have e:Pt dx g=!d:=e;unfold Pt at e;split at e;.let[t,T,e]:=UK e;let[C,U,e]:=UK e;cases e;let[a,xs,rfl,o,J]:=r;let[b,ys,rfl,l,I]:=p;rw[asInts_is T J]at o;rw[asInts_is U I]at l;exact .inr #[a,b,t,C,rfl,rfl,msk_le.seqT o,msk_le.seqT l,k _ H (Same.refl _) rfl]
  .cases e
def LZ{K}:kb K (λx y H Q=>wL (λi j=>.bl (decide (j<i))) x y H Q\/LO K x y H Q) mJ:=λO H x y dx g d Q hd r p e k=>by unfold mJ at e;cases h:RJ dx g with
|some z=>rw[h]at e;cases e;exact .inl ((r2_bool0 λx y d e=>by let[i,j,h1,h2,e]:=eO e;cases e;exact#[_,_,h1,h2,rfl]) O H x y dx g _ Q hd r p h k)|none=>
  rw[h]at e;have e:Pu dx g=!d:=e;unfold Pu at e;split at e;.let[t,T,e]:=UK e;let[C,U,e]:=UK e;cases e;let[a,xs,rfl,o,J]:=r;let[b,ys,rfl,l,I]:=p;rw[asInts_is T J]at o;rw[asInts_is U I]at l;exact .inr #[a,b,t,C,rfl,rfl,msk_le.seqT o,msk_le.seqT l,k _ H (Same.refl _) rfl]
  .cases e
def Er(j:PP X a fa)(g:PP X b l):PP X (.BinOp a .Add b pos) (aa Pr fa l):=mr (Lv λ_ _ _ _ _ _ _ q=>add_int q) (wR λx y d e=>by let[i,j,h1,h2,e]:=eO e;cases e;exact#[_,_,h1,h2,rfl]) j g
def L0(g:X.A.units<cLine)(l:PP X a fa)(j:PP X b o):PQ X (.Compare a [.Lt] [b] pos) (ag (aa GX fa o)):=pq_cmp (op_lt.or (Ak g)) LY l j (dW _)
def L4(j:PP X a fa)(g:PP X b l):PQ X (.Compare a [.LtE] [b] pos) (ag (aa nz fa l)):=pq_cmp pK yI j g (dW _)
def L5(g:X.A.units<cLine)(l:PP X a fa)(j:PP X b o):PQ X (.Compare a [.Gt] [b] pos) (ag (aa mJ fa o)):=pq_cmp (op_gt.or (As g)) LZ l j (dW _)
def L6{a b:Expr}{fa g}(l:PP X a fa)(j:PP X b g):PQ X (.Compare a [.GtE] [b] pos) (ag (aa Ix fa g)):=pq_cmp GP LX l j (dW _)
def pp_lele(ha:PP X a fa)(hb:PP X b fb)(hc:PP X c fc)(hm:lastMarks [.LtE,.LtE] [b,c]=false:=by with_unfolding_all rfl):PP X (.Compare a [.LtE,.LtE] [b,c] pos) (dX nz nz fa fb fc):=Au pK pK yI yI ha hb hc hm
def pq_lele(ha:PP X a fa)(hb:PP X b fb)(hc:PP X c fc)(hm:lastMarks [.LtE,.LtE] [b,c]=false:=by with_unfolding_all rfl):PQ X (.Compare a [.LtE,.LtE] [b,c] pos) (ag (dX nz nz fa fb fc)):=Av pK pK yI yI ha hb hc hm
def  mK(fa fb:TY):TY:=λY=>(fa Y).bind λx=>x.asB.bind λc=>if c=true then fb Y else !.bl false
def  S7(fa fb:TY):TY:=λY=>(fa Y).bind λx=>x.asB.bind λc=>if c=true then !.bl true else fb Y
def  Aw(fa:TY):TY:=λY=>(fa Y).bind λx=>x.asB.bind λc=>!.bl (not c)
noncomputable def  yJ(fa fb:T1):T1:=λY=>(fa Y).bind λc=>if c=true then fb Y else !false
noncomputable def  kc(fa fb:T1):T1:=λY=>(fa Y).bind λc=>if c=true then !true else fb Y
noncomputable def  bI(fa:T1):T1:=λY=>(fa Y).map (not ·)
noncomputable def  GY(fc:T1)(fa fb:TY):TY:=λY=>(fc Y).bind λc=>if c=true then fa Y else fb Y
variable{a b c:Expr}{rest:Ui}
def Iy(h:PP X a f):PP X (.BoolOp op [a] pos) f:=λO Y=>HX (h O Y)
def Iz(C:PP X a fa)(t:PP X (.BoolOp .And (b::rest) pos) I):PP X (.BoolOp .And (a::b::rest) pos) (mK fa I):=λO Y=>(HY (C O Y) (t O Y)).imp λσ H Q#[E,d,e,k]=>by let[dx,T,j]:=UK e;let[c,U,J]:=UK j;clear e j;have e:=J;cases asB_some U;refine#[E,_,T,λv H1 g r=>#[c,r,?_]];cases c with
|true=>rw[if_pos rfl]at e⊢;exact#[E.grow g,d,e,λl H2 o p=>k l H2 (g.trans o) p]|false=>rw[if_neg Bool.false_ne_true]at e⊢;cases e;exact k _ H1 g rfl
def IA(l:PP X a fa):PP X (.UnaryOp .Not a pos) (Aw fa):=λO Y=>(HZ (l O Y)).imp λσ H Q#[E,d,e,k]=>by let[dx,r,p]:=UK e;let[c,t,o]:=UK p;have e:=o;cases asB_some t;cases e;exact#[E,_,r,λv H1 g j=>#[c,j,k _ H1 g rfl]]
def  PWQ(X:Cx)(e:Expr)(f:T1):Prop:=∀O Y,PW X e (On X.K O Y (f Y))
def PWQ.pq(h:PWQ X a f):PQ X a f:=λO Y=>(h O Y).pt
def PW.imp(h:PW X e t)(k:∀σ H Q,j σ H Q->t σ H Q):PW X e j:=λg pins s σ H Q I q=>h g pins s σ H Q I (k _ _ _ q)
def pw_and1D(h:PQ X a f):PWQ X (.BoolOp .And [a] pos) f:=λO Y=>(λg=>by intro j pins s σ H Q I h;refine isTrue_and (bG (g pins s σ H Q I h) λc l e=>?_);cases c with
|true=>exact isTrue_and_nil e|false=>exact e) (h O Y)
def pw_or1D(h:PQ X a f):PWQ X (.BoolOp .Or [a] pos) f:=λO Y=>(λg=>by intro j pins s σ H Q I h;refine isTrue_or (bG (g pins s σ H Q I h) λc l e=>?_);cases c with
|false=>exact isTrue_or_nil e|true=>exact e) (h O Y)
def pw_andD(o:PQ X a fa)(l:PWQ X (.BoolOp .And (b::rest) pos) p):PWQ X (.BoolOp .And (a::b::rest) pos) (yJ fa p):=λO Y=>(pw_and (o O Y) (l O Y)).imp λσ H Q#[E,d,e,k]=>by let[c,t,r]:=UK e;have e:=r;refine#[E,c,t,λH1 g=>?_];cases c with
|true=>rw[if_pos rfl]at e⊢;exact#[E.grow g,d,e,λH2 j=>k H2 (g.trans j)]|false=>rw[if_neg Bool.false_ne_true]at e⊢;cases e;exact k H1 g
def pw_orD(o:PQ X a fa)(l:PWQ X (.BoolOp .Or (b::rest) pos) p):PWQ X (.BoolOp .Or (a::b::rest) pos) (kc fa p):=λO Y=>(pw_or (o O Y) (l O Y)).imp λσ H Q#[E,d,e,k]=>by let[c,t,r]:=UK e;have e:=r;refine#[E,c,t,λH1 g=>?_];cases c with
|true=>rw[if_pos rfl]at e⊢;cases e;exact k H1 g|false=>rw[if_neg Bool.false_ne_true]at e⊢;exact#[E.grow g,d,e,λH2 j=>k H2 (g.trans j)]
def IB(j:PQ X a fa):PQ X (.UnaryOp .Not a pos) (bI fa):=λO Y=>(HW (j O Y)).imp λσ H Q#[E,d,e,k]=>by unfold bI at e;cases q:fa Y with
|none=>rw[q]at e;cases e|some c=>rw[q]at e;cases e;exact#[E,c,rfl,λH1 g=>k H1 g]
def L7(p:PQ X c C)(t:PP X a fa)(r:PP X b I):PP X (.IfExp c a b pos) (GY C fa I):=λO Y=>(zS (p O Y) (t O Y) (r O Y)).imp λσ H Q#[E,d,e,k]=>by let[c,T,J]:=UK e;have e:=J;refine#[E,c,T,λH1 g=>?_];cases c with
|true=>rw[if_pos rfl]at e⊢;exact#[E.grow g,d,e,λj H2 l o=>k j H2 (g.trans l) o]|false=>rw[if_neg Bool.false_ne_true]at e⊢;exact#[E.grow g,d,e,λj H2 l o=>k j H2 (g.trans l) o]
noncomputable def  yK:D->Option Bool
|.bl b=>!b|.int i=>!i !=0|.non=>!false|.lst ds=>!not ds.isEmpty|.tup ds=>!not ds.isEmpty|_=>none
def mv{α g:Type}{a:List α}{b:List g}(h:a.length=b.length):a.isEmpty=b.isEmpty:=by cases a<;>cases b<;>first|rfl|simp at h
def pq_val(h:PP X a f)(o:∀whole,isTrue a X.env whole=(do let v<-whole;standAt a.pos;holding [v] (truthy v)):=by intro _;rfl):PQ X a λY=>(f Y).bind yK:=λO Y=>(z9 (h O Y) o).imp λσ H Q#[E,b,e,k]=>by let[d,r,e]:=UK e;refine#[E,d,r,λv H1 j g=>#[b,?_,k H1 j]];cases d with
|bl c=>cases e;cases g;rfl|int i=>cases e;cases g;rfl|non=>cases e;cases g;rfl|lst ds=>cases e;let[p,xs,rfl,q,l]:=g;exact .inl #[xs,msk_le.seq q,by rw[mv l.len]]|tup ds=>cases e;let[p,xs,rfl,q,l]:=g;exact .inr (.inl #[xs,msk_le.seqT q,by rw[mv l.len]])|_=>cases e
end
noncomputable def  big:Nat:=16777216
def eQ:sizeLine=big:=sizeLine_eq
section
variable{X:Cx}{pos:Pos}{a b c e:Expr}{es:Ui}
def vg:PX X [] λ_=>![]:=λO Y=>pa_nil.imp λσ H Q#[E,ds,e,k]=>by cases e;exact k [] H (Same.refl _) rfl
noncomputable def  ae(f:TY)(g:TX):TX:=λY=>(f Y).bind λd=>(g Y).bind λr=>!d::r
def px_cons(h:PP X e f)(I:PX X es g)(C:starEach (e::es) X.env=(false,eval e X.env)::starEach es X.env:=by rfl):PX X (e::es) (ae f g):=λO Y=>(bi (h O Y) (I O Y) C).imp λσ H Q#[E,ds,q,k]=>by
 let[d,J,q]:=UK q;let[r,T,q]:=UK q;cases q;exact#[E,d,J,λv H1 l t=>#[E.grow l,r,T,λo H2 j p=>k _ H2 (l.trans j) #[v,o,rfl,Is.mono j.msk d v t,p]]]
def  bT(o:T7):T7:=o.bind λds=>if ds.length<big then !ds else none
def dB(h:bT o=!ds):o=!ds/\ds.length<sizeLine:=by let[d,g,j]:=UK h;let[h1,h2]:=aj j;subst h2;exact#[g,by rw[eQ];exact h1]
def Ax{x1}(h:PX X es g):PP X (.Tuple es x1 pos) λY=>(bT (g Y)).bind λds=>!.tup ds:=λO Y=>(qJ (h O Y)).imp λσ H Q#[E,d,q,k]=>by let[ds,z,C]:=UK q;cases C;let[I,J]:=dB z;refine#[E,ds,I,λr H1 t l=>#[by rw[<-l.len];exact UF J,λp j=>?_]];have o:=(E.grow t).fresh j;exact k _ _ (t.trans (Same.new j)) #[p,r,rfl,.of (by rw[aH o,ah]),IsL.mono (by rw[ko o];exact Same.new (by rw[aH o];exact j)) _ _ l]
def IC(h:PX X es g):PF X (.List es pos) λY=>bT (g Y):=λO Y=>(Ae (h O Y)).imp λσ H Q#[E,ds,q,k]=>by let[t,C]:=dB q;exact#[E,ds,t,λj H1 o l=>#[by rw[<-l.len];exact UF C,λp r=>k p j H1 o r l]]
noncomputable def  ID:D->Option gN
|.int i=>!.inl i|.str x=>!.inr x|_=>none
def wS{K}(e:ID d=!k)(h:Is K H d v):v=kV k:=by cases d with
|int i=>cases e;exact h|str x=>cases e;exact h|_=>cases e
noncomputable def  eY:List gN->Uh->gN->Uj
|k::ks,d::ds,j=>if k=j then !d else eY ks ds j|_,_,_=>none
def valD_val{K}:∀{kvs:List (gN×V)}{ds:Uh},IsL K H ds (kvs.map (·.2))->(eY (kvs.map (·.1)) ds j=none/\qR kvs j=none)\/∃d v,eY (kvs.map (·.1)) ds j=!d/\qR kvs j=!v/\Is K H d v
|[],ds,_=>.inl #[by cases ds<;>rfl,rfl]|p::r,[],h=>by cases(show(p::r).map (·.2)=[]from h)|p::r,d::ds,#[x,t,z,h,l]=>by
  have z':p.2::r.map (·.2)=x::t:=z;cases z';show((if p.1=j then !d else eY (r.map (·.1)) ds j)=none/\_)\/∃d' v,(if p.1=j then !d else eY (r.map (·.1)) ds j)=!d'/\_;by_cases e:p.1=j;.rw[if_pos e,sX e];exact .inr #[d,p.2,rfl,rfl,h]
  .rw[if_neg e,sY e];exact valD_val l
def  Pv:R2:=λx y H Q=>∃p kvs k v,x=.ref p/\y=kV k/\H p=!.dK kvs/\qR kvs k=!v/\Q v H
def Es:IxR X Pv:=by intro value slice pins s σ H x y v u Q I rx o h t;let[p,T,k,z,rfl,rfl,e,l,q]:=h;cases rx;let[_,hd,J,rel,j]:=GW I.hok e;let[C,r,g]:=RelO.some_of (by rw[<-l];exact rel.val k);exact tail_any j.typeIs PySem.F.slot_dict_getitem.lookup (wpAny_getItem_of (GV o) j.mapOf r #[z,H,I.tok _,g,q]) t
def  ax:D->D->Uj
|.lst ds,.int i=>oR ds i|.tup ds,.int i=>oR ds i|.dct ks ds,e=>(ID e).bind (eY ks ds)|_,_=>none
def wT{xs:List β}{d:α}(g:ds.length=xs.length)(h:oR ds i=!d):∃j:Nat,ds[j]?=!d/\oR xs i=xs[j]?:=by let[j,o,l]:=UK h;refine#[j,l,?_];show(yE xs.length i).bind _=_;rw[<-g,o];rfl
def pp_ix(l:PP X a fa)(j:PP X b o)(g:cU b:=by exactλ_ _=>rfl):PP X (.Subscript a b pos) (aa ax fa o):=λO Y=>(pQ (ix_seq.or Es) (l O Y) (j O Y) g).imp λσ H Q h=>mR (λO H x y dx I d Q hd t r e k=>by cases dx with
|lst ds=>cases I with
  |int i=>let[p,xs,rfl,q,l]:=t;cases show y=.int i from r;let[j,o,U]:=wT l.len e;let[v,C,g]:=l.get o;exact .inl (.inl #[p,xs,i,v,rfl,rfl,msk_le.seq q,U.trans C,k v H (Same.refl _) g])|_=>cases e
|tup ds=>cases I with
  |int i=>let[p,xs,rfl,q,l]:=t;cases show y=.int i from r;let[j,o,U]:=wT l.len e;let[v,C,g]:=l.get o;exact .inl (.inr (.inl #[p,xs,i,v,rfl,rfl,msk_le.seqT q,U.trans C,k v H (Same.refl _) g]))|_=>cases e
|dct ks ds=>
  let[p,kvs,rfl,q,rfl,l]:=t;let[j,o,U]:=UK e;rcases valD_val l with⟨z,_⟩|⟨T,v,z,J,g⟩;.rw[z]at U;cases U
  .rw[z]at U;cases U;exact .inr #[p,kvs,j,v,rfl,wS o r,msk_le _ _ q,J,k v H (Same.refl _) g]|_=>cases e) h
def  Pw(K:Frag)(r:List V->Hp->VK->Prop)(g:Uh->Uj):Prop:=∀(O:Ue)(H:Hp)(xs:List V)(ds:Uh)(d:D)(Q:VK),(∀b,O b=true->H b≠none)->IsL K (msk O H) ds xs->g ds=!d->(∀v H',Same H H'->Is K (msk O H') d v->Q v H')->r xs H Q
variable{x:Str}{p:Pos}{bid T:String}{r:List V->Hp->VK->Prop}{g:Uh->Uj}{fa:TX}
def pp_callB(hc:eJ X (.builtin bid) r)(U:Pw X.K r g)(hg:Gl X x)(hm:X.mg x=none)(T:bootBuiltins x=!.builtin bid)(ha:PX X (e::es) fa)(hn:x≠"__name__":=by decide)(o:(!5)=false:=by decide)(he:starEach (e::es) X.env=(false,eval e X.env)::starEach es X.env:=by rfl)(j:(!19).any (·.1)=false:=by rfl):PP X (!17) λY=>(fa Y).bind g:=λO Y=>(nj hc hg hm T (ha O Y) hn o he j).imp λσ H Q#[E,d,q,k]=>by
 let[ds,e1,q]:=UK q;exact#[E,ds,e1,λC H1 t l=>U O H1 C ds d Q (E.grow t).dom l q λv H2 I J=>k v H2 (t.trans I) J]
def pp_callTy(hc:eJ X (.type T) r)(hr:Pw X.K r g)(hg:Gl X x)(hm:X.mg x=none)(U:bootBuiltins x=!.type T)(ha:PX X (e::es) fa)(hn:x≠"__name__":=by decide)(o:(!5)=false:=by decide)(he:starEach (e::es) X.env=(false,eval e X.env)::starEach es X.env:=by rfl)(j:(!19).any (·.1)=false:=by rfl):PP X (!17) λY=>(fa Y).bind g:=λO Y=>(pP hc hg hm U (ha O Y) hn o he j).imp λσ H Q#[E,d,q,k]=>by
 let[ds,e1,q]:=UK q;exact#[E,ds,e1,λC H1 t l=>hr O H1 C ds d Q (E.grow t).dom l q λv H2 I J=>k v H2 (t.trans I) J]
noncomputable def  uR{α:Type}(g:D->Option α)(ds:Uh):Option α:=match ds with
|[d]=>g d|_=>none
noncomputable def  Et{α:Type}(g:D->D->Option α)(ds:Uh):Option α:=match ds with
|[c,d]=>g c d|_=>none
def bA{g}{r:α}(h:uR g ds=!r):∃d,ds=[d]/\g d=!r:=by cases ds with
|nil=>cases h|cons d t=>cases t with
|nil=>exact#[d,rfl,h]|cons _ _=>cases h
def iB{g}{r:α}(h:Et g ds=!r):∃c d,ds=[c,d]/\g c d=!r:=by cases ds with
|nil=>cases h|cons c t=>cases t with
|nil=>cases h|cons d u=>cases u with
|nil=>exact#[c,d,rfl,h]|cons _ _=>cases h
def uS{K}(l:IsL K H [d] xs):∃v,xs=[v]/\Is K H d v:=by let[v,r,z,h,g]:=l;cases g;exact#[v,z,h]
def KZ{K}{c d}(l:IsL K H [c,d] xs):∃u v,xs=[u,v]/\Is K H c u/\Is K H d v:=by let[u,r,z,h,g]:=l;let[v,j,h2]:=uS g;grind
noncomputable def  seqD:D->T7
|.lst ds=>!ds|.tup ds=>!ds|_=>none
def kr{K}(e:seqD d=!ds)(h:Is K H d v):∃p xs,v=.ref p/\(SqL K H p xs\/SqT K H p xs)/\IsL K H ds xs:=by cases d with
|lst es=>cases e;let[p,xs,z,q,l]:=h;exact#[p,xs,z,.inl q,l]|tup es=>cases e;let[p,xs,z,q,l]:=h;exact#[p,xs,z,.inr q,l]|_=>cases e
def Same.both{K}{a}(s:Same H H')(h:SqL K H a xs\/SqT K H a xs):SqL K H' a xs\/SqT K H' a xs:=by
 rcases h with h|h;.exact .inl (s.seq h)
 .exact .inr (s.seqT h)
def  eZ:Uh->Uj:=uR λd=>(seqD d).bind λds=>!.int ds.length
def  mw:Uh->T7:=uR seqD
def Eu(I:Gl X "list")(C:X.mg "list"=none)(r:bootBuiltins "list"=!.type "list")(U:PX X [e] fa)(J:starEach [e] X.env=[(false,eval e X.env)]:=by rfl):PF X (.Call (.Name "list" p) [e] [] pos) λY=>(fa Y).bind mw:=λO Y=>(pP qN I C r (U O Y) (!2) (!2) J rfl).imp λσ H Q#[E,ds,q,k]=>by
 let[as,e1,q]:=UK q;refine#[E,as,e1,λvs H1 g l=>?_];let[c,rfl,j]:=bA q;let[v,rfl,h]:=uS l;let[p,ys,rfl,t,o]:=kr j h;exact#[p,ys,rfl,msk_le.both t,λb T=>k b ys H1 g T o]
def  eS:Uh->Uj:=uR λd=>(seqD d).bind λds=>!.tup ds
def tj:∀{bs:List Bool}{us:T9},Vals (bs.map V.bl) us->us=bs.map Value.bool
|[],_,.nil=>rfl|b::bs,_,.cons r t=>by cases show _=Value.bool b from r;rw[tj t];rfl
def pY:∀(bs:List Bool),((List.range bs.length).all λi=>bs.getD i true)=bs.all λz=>z
|[]=>rfl|b::bs=>by rw[length_cons,List.range_succ_eq_map,List.all_cons,List.all_map,List.all_cons,<-pY bs];rfl
def call_all(hc:X.calm=true):eJ X (.builtin "all") λxs H Q=>∃(p:Addr)(g:List Bool),xs=[.ref p]/\SqL X.K H p (g.map V.bl)/\Q (.bl (g.all λz=>z)) H:=by
 intro pins s σ H xs us Q I r h;let[l,g,rfl,hl,q]:=h;let[u,rfl,U]:=fw r;cases U;let[C,rv,pl,hz]:=I.list hl;have eb:=tj rv;subst eb;have T:=pl.isList;refine call_all_walk (wpAny_pyIter_list T ?_);refine#[s.heap.objs.size,[s.heap.objs.size,l],[s.heap.objs.size],_,_,_,λi=>g.getD i true,rfl,Walks.list (A:=X.A.in1) (I.ok.hd hc) _ l (Uz (by let[_,e,_]:=T;exact Up e)) (g.map Value.bool).toArray,#[#[_,Uq _ rfl,rfl,rfl],T.push _],λi v s' Q' E' hP J=>?_,λh' tk hk=>?_]
 .have j:(g.map Value.bool)[i]?=!v:=by simpa using hP
  rw[getElem?_map]at j;cases e:g[i]?with
|none=>rw[e]at j;cases j|some b=>
   rw[e]at j;cases j;have e':g.getD i true=b:=by rw[List.getD_eq_getElem?_getD,e];rfl
   dsimp only at J;rw[e']at J;exact wpAny_truthy_bool J
 .have e:((List.range (g.map Value.bool).toArray.size).all λi=>g.getD i true)=g.all λz=>z:=by rw[size_toArray,length_map];exact pY g
  rw[e];exact#[.bl _,H,I.kept λb o t=>hk b o (λhm=>by rw[mem_singleton.mp hm]at t;exact UE _ (Up t)) (Um _ t),rfl,q]
def  Ay:Uh->Option (List Bool)
|[]=>![]|d::ds=>d.asB.bind λb=>(Ay ds).bind λr=>!b::r
noncomputable def  j3:D->T7
|.lst ds=>!ds|_=>none
def b8{K}(e:j3 d=!ds)(h:Is K H d v):∃p xs,v=.ref p/\SqL K H p xs/\IsL K H ds xs:=by cases d with
|lst es=>cases e;exact h|_=>cases e
def  tm:Uh->Uj:=uR λd=>(j3 d).bind λds=>(Ay ds).bind λbs=>!.bl (bs.all λz=>z)
def wU{K}:∀{ds:Uh}{bs:List Bool}{xs:List V},Ay ds=!bs->IsL K H ds xs->xs=bs.map V.bl
|[],_,_,e,l=>by cases e;exact l|d::ds,_,_,e,#[x,r,z,h,l]=>by let[b,e1,e]:=UK e;let[bs,e2,e]:=UK e;cases e;cases asB_some e1;rw[z,wU e2 l,show x=.bl b from h];rfl
noncomputable def  bB:D->Bool
|.non=>true|.bl _=>true|.int _=>true|.str _=>true|_=>false
noncomputable def  mL:D->V
|.non=>.non|.bl b=>.bl b|.int i=>.int i|.str x=>.str x|_=>.non
def jc{K}(f:bB d=true)(h:Is K H d v):v=mL d/\iq v=true:=by cases d<;>first|(cases h;exact#[rfl,rfl])|cases f
def iC{K}:∀{ds:Uh}{xs:List V},ds.all bB=true->IsL K H ds xs->xs=ds.map mL/\xs.all iq=true
|[],_,_,l=>by cases show _=[]from l;exact#[rfl,rfl]|d::ds,_,f,#[x,r,z,h,l]=>by rw[List.all_cons,and_eq_true]at f;let[e1,e2]:=jc f.1 h;let[e3,e4]:=iC f.2 l;rw[z];exact#[by rw[e1,e3];rfl,by rw[List.all_cons,e2,e4];rfl]
def  K0(x:D)(ds:Uh):Bool:=Pl (mL x) (ds.map mL)
def  GZ:D->D->Uj
|x,.lst ds=>if bB x&&ds.all bB then !.bl (K0 x ds)else none|x,.tup ds=>if bB x&&ds.all bB then !.bl (K0 x ds)else none|_,_=>none
def r_in{K}:kb K (Oj K false) GZ:=λO H x y dx C d Q hd t r e k=>by cases C with
|lst ds=>let[h1,h2]:=aj e;rw[and_eq_true]at h1;subst h2;let[p,xs,rfl,q,l]:=r;let[o,I]:=jc h1.1 t;let[j,g]:=iC h1.2 l;exact#[p,xs,rfl,.inl (msk_le.seq q),I,g,k _ H (Same.refl _) (by rw[o,j];rfl)]|tup ds=>let[h1,h2]:=aj e;rw[and_eq_true]at h1;subst h2;let[p,xs,rfl,q,l]:=r;let[o,I]:=jc h1.1 t;let[j,g]:=iC h1.2 l;exact#[p,xs,rfl,.inr (msk_le.seqT q),I,g,k _ H (Same.refl _) (by rw[o,j];rfl)]|_=>cases e
noncomputable def  cV:D->Option String
|.non=>some "NoneType"|.bl _=>some "bool"|.int _=>some "int"|.str _=>some "str"|.tup _=>some "tuple"|.lst _=>some "list"|_=>none
noncomputable def  isI(T n:String):Bool:=T==n||T=="bool"&&n=="int"
noncomputable def  wV(n:String):Bool:=["int","bool","str","list","tuple","dict"].contains n
def Az(K:Frag)(j:cV d=!T)(l:wV n=true):PySem.W.kitOne K (.type T) (.type n)=!isI T n:=by
 have g:n="int"\/n="bool"\/n="str"\/n="list"\/n="tuple"\/n="dict":=by simpa[wV]using l
 cases d<;>first
|(cases j;rcases g with rfl|rfl|rfl|rfl|rfl|rfl<;>rfl)|cases j
def Ew{σ:St}{x}{u c}{b}(I:Inv X pins σ H s)(h:Is X.K H d x)(rx:RelV x u)(hT:cV d=!T)(e:PySem.W.kitOne X.K (.type T) c=!b)(hq:∀tk,Q (.bool b) {s with toks:=tk}):wpAny (!3) A (call (.builtin "isinstance") [u,c]) Q E s:=by cases d with
|non=>cases hT;cases h;cases rx;exact PySem.W.kia_one PySem.W.kitx_none I.kIn True.intro e (λz=>nomatch z) hq|bl y=>cases hT;cases h;cases rx;exact PySem.W.kia_one PySem.W.kitx_bool I.kIn True.intro e (λz=>nomatch z) hq|int i=>cases hT;cases h;let[t,q]:=rx;cases q;exact PySem.W.kia_one PySem.W.kitx_int I.kIn True.intro e (λz=>nomatch z) hq|str i=>cases hT;cases h;let[t,q]:=rx;cases q;exact PySem.W.kia_one PySem.W.kitx_str I.kIn True.intro e (λz=>nomatch z) hq|tup ds=>cases hT;let[a,xs,rfl,q,l]:=h;cases show u=Value.ref a from rx;let[its,_,[o,h1,h2,_],_]:=I.tuple q;exact PySem.W.kia_one PySem.W.kitx_tuple I.kIn #[o,h1,h2] e (λz=>nomatch z) hq|lst ds=>cases hT;let[a,xs,rfl,q,l]:=h;cases show u=Value.ref a from rx;let[its,_,[o,n,h1,h2,_],_]:=I.list q;exact PySem.W.kia_one PySem.W.kitx_list I.kIn #[o,h1,h2] e (λz=>nomatch z) hq|_=>cases hT
def Ex{σ:St}{x}{b}(I:Inv X pins σ H s)(h:Is X.K H d x)(rx:RelV x u)(hT:cV d=!T)(htp:s.heap.get? tp=!#[.type "tuple",dd,.seq its.toArray n,sl])(e:PySem.W.kitAny X.K (.type T) its=!b)(hq:∀tk,Q (.bool b) {s with toks:=tk}):wpAny (!3) A (call (.builtin "isinstance") [u,.ref tp]) Q E s:=by cases d with
|non=>cases hT;cases h;cases rx;exact PySem.W.kia_tup PySem.W.kitx_none I.kIn True.intro htp e (λz=>nomatch z) hq|bl y=>cases hT;cases h;cases rx;exact PySem.W.kia_tup PySem.W.kitx_bool I.kIn True.intro htp e (λz=>nomatch z) hq|int i=>cases hT;cases h;let[t,q]:=rx;cases q;exact PySem.W.kia_tup PySem.W.kitx_int I.kIn True.intro htp e (λz=>nomatch z) hq|str i=>cases hT;cases h;let[t,q]:=rx;cases q;exact PySem.W.kia_tup PySem.W.kitx_str I.kIn True.intro htp e (λz=>nomatch z) hq|tup ds=>cases hT;let[a,xs,rfl,q,l]:=h;cases show u=Value.ref a from rx;let[its,_,[o,h1,h2,_],_]:=I.tuple q;exact PySem.W.kia_tup PySem.W.kitx_tuple I.kIn #[o,h1,h2] htp e (λz=>nomatch z) hq|lst ds=>cases hT;let[a,xs,rfl,q,l]:=h;cases show u=Value.ref a from rx;let[its,_,[o,n,h1,h2,_],_]:=I.list q;exact PySem.W.kia_tup PySem.W.kitx_list I.kIn #[o,h1,h2] htp e (λz=>nomatch z) hq|_=>cases hT
def  Px:D->Option String
|.ty n=>if wV n then !n else none|_=>none
def tq(h:Px d=!n):d=.ty n/\wV n=true:=by cases d with
|ty m=>let[h1,h2]:=aj h;subst h2;exact#[rfl,h1]|_=>cases h
def  AA:Uh->Option (List String)
|[]=>![]|d::ds=>(Px d).bind λn=>(AA ds).bind λr=>!n::r
noncomputable def  IE:D->T7
|.tup ds=>!ds|_=>none
def Ey{K}(e:IE d=!ds)(h:Is K H d v):∃p xs,v=.ref p/\SqT K H p xs/\IsL K H ds xs:=by cases d with
|tup es=>cases e;exact h|_=>cases e
def  oX(c:D):Option (List String):=match Px c with
|some n=>![n]|none=>(IE c).bind AA
def  fg:Uh->Uj:=Et λd c=>(cV d).bind λT=>(oX c).bind λns=>!.bl (ns.any (isI T))
def pZ{K}(hT:cV d=!T):∀{cs:Uh}{ns:List String}{xs:List V}{us:T9},AA cs=!ns->IsL K H cs xs->Vals xs us->PySem.W.kitAny K (.type T) us=!ns.any (isI T)
|[],_,_,_,e,l,r=>by cases e;cases show _=[]from l;cases r;rfl|c::cs,ns,_,_,e,#[x,xr,z,h,l],r=>by let[n,e1,e2]:=UK e;let[ms,e3,e4]:=UK e2;cases e4;let[rfl,hk]:=tq e1;subst z;cases r with|cons r1 r2=>cases show x=.ty n from h;cases show _=Value.type n from r1;show(match PySem.W.kitOne K (.type T) (.type n)with|some true=>!true|some false=>PySem.W.kitAny K (.type T) _|none=>none)=_;rw[Az K hT hk,pZ hT e3 l r2,List.any_cons];cases isI T n<;>rfl
def call_isi:eJ X (.builtin "isinstance") λxs H Q=>∃d c T j,IsL X.K H [d,c] xs/\cV d=!T/\oX c=!j/\Q (.bl (j.any (isI T))) H:=by
 intro pins s σ H xs us Q I r h;let[d,c,T,j,l,g,e,q]:=h;let[x,y,rfl,U,J]:=KZ l;let[u,w',rfl,C,t]:=sM r;unfold oX at e;split at e
 .rename_i n hn;cases e;let[rfl,hk]:=tq hn;cases J;cases t;refine Ew I U C g (Az X.K g hk) λtk=>#[.bl _,H,I.tok tk,rfl,?_];have p:[n].any (isI T)=isI T n:=by simp
  rw[p]at q;exact q
 .let[cs,p,e2]:=UK e;let[tp,ys,rfl,hq,hl]:=Ey p J;cases t;let[its,rv,[o,h1,h2,n,h3],_]:=I.tuple hq;let[oc,od,oda,osl]:=o;cases h2;cases h3;exact Ex I U C g h1 (pZ g e2 hl rv) λtk=>#[.bl _,H,I.tok tk,rfl,q]
end
def PE.ex{g:Type}{t:g->TE}(h:∀z,PE X e (t z)):PE X e λσ H Q=>∃z,t z σ H Q:=λpins s σ H Q I#[z,q]=>h z pins s σ H Q I q
def PTs.ex{g:Type}{t:g->TT}(h:∀z,PTs X e (t z)):PTs X e λσ H Q=>∃z,t z σ H Q:=λpins s σ H Q I#[z,q]=>h z pins s σ H Q I q
def PG.ex{g:Type}{t:g->TG}(h:∀z,PG X e (t z)):PG X e λv σ H Q=>∃z,t z v σ H Q:=λpins s σ H v u Q I r#[z,q]=>h z pins s σ H v u Q I r q
def PSs.ex{g:Type}{t:g->TS}(h:∀z,PSs X e (t z)):PSs X e λD σ H=>∃z,t z D σ H:=λpins s σ H D I#[z,q]=>h z pins s σ H D I q
def  nB(K:Frag)(Hm:Hp)(J:It)(ds:Uh):Prop:=∀(i:Nat)(H:Hp)(O:Ue),Same Hm (msk O H)->(∀b,O b=true->H b≠none)->(∀d,ds[i]?=!d->J.go i H/\∀x H3,J.yld i H x H3->Same H H3/\Is K (msk O H3) d x)/\(ds.length<=i->J.stop i H)
def  tJ(K:Frag)(O:Ue)(Y:Vv)(o:T7):TI:=λσ H R=>VE K O σ H Y/\∃ds,o=!ds/\∀J H',Same H H'->nB K (msk O H') J ds->R J H'
def  PJ(X:Cx)(tg iter:Expr)(f:TX):Prop:=∀O Y,PI X tg iter (tJ X.K O Y (f Y))
section
variable{X:Cx}{tg l e:Expr}{pos:Pos}
def  Py(K:Frag)(tl:TE):TI:=λσ H R=>tl σ H λx H1=>∃a,x=.ref a/\((∃xs,SqL K H1 a xs)/\R (Pb K a) H1\/(∃xs,SqT K H1 a xs)/\R (Pc K a) H1)
def AB(U:PE X l tl):PI X tg l (Py X.K tl):=by
 intro pins s σ H R I h;refine bG (U pins s σ H _ I h) λv g#[x,H1,j,C,J]=>?_;let[a,e,q]:=J;subst e;cases C;have fin:∀b∈[g.heap.objs.size],jW X pins H1 b:=λb hb=>by
  have e:b=g.heap.objs.size:=by simpa using hb
  subst e;exact j.fpOk (UI _) (j.hok.fresh (UI _))
 rcases q with⟨⟨xs,t⟩,q⟩|⟨⟨xs,t⟩,q⟩;.let[r,rv,p,T]:=j.list t;exact wpAny_pyIter_list p.isList #[g.heap.objs.size,[g.heap.objs.size],_,_,H1,rfl,j.kept λb o e=>Um _ e,yu a _,#[_,Uq _ rfl,rfl,rfl],fin,q]
 .let[r,rv,p,T]:=j.tuple t;exact wpAny_pyIter_tuple p #[g.heap.objs.size,[g.heap.objs.size],_,_,H1,rfl,j.kept λb o e=>Um _ e,uW a _,#[_,Uq _ rfl,rfl,rfl],fin,q]
def yL{K}(q:SqL K o a xs)(j:IsL K o ds xs):nB K o (Pb K a) ds:=λi H O s hd=>by have g:=(s.trans msk_le).seq q;refine#[λd hi=>?_,λhi=>#[xs,g,by rw[<-j.len];exact hi]];let[x,l,p]:=j.get hi;refine#[#[xs,x,g,l],λy t#[e,r]=>?_];subst e;have:=r xs g;rw[l]at this;cases this;exact#[Same.refl _,Is.mono s d x p]
def AC{K}(q:SqT K o a xs)(j:IsL K o ds xs):nB K o (Pc K a) ds:=λi H O s hd=>by have g:=(s.trans msk_le).seqT q;refine#[λd hi=>?_,λhi=>#[xs,g,by rw[<-j.len];exact hi]];let[x,l,p]:=j.get hi;refine#[#[xs,x,g,l],λy t#[e,r]=>?_];subst e;have:=r xs g;rw[l]at this;cases this;exact#[Same.refl _,Is.mono s d x p]
def IF(h:PP X l f):PJ X tg l λY=>(f Y).bind seqD:=λO Y=>(AB (h O Y)).imp λσ H R#[E,ds,q,k]=>by
 let[d,p,q]:=UK q;refine#[E,d,p,λv H1 g o=>?_];let[a,xs,rfl,t,j]:=kr q o;rcases t with t|t;.exact#[a,rfl,.inl #[#[xs,msk_le.seq t],k _ H1 g (yL t j)]]
 .exact#[a,rfl,.inr #[#[xs,msk_le.seqT t],k _ H1 g (AC t j)]]
noncomputable def  gx(lo:Int)(n:Nat):Uh:=(!22).map λ(i:Nat)=>D.int (lo+(i:Int))
def nC{K}{lo}:nB K o (Ln lo n) (gx lo n):=λi H O s hd=>by
 have j:(gx lo n).length=n:=by simp[gx]
 refine#[λd hi=>?_,λhi=>by rw[j]at hi;exact hi];have g:i<n:=by have:=(Us.mp hi).1;rw[j]at this;exact this
 refine#[g,λx p#[e,l]=>?_];subst e l;have:d=.int (lo+(i:Int)):=by simp[gx,g]at hi;exact hi.symm
 subst this;exact#[Same.refl _,rfl]
noncomputable def  j4:D->Uk
|.int i=>!i|_=>none
def intD_some(h:j4 d=!i):d=.int i:=by cases d<;>first|(cases h;rfl)|cases h
def  vh(j:Int):Prop:=-2^62<=j/\j<2^62
instance(j:Int):Decidable (vh j):=Classical.propDecidable _
def  nD:Uh->T7:=uR λd=>(j4 d).bind λj=>if vh j then !gx 0 j.toNat else none
def  vi:Uh->T7:=Et λc d=>(j4 c).bind λi=>(j4 d).bind λj=>if vh i/\vh j then !gx i (j-i).toNat else none
def yM(U:Gl X "range")(T:X.mg "range"=none)(ha:PX X [e] fa)(J:starEach [e] X.env=[(false,eval e X.env)]:=by rfl):PJ X tg (.Call (.Name "range" p) [e] [] pos) λY=>(fa Y).bind nD:=λO Y=>(yw U T (ha O Y) J).imp λσ H R#[E,ds,q,k]=>by
 let[as,e1,q]:=UK q;refine#[E,as,e1,λvs H1 l I=>?_];let[c,rfl,t]:=bA q;let[j,r,o]:=UK t;let[h1,h2]:=aj o;subst h2;let[v,rfl,C]:=uS I;cases intD_some r;have g:=h1;exact#[j,by rw[show v=.int j from C],g.1,g.2,k _ H1 l nC]
def yN{p}(hg:Gl X "range")(hm:X.mg "range"=none)(ha:PX X [a,b] fa)(hs:starEach [a,b] X.env=[(false,eval a X.env),(false,eval b X.env)]:=by rfl)(o:starEach [b] X.env=[(false,eval b X.env)]:=by rfl):PJ X tg (.Call (.Name "range" p) [a,b] [] pos) λY=>(fa Y).bind vi:=λO Y=>(yx hg hm (ha O Y) hs o).imp λσ H R#[E,ds,q,k]=>by
 let[as,e1,q]:=UK q;refine#[E,as,e1,λvs H1 r il=>?_];let[c,d,rfl,T]:=iB q;let[i,J,I]:=UK T;let[j,C,t]:=UK I;let[h1,h2]:=aj t;subst h2;let[u,v,rfl,iu,U]:=KZ il;cases intD_some J;cases intD_some C;have l:=h1.1;have g:=h1.2;exact#[i,j,by rw[show u=.int i from iu,show v=.int j from U],#[l.1,l.2,g.1,g.2],k _ H1 r nC]
def  tG(K:Frag)(O:Ue)(Y:Vv)(d:D)(ks:Ub)(o:Option Vv):TG:=λv σ H Q=>VE K O σ H Y/\Is K (msk O H) d v/\∃Y',o=!Y'/\∀σ',VE K O σ' H Y'->σ'.length=σ.length->(∀(j:Nat)(w:V),j∉ks->σ[j]?=!!w->σ'[j]?=!!w)->Q σ' H
def  K1(X:Cx)(ks:Ub)(tg:Expr)(g:D->Vv->Option Vv):Prop:=∀O Y d,PG X tg (tG X.K O Y d ks (g d Y))
def  S8(K:Frag)(O:Ue)(Y:Vv)(ds:Uh)(ks:Ub)(o:Option Vv):GO:=λvs σ H Q=>VE K O σ H Y/\IsL K (msk O H) ds vs/\∃Y',o=!Y'/\∀σ',VE K O σ' H Y'->σ'.length=σ.length->(∀(j:Nat)(w:V),j∉ks->σ[j]?=!!w->σ'[j]?=!!w)->Q σ' H
def  AD(X:Cx)(ks:Ub)(ts:Ui)(g:Uh->Vv->Option Vv):Prop:=∀O Y ds,PGs X ts (S8 X.K O Y ds ks (g ds Y))
noncomputable def  bc(i:Nat):D->Vv->Option Vv:=λd Y=>!Y.set i !d
def Ez(C:X.N.Nodup)(hi:X.N[i]?=!x)(l:D3 X.env.scope x)(p:i∈ks)(t:X.fn x=true\/X.env.scope.names.lookup x=some .local:=by first|exact .inl rfl|exact .inr rfl|assumption):K1 X ks (.Name x pos) (bc i):=λO Y d=>(qF C hi l t).imp λv σ H Q#[E,g,Y',e,k]=>by
 cases e;refine k _ (E.set g) (by simp) λj w r o=>?_;rw[List.getElem?_set_ne λ(z:i=j)=>r (by rw[<-z];exact p)];exact o
def PGs.imp(h:PGs X ts t)(k:∀v σ H Q,t' v σ H Q->t v σ H Q):PGs X ts t':=λpins s σ H vs us Q I r q=>h pins s σ H vs us Q I r (k _ _ _ _ q)
noncomputable def  cv:Uh->Vv->Option Vv:=λds Y=>match ds with|[]=>!Y|_=>none
noncomputable def  aC(g:D->Vv->Option Vv)(gs:Uh->Vv->Option Vv):Uh->Vv->Option Vv:=λds Y=>match ds with|d::r=>(g d Y).bind λY1=>gs r Y1|_=>none
def PGs.ex{e}{g:Type}{t:g->GO}(h:∀z,PGs X e (t z)):PGs X e λv σ H Q=>∃z,t z v σ H Q:=λpins s σ H v u Q I r#[z,q]=>h z pins s σ H v u Q I r q
def gsd_cons(h1:K1 X ks e g)(h2:AD X ks p gs)(hs:(assignEach (e::p) X.env).map (·.2)=assign e X.env::(assignEach p X.env).map (·.2):=by rfl):AD X ks (e::p) (aC g gs):=λO Y ds=>by cases ds with
|nil=>exactλpins s σ H T us Q I r#[_,_,Y',e,_]=>by cases e|cons d r=>refine(sK (h1 O Y d) (PGs.ex λz:Vv=>h2 O z r) hs).imp λT σ H Q#[E,#[x,J,z,ix,il],Y',e,k]=>?_;let[l,e1,e2]:=UK e;exact#[x,J,z,E,ix,l,e1,λC E1 l1 k1=>#[l,E1,il,Y',e2,λo E2 U k2=>k o E2 (U.trans l1) λj w t hw=>k2 j w t (k1 j w t hw)]]
def  nE(n:Nat)(gs:Uh->Vv->Option Vv):D->Vv->Option Vv:=λd Y=>match d with|.tup ds=>if ds.length=n then gs ds Y else none|_=>none
def IG{k n}(I:X.calm=true)(h:AD X ks g p)(C:(assignEach g X.env).length=n:=by rfl)(j:(assignEach g X.env).findIdx? (·.1)=none:=by rfl):K1 X ks (.Tuple g k pos) (nE n p):=λO Y d=>by refine(zV I (PGs.ex λz:Uh=>h O Y z) C j).imp λv σ H Q#[E,r,Y',e,k]=>?_;cases d with
|tup ds=>
  let[a,xs,rfl,t,o]:=r;have l:(if ds.length=n then p ds Y else none)=!Y':=e;split at l;.exact#[a,xs,rfl,msk_le.seqT t,by rw[<-o.len];assumption,ds,E,o,Y',l,k]
  .cases l|_=>cases e
end
noncomputable def  my(step:D->Option Uj):Uh->T7
|[]=>![]|d::ds=>(step d).bind λo=>(my step ds).bind λr=>!match o with|some y=>y::r|none=>r
noncomputable def  p0(g:D->Vv->Option Vv)(ft:T1)(fe:TY)(Y:Vv)(d:D):Option Uj:=(g d Y).bind λY1=>(ft Y1).bind λc=>if c=true then(fe Y1).bind λy=>!!y else !none
def  au(ks:Ub)(fi:TX)(g:D->Vv->Option Vv)(ft:T1)(fe:TY):TX:=λY=>(fi Y).bind λds=>bT (my (p0 g ft fe (gv ks Y)) ds)
def  K2(X:Cx)(ifs:Ui)(f:T1):Prop:=∀O Y,PTs X ifs (On X.K O Y (f Y))
def PTs.imp(h:PTs X ifs t)(k:∀σ H Q,g σ H Q->t σ H Q):PTs X ifs g:=λpins s σ H Q I q=>h pins s σ H Q I (k _ _ _ q)
def EA:K2 X [] λ_=>!true:=λO Y=>pts_nil.imp λσ H Q#[E,b,e,k]=>by cases e;exact k H (Same.refl _)
def EB(h:PQ X c f):K2 X [c] f:=λO Y=>Ej (h O Y)
abbrev xG(K:Frag)(ks:Ub)(g:D->Vv->Option Vv):TG:=λv σ H Q=>∃z:Ue×Vv×D,tG K z.1 z.2.1 z.2.2 ks (g z.2.2 z.2.1) v σ H Q
abbrev xT(K:Frag)(f:T1):TT:=λσ H Q=>∃z:Ue×Vv,On K z.1 z.2 (f z.2) σ H Q
abbrev xE(K:Frag)(f:TY):TE:=λσ H Q=>∃z:Ue×Vv,tP K z.1 z.2 (f z.2) σ H Q
def AE{K}(h:Om K O Y (au ks fi g ft fe Y) σ H Q):sV (tJ K O Y (fi Y)) ks (xG K ks g) (xT K ft) (xE K fe) σ H Q:=by
 let[E,U,e,k]:=h;let[ds,e1,e]:=UK e;let[e2,hz]:=dB e;refine#[E,ds,e1,λJ H1 s1 it=>#[λi m ys H2=>i<=ds.length/\m=ds.length-i/\Same H1 H2/\∃rs rest,IsL K (msk O H2) rs ys/\my _ (ds.drop i)=!rest/\U=rs++rest,#[ds.length,Nat.zero_le _,by simp,Same.refl _,[],U,rfl,by simpa using e2,rfl],?_]];rintro i m ys H2⟨hi,rfl,s2,rs,rest,il,t,et⟩;have E2:=E.grow (s1.trans s2);have hit:=it i H2 O s2.msk E2.dom;have C:ys.length<sizeLine:=by
  rw[<-il.len];have:rs.length<=U.length:=by rw[et,length_append];lia
  lia
 by_cases r:i<ds.length
 .refine .inr ?_;have hd:=getElem?_eq_getElem r;let[go,yl]:=hit.1 _ hd;refine#[go,C,λx H3 hy=>?_];let[s3,ix]:=yl x H3 hy;rw[List.drop_eq_getElem_cons r]at t;let[o,I,t]:=UK t;let[l,er',t]:=UK t;let[T,g1,I]:=UK I;let[c,c1,I]:=UK I;refine#[#[O,gv ks Y,ds[i]],(E2.grow s3).wiped ks,ix,T,g1,λσ4 E4 l4 k4=>#[#[l4,λj w hw=>k4 j w (wipe_iff.mp hw).2 hw],#[O,T],E4,c,c1,λH5 s5=>?_]]
  .have hm:ds.length-(i+1)<ds.length-i:=by lia
   cases c with
|true=>
    refine Iu ?_;let[y,y1,I]:=UK I;cases I;refine#[#[O,T],E4.grow s5,y,y1,λv H6 s6 iv=>#[_,hm,r,rfl,s2.trans (s3.trans (s5.trans s6)),rs++[y],l,(IsL.mono (s3.trans (s5.trans s6)).msk _ _ il).app #[v,[],rfl,iv,rfl],er',?_]];.rw[et,<-Option.some.inj t,List.append_assoc];rfl|false=>refine Ir ?_;cases I;refine#[_,hm,r,rfl,s2.trans (s3.trans s5),rs,l,IsL.mono (s3.trans s5).msk _ _ il,er',?_];rw[et,<-Option.some.inj t]
 .have hie:i=ds.length:=by lia
  subst hie;refine .inl #[hit.2 (UI _),UF C,λp hp=>?_];rw[List.drop_of_length_le (le_refl _)]at t;cases t;rw[List.append_nil]at et;subst et;exact k p ys H2 (s1.trans s2) hp il
mutual
noncomputable def  iD:D->D->Bool
|.non,.non=>true|.bl a,.bl b=>a==b|.bl a,.int b=>(if a then 1 else 0)==b|.int a,.bl b=>a==if b then 1 else 0|.int a,.int b=>a==b|.str a,.str b=>a==b|.tup a,.tup b=>tu a b|.lst a,.lst b=>tu a b|_,_=>false
noncomputable def  tu:Uh->Uh->Bool
|[],[]=>true|a::as,b::bs=>iD a b&&tu as bs|_,_=>false
end
mutual
noncomputable def  wW:D->Nat
|.tup ds=>bF ds+1|.lst ds=>bF ds+1|_=>0noncomputable def  bF:Uh->Nat
|[]=>0|d::ds=>max (wW d) (bF ds)end
mutual
noncomputable def  lG:D->Bool
|.non=>true|.bl _=>true|.int _=>true|.str _=>true|.ty _=>false|.adr _=>false|.tup ds=>jF ds|.lst ds=>jF ds|.obj _ _ _=>false|.dct _ _=>false
noncomputable def  jF:Uh->Bool
|[]=>true|d::ds=>lG d&&jF ds
end
mutual
theorem tw:∀d:D,lG d=true->iD d d=true
|.non,_=>rfl|.bl a,_=>by show(a==a)=true;simp|.int a,_=>by show(a==a)=true;simp|.str a,_=>by show(a==a)=true;simp|.ty _,h=>by cases h|.adr _,h=>by cases h|.tup ds,h=>iE ds h|.lst ds,h=>iE ds h|.obj _ _ _,h=>by cases h|.dct _ _,h=>by cases h
theorem iE:∀ds:Uh,jF ds=true->tu ds ds=true
|[],_=>rfl|d::ds,h=>by have h':(lG d&&jF ds)=true:=h;rw[and_eq_true]at h';show(iD d d&&tu ds ds)=true;rw[tw d h'.1,iE ds h'.2];rfl
end
section
variable{X:Cx}{pins:T5}{σ:St}{H:Hp}{s:Shared}
def Inv.notBoth(I:Inv X pins σ H s)(h:SqT X.K H a xs)(h':SqL X.K H a ys):False:=by let[_,_,[o,e,c,_],_]:=I.tuple h;let[_,_,[o',n,g,j,_],_]:=I.list h';grind
mutual
theorem Is.inj(I:Inv X pins σ H s):∀(d e:D)(v:V),lG d=true->lG e=true->Is X.K H d v->Is X.K H e v->d=e
|d,e,v,hd,he,h,h'=>by cases d with
|non=>cases show v=_ from h;cases e<;>first|exact(Ur he).elim|rfl|(exact absurd (show V.non=_ from h') (by intro z;cases z))|(let[_,_,z,_]:=h';cases z)|cases he
|bl b=>cases show v=_ from h;cases e<;>first|exact(Ur he).elim|(cases show V.bl b=_ from h';rfl)|(exact absurd (show V.bl b=_ from h') (by intro z;cases z))|(let[_,_,z,_]:=h';cases z)|cases he
|int b=>cases show v=_ from h;cases e<;>first|exact(Ur he).elim|(cases show V.int b=_ from h';rfl)|(exact absurd (show V.int b=_ from h') (by intro z;cases z))|(let[_,_,z,_]:=h';cases z)|cases he
|str b=>cases show v=_ from h;cases e<;>first|exact(Ur he).elim|(cases show V.str b=_ from h';rfl)|(exact absurd (show V.str b=_ from h') (by intro z;cases z))|(let[_,_,z,_]:=h';cases z)|cases he
|ty _=>cases hd|adr _=>cases hd|obj _ _ _=>cases hd|dct _ _=>cases hd|tup ds=>let[a,xs,rfl,q,l]:=h;cases e with
   |tup es=>let[a',ys,z,q',l']:=h';cases z;cases I.tuple_inj q q';rw[IsL.inj I ds es xs hd he l l']|lst es=>let[a',ys,z,q',l']:=h';cases z;exact(I.notBoth q q').elim|non=>exact absurd (show V.ref a=_ from h') (by intro z;cases z)|bl _=>exact absurd (show V.ref a=_ from h') (by intro z;cases z)|int _=>exact absurd (show V.ref a=_ from h') (by intro z;cases z)|str _=>exact absurd (show V.ref a=_ from h') (by intro z;cases z)|ty _=>cases he|adr _=>cases he|obj _ _ _=>cases he|dct _ _=>cases he
|lst ds=>let[a,xs,rfl,q,l]:=h;cases e with
|lst es=>let[a',ys,z,q',l']:=h';cases z;cases I.list_inj q q';rw[IsL.inj I ds es xs hd he l l']|tup es=>let[a',ys,z,q',l']:=h';cases z;exact(I.notBoth q' q).elim|non=>exact absurd (show V.ref a=_ from h') (by intro z;cases z)|bl _=>exact absurd (show V.ref a=_ from h') (by intro z;cases z)|int _=>exact absurd (show V.ref a=_ from h') (by intro z;cases z)|str _=>exact absurd (show V.ref a=_ from h') (by intro z;cases z)|ty _=>cases he|adr _=>cases he|obj _ _ _=>cases he|dct _ _=>cases he
theorem IsL.inj(I:Inv X pins σ H s):∀(ds es:Uh)(vs:List V),jF ds=true->jF es=true->IsL X.K H ds vs->IsL X.K H es vs->ds=es
|[],[],_,_,_,_,_=>rfl|[],e::es,vs,_,_,h,#[x,r,z,_]=>by cases show vs=[]from h;cases z|d::ds,[],vs,_,_,#[x,r,z,_],h=>by cases show vs=[]from h;cases z|d::ds,e::es,vs,hd,he,#[x,r,z,h1,h2],#[x',r',z',h1',h2']=>by cases z;cases z';have hd':(lG d&&jF ds)=true:=hd;have he':(lG e&&jF es)=true:=he;rw[and_eq_true]at hd' he';rw[Is.inj I d e x hd'.1 he'.1 h1 h1',IsL.inj I ds es r hd'.2 he'.2 h2 h2']end
def bO:∀(ds es:Uh),(((List.range (min ds.length es.length)).all λj=>iD (ds.getD j .non) (es.getD j .non))&&ds.length==es.length)=tu ds es
|[],[]=>rfl|[],e::es=>by simp[tu]|d::ds,[]=>by simp[tu]|d::ds,e::es=>by
  have ih:=bO ds es;show((List.range (min (ds.length+1) (es.length+1))).all _&&_)=(iD d e&&tu ds es);rw[<-ih,show min (ds.length+1) (es.length+1)=min ds.length es.length+1 by omega,List.range_succ_eq_map,List.all_cons,List.all_map];have e1:((d::ds).length==(e::es).length)=(ds.length==es.length):=by simp
  rw[e1,Bool.and_assoc];rfl
end
section
variable{X:Cx}{pins:T5}{σ:St}{H:Hp}{s:Shared}
def jd(A:Around):A.in1.units=A.units+1:=rfl
def kt:∀{ds:Uh}{i:Nat}{d:D},ds[i]?=!d->wW d<=bF ds
|[],_,_,h=>by simp at h|c::ds,0,d,h=>by simp at h;subst h;show wW c<=max (wW c) (bF ds);omega|c::ds,i+1,d,h=>by have:=kt (ds:=ds) (i:=i) (by simpa using h);show wW d<=max (wW c) (bF ds);omega
def fK:∀{ds:Uh}{i:Nat}{d:D},jF ds=true->ds[i]?=!d->lG d=true
|[],_,_,_,h=>by simp at h|c::ds,0,d,ho,h=>by simp at h;subst h;have ho':(lG c&&jF ds)=true:=ho;rw[and_eq_true]at ho';exact ho'.1|c::ds,i+1,d,ho,h=>by have ho':(lG c&&jF ds)=true:=ho;rw[and_eq_true]at ho';exact fK (ds:=ds) (i:=i) ho'.2 (by simpa using h)
def getD_some{ds:Uh}(h:ds[i]?=!d):ds.getD i .non=d:=by rw[List.getD_eq_getElem?_getD,h];rfl
def fY(go:∀(i:Nat)(d e:D)(x y:V)(u w:Value),ds[i]?=!d->es[i]?=!e->Is X.K H d x->Is X.K H e y->RelV x u->RelV y w->SeqAt.EqAt A s u w (iD d e))(J:IsL X.K H ds xs)(I:IsL X.K H es ys)(r:Vals xs l)(q:Vals ys g)(j:Nat)(h1:j<l.toArray.size)(h2:j<g.toArray.size):SeqAt.EqAt A s l.toArray[j] g.toArray[j] (iD (ds.getD j .non) (es.getD j .non)):=by
 have hx:l[j]?=some l.toArray[j]:=by simp at h1⊢
 have hy:g[j]?=some g.toArray[j]:=by simp at h2⊢
 let[x,e1,C]:=paired_get' r hx;let[y,e2,t]:=paired_get' q hy;let[d,p,U]:=J.get' e1;let[e,o,T]:=I.get' e2;rw[getD_some p,getD_some o];exact go j d e x y _ _ p o U T C t
def lH(h:Is X.K H d x)(f:bB d=true):iq x=true/\x=mL d:=let#[a,b]:=jc f h;#[b,a]
def EC(f:bB d=true)(g:bB e=true):DT (mL d) (mL e)=iD d e:=by cases d<;>cases e<;>first|exact(Ur f).elim|exact(Ur g).elim|rfl
def lI(ds es:Uh)(h:ds.length=es.length):((List.range ds.length).all λj=>iD (ds.getD j .non) (es.getD j .non))=tu ds es:=by have:=bO ds es;rw[<-this,h];simp
def qS(h:ds.length≠es.length):tu ds es=false:=by rw[<-bO];grind
def vj(I:Inv X pins σ H s):∀(n:Nat)(A:Around)(d e:D)(x y:V)(u w:Value),wW d<=n->A.units+n<cLine->lG d=true->lG e=true->Is X.K H d x->Is X.K H e y->RelV x u->RelV y w->SeqAt.EqAt A s u w (iD d e):=by intro n;induction n with
|zero=>
  intro A d e x y u w hn hu T o hx J rx r;have fd:bB d=true:=by cases d with
|tup ds=>exact absurd (show bF ds+1<=0 from hn) (by lia)|lst ds=>exact absurd (show bF ds+1<=0 from hn) (by lia)|ty _=>cases T|adr _=>cases T|obj _ _ _=>cases T|dct _ _=>cases T|_=>rfl
  have g:A.units<cLine:=by omega
  cases fe:bB e with
  |true=>let[f1,e1]:=lH hx fd;let[f2,e2]:=lH J fe;rw[<-EC fd fe,<-e1,<-e2];exact Am rx r f1 f2|false=>cases e with
  |tup es=>let[b,ys,rfl,q,l]:=J;cases r;let[its,rv,p,_]:=I.tuple q;cases d with
    |non=>cases hx;cases rx;exact SeqAt.EqAt.none_tuple p g|bl c=>cases hx;cases rx;exact SeqAt.EqAt.bool_tuple c p g|int c=>cases hx;let[t,rfl]:=rx;exact SeqAt.EqAt.int_tuple c t p g|str c=>cases hx;let[t,rfl]:=rx;exact SeqAt.EqAt.str_tuple c t p g|_=>cases fd
  |lst es=>let[b,ys,rfl,q,l]:=J;cases r;let[its,rv,p,_]:=I.list q;cases d with
    |non=>cases hx;cases rx;exact SeqAt.EqAt.none_list p.isList g|bl c=>cases hx;cases rx;exact SeqAt.EqAt.bool_list c p.isList g|int c=>cases hx;let[t,rfl]:=rx;exact SeqAt.EqAt.int_list c t p.isList g|str c=>cases hx;let[t,rfl]:=rx;exact SeqAt.EqAt.str_list c t p.isList g|_=>cases fd
  |ty _=>cases o|adr _=>cases o|obj _ _ _=>cases o|dct _ _=>cases o|_=>cases fe
|succ n ih=>
  intro A d e x y u w hn hu T o hx J rx r;have g:A.units<cLine:=by lia
  cases fd:bB d with
|true=>
   have h0:wW d<=n:=by cases d<;>first|exact Nat.zero_le _|cases fd
   exact ih A d e x y u w h0 (by lia) T o hx J rx r|false=>cases d with
|tup ds=>have hdn:=Nat.le_of_succ_le_succ hn;let[a,xs,rfl,q,l]:=hx;cases rx;let[its,rv,p,_]:=I.tuple q;cases e with
    |tup es=>
     let[b,ys,rfl,q',l']:=J;cases r;let[C,U,p',_]:=I.tuple q';by_cases hab:a=b;.subst hab;cases I.tuple_inj q q';cases IsL.inj I ds es xs T o l l';rw[show iD (.tup ds) (.tup ds)=true from iE ds T];exact SeqAt.EqAt.same _
     .refine SeqAt.EqAt.of_refs hab ?_;have h:=SeqAt.RcAt.tuples p p' g λj h1 h2=>fY (λi d e x y u w e1 e2 i1 i2 r1 r2=>ih A.in1 d e x y u w (Uy (kt e1) hdn) (by rw[jd];lia) (fK T e1) (fK o e2) i1 i2 r1 r2) l l' rv U j h1 h2;have e1:its.toArray.size=ds.length:=by rw[size_toArray,<-rv.length,l.len]
      have e2:C.toArray.size=es.length:=by rw[size_toArray,<-U.length,l'.len]
      rw[e1,e2,bO]at h;exact h|lst es=>let[b,ys,rfl,q',l']:=J;cases r;let[C,U,p',_]:=I.list q';exact SeqAt.EqAt.tuple_list p p'.isList g|non=>cases J;cases r;exact SeqAt.EqAt.tuple_none p g|bl c=>cases J;cases r;exact SeqAt.EqAt.tuple_bool c p g|int c=>cases J;let[t,rfl]:=r;exact SeqAt.EqAt.tuple_int c t p g|str c=>cases J;let[t,rfl]:=r;exact SeqAt.EqAt.tuple_str c t p g|ty _=>cases o|adr _=>cases o|obj _ _ _=>cases o|dct _ _=>cases o
|lst ds=>have hdn:=Nat.le_of_succ_le_succ hn;let[a,xs,rfl,q,l]:=hx;cases rx;let[its,rv,p,_]:=I.list q;cases e with
    |lst es=>
     let[b,ys,rfl,q',l']:=J;cases r;let[C,U,p',_]:=I.list q';have e1:its.toArray.size=ds.length:=by rw[size_toArray,<-rv.length,l.len]
     have e2:C.toArray.size=es.length:=by rw[size_toArray,<-U.length,l'.len]
     by_cases hab:a=b;.subst hab;cases I.list_inj q q';cases IsL.inj I ds es xs T o l l';rw[show iD (.lst ds) (.lst ds)=true from iE ds T];exact SeqAt.EqAt.same _
     .refine SeqAt.EqAt.of_refs hab ?_;by_cases hl:ds.length=es.length;.have h:=SeqAt.RcAt.lists p.isList p'.isList (by rw[e1,e2,hl]) g λj h1 h2=>fY (λi d e x y u w e1 e2 i1 i2 r1 r2=>ih A.in1 d e x y u w (Uy (kt e1) hdn) (by rw[jd];lia) (fK T e1) (fK o e2) i1 i2 r1 r2) l l' rv U j h1 h2;rw[e1,lI ds es hl]at h;exact h
      .rw[show iD (.lst ds) (.lst es)=false from qS hl];exact SeqAt.RcAt.lists_lengths p.isList p'.isList (by rw[e1,e2];simpa using hl) g|tup es=>let[b,ys,rfl,q',l']:=J;cases r;let[C,U,p',_]:=I.tuple q';exact SeqAt.EqAt.list_tuple p.isList p' g|non=>cases J;cases r;exact SeqAt.EqAt.list_none p.isList g|bl c=>cases J;cases r;exact SeqAt.EqAt.list_bool c p.isList g|int c=>cases J;let[t,rfl]:=r;exact SeqAt.EqAt.list_int c t p.isList g|str c=>cases J;let[t,rfl]:=r;exact SeqAt.EqAt.list_str c t p.isList g|ty _=>cases o|adr _=>cases o|obj _ _ _=>cases o|dct _ _=>cases o
|ty _=>cases T|adr _=>cases T|obj _ _ _=>cases T|dct _ _=>cases T|_=>cases fd
noncomputable def  IH:D->D->Bool
|.tup _,.tup _=>true|.lst _,.lst _=>true|.tup _,.str _=>true|_,_=>false
def  mz(d e:D):Option Bool:=if(bB d&&bB e&&zZ (mL d) (mL e))=true then !decide (mL d=mL e)else if(IH d e&&lG d&&lG e&&decide (wW d<=50))=true then !iD d e else none
def  II(K:Frag)(neg:Bool):R2:=λx y H Q=>∃d e b,Is K H d x/\Is K H e y/\mz d e=!b/\Q (.bl (if neg then not b else b)) H
def cmpEq_cases(h:mz d e=!b):bB d=true/\bB e=true/\zZ (mL d) (mL e)=true/\b=decide (mL d=mL e)\/IH d e=true/\lG d=true/\lG e=true/\wW d<=50/\b=iD d e:=by
 unfold mz at h;split at h;.rename_i c;rw[and_eq_true,and_eq_true]at c;exact .inl #[c.1.1,c.1.2,c.2,(Option.some.inj h).symm]
 .split at h;.rename_i _ c;rw[and_eq_true,and_eq_true,and_eq_true]at c;exact .inr #[c.1.1.1,c.1.1.2,c.1.2,Uv c.2,(Option.some.inj h).symm]
  .cases h
def je(I:Inv X pins σ H s)(C:X.A.units+60<cLine)(p:jF ds=true)(o:jF es=true)(hd:bF ds<=50):∀(i:Nat)(d e:D)(x y:V)(u w:Value),ds[i]?=!d->es[i]?=!e->Is X.K H d x->Is X.K H e y->RelV x u->RelV y w->SeqAt.EqAt X.A.in1 s u w (iD d e):=λi d e x y u w g J t r l j=>vj I 50 X.A.in1 d e x y u w (Uy (kt g) hd) (by rw[jd];lia) (fK p g) (fK o J) t r l j
def AF(hu:X.A.units+60<cLine):OpR X (compareOp .Eq) (II X.K false):=by
 intro pins s σ H x y v u Q I rx ry h;let[d,e,b,hx,hy,hb,q]:=h;have t:X.A.units<cLine:=by lia
 rcases cmpEq_cases hb with⟨f1,f2,sc,rfl⟩|⟨sq,od,oe,hd,rfl⟩;.let[_,J]:=lH hx f1;let[_,e2]:=lH hy f2;exact Lw pins s σ H x y v u Q I rx ry #[by rw[J,e2];exact sc,by rw[J,e2];exact q]
 .cases d with
|tup ds=>cases e with
   |tup es=>
    let[a,xs,rfl,U,l]:=hx;let[c,ys,rfl,q2,l']:=hy;cases rx;cases ry;let[r,rv,p,_]:=I.tuple U;let[o,g,p',_]:=I.tuple q2;have T:bF ds<=50:=by have:bF ds+1<=50:=hd;lia
    have J:r.toArray.size=ds.length:=by rw[size_toArray,<-rv.length,l.len]
    have e2:o.toArray.size=es.length:=by rw[size_toArray,<-g.length,l'.len]
    have C:=SeqAt.RcAt.tuples p p' t λj h1 h2=>fY (je I hu od oe T) l l' rv g j h1 h2;rw[J,e2,bO]at C;exact C X.prog X.w X.xe _ #[.bl _,H,I,rfl,q]|str b=>let[a,xs,rfl,U,l]:=hx;cases hy;cases rx;let[tk,rfl]:=ry;let[r,rv,p,_]:=I.tuple U;exact(SeqAt.RcAt.tuple_str b tk p t) X.prog X.w X.xe _ #[.bl _,H,I,rfl,q]|_=>cases sq
|lst ds=>cases e with
   |lst es=>
    let[a,xs,rfl,U,l]:=hx;let[c,ys,rfl,q2,l']:=hy;cases rx;cases ry;let[r,rv,p,_]:=I.list U;let[o,g,p',_]:=I.list q2;have T:bF ds<=50:=by have:bF ds+1<=50:=hd;lia
    have J:r.toArray.size=ds.length:=by rw[size_toArray,<-rv.length,l.len]
    have e2:o.toArray.size=es.length:=by rw[size_toArray,<-g.length,l'.len]
    by_cases hl:ds.length=es.length;.have C:=SeqAt.RcAt.lists p.isList p'.isList (by rw[J,e2,hl]) t λj h1 h2=>fY (je I hu od oe T) l l' rv g j h1 h2;rw[J,lI ds es hl]at C;exact C X.prog X.w X.xe _ #[.bl _,H,I,rfl,q]
    .rw[show iD (.lst ds) (.lst es)=false from qS hl]at q;exact(SeqAt.RcAt.lists_lengths p.isList p'.isList (by rw[J,e2];simpa using hl) t) X.prog X.w X.xe _ #[.bl _,H,I,rfl,q]|_=>cases sq
|_=>cases sq
def AG(hu:X.A.units+60<cLine):OpR X (compareOp .NotEq) (II X.K true):=by
 intro pins s σ H x y v u Q I rx ry h;let[d,e,b,hx,hy,hb,q]:=h;have t:X.A.units<cLine:=by lia
 rcases cmpEq_cases hb with⟨f1,f2,sc,rfl⟩|⟨sq,od,oe,hd,rfl⟩;.let[_,J]:=lH hx f1;let[_,e2]:=lH hy f2;exact Lx pins s σ H x y v u Q I rx ry #[by rw[J,e2];exact sc,by rw[J,e2];exact q]
 .cases d with
|tup ds=>cases e with
   |tup es=>
    let[a,xs,rfl,U,l]:=hx;let[c,ys,rfl,q2,l']:=hy;cases rx;cases ry;let[r,rv,p,_]:=I.tuple U;let[o,g,p',_]:=I.tuple q2;have T:bF ds<=50:=by have:bF ds+1<=50:=hd;lia
    have J:r.toArray.size=ds.length:=by rw[size_toArray,<-rv.length,l.len]
    have e2:o.toArray.size=es.length:=by rw[size_toArray,<-g.length,l'.len]
    have C:=SeqAt.RcNeAt.tuples p p' t λj h1 h2=>fY (je I hu od oe T) l l' rv g j h1 h2;rw[J,e2,bO]at C;exact C X.prog X.w X.xe _ #[.bl _,H,I,rfl,q]|str b=>let[a,xs,rfl,U,l]:=hx;cases hy;cases rx;let[tk,rfl]:=ry;let[r,rv,p,_]:=I.tuple U;exact(SeqAt.RcNeAt.tuple_str b tk p t) X.prog X.w X.xe _ #[.bl _,H,I,rfl,q]|_=>cases sq
|lst ds=>cases e with
   |lst es=>
    let[a,xs,rfl,U,l]:=hx;let[c,ys,rfl,q2,l']:=hy;cases rx;cases ry;let[r,rv,p,_]:=I.list U;let[o,g,p',_]:=I.list q2;have T:bF ds<=50:=by have:bF ds+1<=50:=hd;lia
    have J:r.toArray.size=ds.length:=by rw[size_toArray,<-rv.length,l.len]
    have e2:o.toArray.size=es.length:=by rw[size_toArray,<-g.length,l'.len]
    by_cases hl:ds.length=es.length;.have C:=SeqAt.RcNeAt.lists p.isList p'.isList (by rw[J,e2,hl]) t λj h1 h2=>fY (je I hu od oe T) l l' rv g j h1 h2;rw[J,lI ds es hl]at C;exact C X.prog X.w X.xe _ #[.bl _,H,I,rfl,q]
    .rw[show iD (.lst ds) (.lst es)=false from qS hl]at q;exact(SeqAt.RcNeAt.lists_lengths p.isList p'.isList (by rw[J,e2];simpa using hl) t) X.prog X.w X.xe _ #[.bl _,H,I,rfl,q]|_=>cases sq
|_=>cases sq
end
def  aP(neg:Bool)(d e:D):Uj:=(mz d e).bind λb=>!.bl (if neg then not b else b)
def wX{K}:kb K (II K neg) (aP neg):=λO H x y dx o d Q hd j g e k=>by let[b,l,p]:=UK e;cases p;exact#[dx,o,b,j.full,g.full,l,k _ H (Same.refl _) rfl]
section
variable{X:Cx}{pos:Pos}{a b e:Expr}
def room60(r:Room k A):A.units+60<cLine:=by have:=r.un;lia
def L8(r:Room k X.A)(j:PP X a fa)(g:PP X b l):PQ X (.Compare a [.Eq] [b] pos) (ag (aa (aP false) fa l)):=pq_cmp (AF (room60 r)) wX j g (dW _)
def L9(r:Room k X.A)(j:PP X a fa)(g:PP X b l):PQ X (.Compare a [.NotEq] [b] pos) (ag (aa (aP true) fa l)):=pq_cmp (AG (room60 r)) wX j g (dW _)
structure Cn(K:Frag)(mg:Str->Ua)(x:Str)(d:D):Prop where ex:∃v u,mg x=!u/\RelV v u/\∀H,Is K H d v
def AH(c:Cn X.K X.mg x d)(g:Gl X x)(hd:(!5)=false:=by decide):PP X (.Name x pos) λ_=>!d:=by let[v,u,h1,h2,j]:=c.ex;exact Em g h1 h2 j hd
end
def  ItK:Bool->Heap->Addr->Addr->Nat->Prop
|true,h,it,l,k=>h.IsListIter it l k|false,h,it,l,k=>h.IsTupleIter it l k
def  CoK:Bool->Heap->Addr->Ug->Prop
|true,h,l,its=>h.IsList l its|false,h,l,its=>h.IsTuple l its
def ItK.at(x:ItK b h g l k)(e:∀o,h.get? g=!o->h'.get? g=!o):ItK b h' g l k:=by
 cases b;.exact Heap.IsTupleIter.at x e
 .exact Heap.IsListIter.at x e
def CoK.at(x:CoK b h l g)(e:∀o,h.get? l=!o->h'.get? l=!o):CoK b h' l g:=by
 cases b;.let[o,a,r]:=x;exact#[o,e o a,r]
 .exact Heap.IsList.at x e
def ItK.live(x:ItK b h j l k):∃o n g,h.get? j=!o/\o.cls=.type n/\o.data=.fields g/\(n="list_iterator"\/n="tuple_iterator"):=by
 cases b;.let[o,e,c,d]:=x;exact#[o,_,_,e,c,d,.inr rfl]
 .let[o,e,c,d]:=x;exact#[o,_,_,e,c,d,.inl rfl]
def AI(hit:s.heap.IsTupleIter it t i)(ht:s.heap.IsTuple t its)(hx:its[i]?=!x)(hQ:∀h',h'.IsTupleIter it t (i+1)->Heap.SameBut it s.heap h'->Q x {s with heap:=h'}):wpAny (!7) A (Builtin.SmallTypes.nextOf (.ref it)) Q E s:=by
 let[o,ho,hc,hd]:=id hit;let[ol,hol,_,nl,hdl]:=ht;have go:wpAny (!7) A.in1 (Builtin.«tuple_iterator.__next__» #[[.ref it],[]]) (λfin s'=>∃v,fin=.done (.ret v)/\wpAny (!7) A (pure v) Q E s') E s:=by show wpAny _ _ (field (.ref it) 0>>=_) _ _ s;refine Ul (wpAny_field ho hd rfl (Ul (wpAny_field ho hd rfl (Ul (wpAny_seqItems hol hdl ?_)))));simp only[Int.toNat_natCast,hx];refine Ul (wpAny_setField ho hd (by simp) (Uo #[x,rfl,Uo (hQ _ #[_,Heap.get?_update_self _ ho (Obj.isFreed_of_fields (Obj.data_mapFields hd _)),(Obj.cls_mapFields ..).trans hc,?_] (Heap.SameBut.update ..))]));rw[Obj.data_mapFields hd];simp[rawInt]
 exact Ul (wpAny_callSpecial?_slot hit.typeIs F.slot_tuple_iterator_next (wpAny_call_entry F.slot_tuple_iterator_next hit.typeIs F.entry_tuple_iterator_next go (F.args_tuple_iterator_next_1 _)))
def qT(hh:A.handled=none)(hit:s.heap.IsTupleIter it t i)(ht:s.heap.IsTuple t its)(hx:its[i]?=none)(hE:∀h' e,Heap.ExtBut it s.heap h'->(∃o,h'.get? e=!o/\o.cls=.type "StopIteration")->E (.ref e) {s with heap:=h'}):wpAny (!7) A (Builtin.SmallTypes.nextOf (.ref it)) Q E s:=by
 let[o,ho,hc,hd]:=id hit;let[ol,hol,_,nl,hdl]:=ht;refine Ul (wpAny_callSpecial?_slot hit.typeIs F.slot_tuple_iterator_next (wpAny_call_entry F.slot_tuple_iterator_next hit.typeIs F.entry_tuple_iterator_next ?_ (F.args_tuple_iterator_next_1 _)));show wpAny _ _ (field (.ref it) 0>>=_) _ _ s;refine Ul (wpAny_field ho hd rfl (Ul (wpAny_field ho hd rfl (Ul (wpAny_seqItems hol hdl ?_)))));simp only[Int.toNat_natCast,hx];refine Ul (wpAny_rule (Ul (wpAny_setField ho hd (by simp) (Ul (Ul (wpAny_newObj_type ?_ (by size_fits)))))));refine Ul (UB (by first|rfl|(simp only[firstArgMember];rfl)) (wpAny_newObj_type (Ul (wpAny_handled ?_)) (by size_fits)));first|rw[show A.in1.handled=none from hh]|rw[hh]
 exact Ul (Uo (wpAny_throw (hE _ _ (((Heap.SameBut.update ..).extBut.push _).push _) #[_,Uq _ rfl,rfl])))
def Ma(hit:ItK b s.heap it l i)(ht:CoK b s.heap l its)(hx:its[i]?=!x)(hQ:∀h',ItK b h' it l (i+1)->Heap.SameBut it s.heap h'->Q x {s with heap:=h'}):wpAny (!7) A (Builtin.SmallTypes.nextOf (.ref it)) Q E s:=by
 cases b;.exact AI hit ht hx hQ
 .exact wpAny_nextOf_list_item hit ht hx hQ
def yO(hh:A.handled=none)(hit:ItK b s.heap it l i)(ht:CoK b s.heap l its)(hx:its[i]?=none)(hE:∀h' e,Heap.ExtBut it s.heap h'->(∃o,h'.get? e=!o/\o.cls=.type "StopIteration")->E (.ref e) {s with heap:=h'}):wpAny (!7) A (Builtin.SmallTypes.nextOf (.ref it)) Q E s:=by
 cases b;.exact qT hh hit ht hx hE
 .exact wpAny_nextOf_list_end hh hit ht hx hE
noncomputable def  ItK.ext(x:ItK b h g l k)(e:Heap.SameBut c h h')(j:g≠c):=x.at λo q=>e.extBut _ _ j q
noncomputable def  CoK.ext(x:CoK b h l g)(e:Heap.SameBut c h h')(j:l≠c):=x.at λo q=>e.extBut _ _ j q
noncomputable def  qb:Bool->Addr->Obj
|true,l=>{cls:=.type "list_iterator",data:=.fields #[ .ref l,.int 0 0]}|false,l=>{cls:=.type "tuple_iterator",data:=.fields #[ .ref l,.int 0 0]}
def AJ(h:CoK b s.heap l its)(hQ:Q (.ref s.heap.objs.size) {s with heap:=s.heap.push (qb b l)}):wpAny (!7) A (pyIter (.ref l)) Q E s:=by
 cases b;.exact wpAny_pyIter_tuple h hQ
 .exact wpAny_pyIter_list h hQ
section
variable{X:Cx}{pins:T5}{σ:List (Option V)}{H:Hp}{s:Shared}{h':Heap}
def nF{g:List Addr}(I:Inv X pins σ H s)(l:∀b∈g,H b=none)(k:∀b o,b∉g->s.heap.get? b=!o->h'.get? b=!o):HOk X.prog X.w H h':=λb u e=>by
 have j:∀b u,H b=!u->b∉g:=λb u e z=>by rw[l b z]at e;cases e
 refine(I.hok b u e).stay (λc v p q=>k c v ?_ q) (λ_ q=>q) λ_ _ q=>q;grind
def Ha{g:List Addr}(j:∀b∈g,jW X pins H b):∀b∈g,(b∈X.ex\/X.s₀.heap.objs.size<=b)/\b≠X.env.locals/\(∀x c,X.env.cells.lookup x=!c->c≠b)/\∀p∈X.pn++pins,p.1≠b:=λb l=>by let[C,f1,f2,t,r,o]:=j b l;grind
def Inv.turnedL{ch:List Addr}(I:Inv X pins σ H s)(hf:∀b∈ch,jW X pins H b)(k:∀b o,b∉ch->s.heap.get? b=!o->h'.get? b=!o):Inv X pins σ H {s with heap:=h',toks:=t'}:=by
 refine I.step (Ha hf) (λb o _ _ hc e _=>k b o hc e) (λb o _ _ hc e _=>#[o.slots,k b o hc e]) (λ_ _ _ _ n=>n) (λb o hc e=>#[o,k b o hc e]) (λ_ _ e=>e) (λ_ _ _ e=>e) (λb ps e=>#[#[ ],by rw[e];simp]) (λm hm=>?_) (nF I (λb hb=>(hf b hb).1) k) I.bare;let[o,es,ep,ho,r]:=hm;exact#[o,es,ep,k _ o (λz=>(hf _ z).2.1 rfl) ho,r]
def Inv.turnedNew{ch:List Addr}{p:Addr}(I:Inv X pins σ H s)(hf:∀b∈ch,jW X pins H b)(k:∀b o,b∉ch->s.heap.get? b=!o->h'.get? b=!o)(hp:s.heap.objs.size<=p)(new:ObjOk X.prog X.w (upd H p o) h' p o):Inv X pins σ (upd H p o) {s with heap:=h',toks:=t'}:=by
 have hn:=I.hok.fresh hp;have keep:∀b u,H b=!u->upd H p o b=!u:=λb u e=>by rw[af (aq e hn)];exact e
 refine I.step (Ha hf) (λb o _ _ hc e _=>k b o hc e) (λb o _ _ hc e _=>#[o.slots,k b o hc e]) λb o _ e n=>by rw[af ((λb o e=>Nat.ne_of_lt (lt_of_lt_of_le (Heap.lt_size e) hp)) b o e)];exact n 
  (λb o hc e=>#[o,k b o hc e]) (λb xs e=>keep b _ e) (λb o u e=>keep b _ e) (λb ps e=>#[#[ ],by rw[keep b _ e];simp]) (λm hm=>?_) ((nF I (λb hb=>(hf b hb).1) k).adopt hn new) I.bare;let[o,es,ep,ho,r]:=hm;exact#[o,es,ep,k _ o (λz=>(hf _ z).2.1 rfl) ho,r]
def  SqK(b:Bool)(K:Frag)(H:Hp)(a:Addr)(xs:List V):Prop:=if b=true then SqL K H a xs else SqT K H a xs
def Inv.coK(I:Inv X pins σ H s)(h:SqK b X.K H a xs):∃g:T9,Vals xs g/\CoK b s.heap a g.toArray/\xs.length<=sizeLine:=by
 cases b;.let[g,r,t,z]:=I.tuple h;exact#[g,r,t,z]
 .let[g,r,t,z]:=I.list h;exact#[g,r,t.isList,z]
def Inv.coK_inj(I:Inv X pins σ H s)(h:SqK b X.K H a xs)(h':SqK b X.K H a ys):xs=ys:=by
 cases b;.exact I.tuple_inj h h'
 .exact I.list_inj h h'
end
def  Pz(K:Frag)(l1 l2:Addr):It:=#[λi H=>∃xs ys x y,SqL K H l1 xs/\SqL K H l2 ys/\xs[i]?=!x/\ys[i]?=!y,λi H v H'=>∃p x y,v=.ref p/\H p=none/\H'=upd H p (.tup [x,y])/\(∀xs,SqL K H l1 xs->xs[i]?=!x)/\∀ys,SqL K H l2 ys->ys[i]?=!y,λi H=>∃xs ys,SqL K H l1 xs/\SqL K H l2 ys/\(xs.length<=i\/ys.length<=i)]
def CoK.get(x:CoK b h l g):∃o,h.get? l=!o/\∃n,o.data=.seq g n:=by
 cases b;.let[o,e,_,n,d]:=x;exact#[o,e,n,d]
 .let[o,e,_,n,d]:=x;exact#[o,e,n,d]
structure ZSt(z TI TO i1 i2 l1 l2:Addr)(k:Nat)(h:Heap):Prop where
 hz:IsZip h z TI TO .none
 hI:IsPair h TI (.ref i1) (.ref i2)hO:∃a d,IsPair h TO a d
 h1:h.IsListIter i1 l1 k
 h2:h.IsListIter i2 l2 k
def ZSt.obj{z TI TO j g p l:Addr}{k:Nat}{h:Heap}(Z:ZSt z TI TO j g p l k h):∀b∈[z,TI,TO,j,g],∃o,h.get? b=!o/\∀v,o.data≠.cell v:=λd hd=>by
 simp at hd;let[r,t,[_,_,e],[_,I,_,T],_,C,_,J]:=Z;rcases hd with rfl|rfl|rfl|rfl|rfl;.exact#[_,r,nofun]
 .exact#[_,t,nofun]
 .exact#[_,e,nofun]
 .exact#[_,I,λv q=>by rw[T]at q;cases q]
 .exact#[_,C,λv q=>by rw[J]at q;cases q]
def AK{P:Program}{w:World}{K:Frag}{U:Ui}{x1:Nat}{tpos:Pos}{l1 l2 z TI TO J C:Addr}(D:ZipApart z TI TO J C l1 l2):Turn P w K (.Tuple U x1 tpos) (Pz K l1 l2) [z,TI,TO,J,C] z (ZSt z TI TO J C l1 l2)where
 mem:=by simp
 obj:=λi h Z=>Z.obj;keep:=λi h h'#[r,t,#[a,d,e],h1,h2]k=>#[k z (by simp) _ r,k TI (by simp) _ t,#[a,d,k TO (by simp) _ e],h1.at λo q=>k J (by simp) o q,h2.at λo q=>k C (by simp) o q];item:=by
  intro X hP hw hK hc i pins s σ H E I hf Z hg;subst hP hw hK;let[xs,ys,x,y,hx,hy,ex,ey]:=hg;let[its,rv,p1,_]:=I.list hx;let[jts,g,p2,_]:=I.list hy;let[u,hu,ru]:=rv.get ex;let[v,hv,rv']:=g.get ey;have ob:=Z.obj;let[r,t,[a,d,e],h1,h2]:=Z;refine wpAny_pyNext_zip_item D r t e h1 h2 p1.isList p2.isList (x:=u) (y:=v) (by simpa using hu) (by simpa using hv) λh' a1 a2 a3 a4 a5 a6 k'=>#[_,rfl,wpAny_letOwnedTupleGo_zip a1 λh2 T l=>?_];have kk:∀d o,d∉[z,TI,TO,J,C]->s.heap.get? d=!o->h2.get? d=!o:=λd o hd e=>by simp at hd;exact l.extBut _ _ hd.1 (k' d o hd.1 hd.2.2.1 hd.2.2.2.1 hd.2.2.2.2 e)
  refine#[.ref s.heap.objs.size,_,I.turnedNew (t':=s.toks) (p:=s.heap.objs.size) (o:=.tup [x,y]) hf kk (UI _) ?_,rfl,#[s.heap.objs.size,x,y,rfl,I.hok.fresh (UI _),rfl,λzs j=>by rw[I.list_inj j hx];exact ex,λzs j=>by rw[I.list_inj j hy];exact ey],#[T,l.extBut _ _ D.TIz (k' _ _ D.TIz D.TITO D.TIi1 D.TIi2 t),#[_,_,l.extBut _ _ D.TOz a2],a3.at λo q=>l.extBut _ _ D.i1z q,a4.at λo q=>l.extBut _ _ D.i2z q],λd hd=>?_];.exact#[by show 2<=sizeLine;decide,[u,v],.cons ru (.cons rv' .nil),#[_,l.extBut _ _ (Nat.ne_of_gt (Up r)) a5,rfl,_,rfl]]
  .let[o,eo,_]:=ob d hd;rw[af (Nat.ne_of_lt (Heap.lt_size eo))];exact(hf d hd).1
 done:=by
  intro X hP hw hK hc i pins s σ H E I hf#[r,t,#[a,d,e],h1,h2]hg;subst hP hw hK;let[xs,ys,hx,hy,hl]:=hg;let[its,rv,p1,_]:=I.list hx;let[jts,g,p2,_]:=I.list hy;have e1:=rv.length;have e2:=g.length;refine wpAny_pyNext_zip_end (I.ok.hd hc) D r t e h1 h2 p1.isList p2.isList ?_ λh' k'=>#[rfl,I.turnedL (t':=s.toks) hf λd o hd e=>?_]
  .rcases hl with hl|hl;.exact .inl (by simp;lia)
   .exact .inr (by simp;lia)
  .simp at hd;exact k' d o hd.1 hd.2.2.1 hd.2.2.2.1 hd.2.2.2.2 e
 self:=λ_ _ _ _ _ Z h=>wpAny_pyIter_zip Z.hz h
section
variable{X:Cx}{tg a b e:Expr}{es:Ui}{p pos:Pos}
def Mb:bootBuiltins "zip"=!.type "zip":=by decide+kernel
def  PB(K:Frag)(ta:TA):TI:=λσ H R=>ta σ H λvs H1=>∃l1 l2 xs ys,vs=[.ref l1,.ref l2]/\SqL K H1 l1 xs/\SqL K H1 l2 ys/\R (Pz K l1 l2) H1
def IJ{r:Ui}{x1:Nat}{tpos:Pos}{ta:TA}(hg:Gl X "zip")(hm:X.mg "zip"=none)(ha:PA X [a,b] ta)(hs:starEach [a,b] X.env=[(false,eval a X.env),(false,eval b X.env)])(j:starEach [b] X.env=[(false,eval b X.env)]):PI X (.Tuple r x1 tpos) (.Call (.Name "zip" p) [a,b] [] pos) (PB X.K ta):=by
 intro pins s σ H R I h;refine Call_ (cz I hg hm Mb (PyProof.Rows.callWith_type1 (bG (ha pos pins s σ H _ I h) λus g#[vs,H1,t,U,q1]=>?_) (by rw[hs,j]) (by rw[j];rfl)));let[l1,l2,xs,ys,e,hx,hy,q]:=q1;subst e;let[u,v,rfl,T,rv]:=sM U;cases T;cases rv;let[its,rx,C,_]:=t.list hx;let[jts,ry,p2,_]:=t.list hy;have t1:@LT.lt Nat _ l1 g.heap.objs.size:=by let[o,e,_]:=C.isList;exact Up e
 have t2:@LT.lt Nat _ l2 g.heap.objs.size:=by let[o,e,_]:=p2.isList;exact Up e
 refine call_zip_2 C.isList p2.isList λh' J a2 a3 a4 a5 a6 k=>wpAny_pyIter_zip J #[_,[g.heap.objs.size+4,g.heap.objs.size+2,g.heap.objs.size+3,g.heap.objs.size,g.heap.objs.size+1],_,_,H1,rfl,t.kept (t':=g.toks) k,AK (by constructor<;>(show(_:Nat)≠_;lia)),#[J,a2,#[_,_,a3],a4,a5],λd hd=>?_,q];have l:g.heap.objs.size<=d:=by simp at hd;rcases hd with rfl|rfl|rfl|rfl|rfl<;>first|exact Nat.le_add_right _ _|exact UI _
 exact t.fpOk l (t.hok.fresh l)
noncomputable def  lJ(xs ys:Uh):Uh:=(xs.zip ys).map λp=>.tup [p.1,p.2]
def SqK.mono{b}{K}(s:Same H H')(h:SqK b K H l xs):SqK b K H' l xs:=by
 cases b;.exact s.seqT h
 .exact s.seq h
def AL{K:Frag}{l:Hp}{t r:Addr}{xs ys:List V}{ds es:Uh}(hx:SqL K l t xs)(hy:SqL K l r ys)(I:IsL K l ds xs)(C:IsL K l es ys):nB K l (Pz K t r) (lJ ds es):=λi H O s hd=>by
 have j:=(s.trans msk_le).seq hx;have g:=(s.trans msk_le).seq hy;unfold lJ;refine#[λd hi=>?_,λhi=>#[xs,ys,j,g,?_]];.rw[getElem?_map]at hi;cases e:(ds.zip es)[i]?with
|none=>rw[e]at hi;cases hi|some pr=>rw[e]at hi;cases hi;let[e1,e2]:=List.getElem?_zip_eq_some.mp e;let[x,ex,ix]:=I.get e1;let[y,J,U]:=C.get e2;refine#[#[xs,ys,x,y,j,g,ex,J],?_];rintro v H3⟨q,x',y',rfl,p,rfl,T,ky⟩;cases ex.symm.trans (T xs j);cases J.symm.trans (ky ys g);have le:=(Same.new p (o:=.tup [x,y])).msk (O:=O);exact#[Same.new p,q,[x,y],rfl,.of (by rw[aH (fX hd p),ah]),x,[y],rfl,Is.mono (s.trans le) _ _ ix,y,[],rfl,Is.mono (s.trans le) _ _ U,rfl]
 .have h1:=I.len;have h2:=C.len;rw[length_map,List.length_zip]at hi;lia
noncomputable def  Mc:D->T7
|.lst ds=>!ds|_=>none
def  vk:Uh->T7:=Et λc d=>(Mc c).bind λxs=>(Mc d).bind λys=>!lJ xs ys
def AM{K:Frag}{H:Hp}{d:D}{ds:Uh}{v:V}(e:Mc d=!ds)(h:Is K H d v):∃p xs,v=.ref p/\SqL K H p xs/\IsL K H ds xs:=by cases d with
|lst es=>cases e;exact h|_=>cases e
def IK{K}(h:SqL K H l xs\/SqT K H l xs):∃b,SqK b K H l xs:=by
 rcases h with h|h;.exact#[true,h]
 .exact#[false,h]
def IL{g:Ui}{x1:Nat}{tpos:Pos}{fa}(hg:Gl X "zip")(hm:X.mg "zip"=none)(ha:PX X [a,b] fa)(hs:starEach [a,b] X.env=[(false,eval a X.env),(false,eval b X.env)])(j:starEach [b] X.env=[(false,eval b X.env)]):PJ X (.Tuple g x1 tpos) (.Call (.Name "zip" p) [a,b] [] pos) λY=>(fa Y).bind vk:=λO Y=>(IJ hg hm (ha O Y) hs j).imp λσ H R#[E,ds,q,k]=>by
 let[as,e1,q]:=UK q;refine#[E,as,e1,λvs H1 C il=>?_];let[c,d,rfl,q1]:=iB q;let[xs,U,T]:=UK q1;let[ys,J,I]:=UK T;cases I;let[u,v,rfl,iu,iv]:=KZ il;let[l1,t,rfl,o,m1]:=AM U iu;let[l2,r,rfl,l,m2]:=AM J iv;exact#[l1,l2,t,r,rfl,msk_le.seq o,msk_le.seq l,k _ H1 C (AL o l m1 m2)]
noncomputable def  AN:D->Uj
|.int i=>!.int (-i)|_=>none
def AO(l:PP X a fa):PP X (.UnaryOp .USub a pos) λY=>(fa Y).bind AN:=λO Y=>(Ls (SX λ_ _ _ _ _ q=>neg_int q) (l O Y)).imp λσ H Q#[E,d,q,k]=>by let[c,o,p]:=UK q;refine#[E,c,o,λv H1 g j=>?_];cases c with
|int i=>cases p;exact#[i,j,k _ H1 g rfl]|_=>cases p
def b_max:bootBuiltins "max"=!.builtin "max":=by decide+kernel
def  PC:Uh->Uj:=Et λc d=>(j4 c).bind λi=>(j4 d).bind λj=>!.int (if j>i then j else i)
def  ED:Uh->Uj:=Et λc d=>(j4 c).bind λi=>(j4 d).bind λj=>!.int (if j<i then j else i)
noncomputable def  IM:D->Bool
|.non=>true|_=>false
def wY{K}(h:Is K H d v):decide (v=.non)=IM d:=by cases d with
|non=>cases h;rfl|bl _=>cases h;rfl|int _=>cases h;rfl|str _=>cases h;rfl|ty _=>cases h;rfl|adr _=>cases h;rfl|tup _=>let[a,xs,rfl,_]:=h;rfl|lst _=>let[a,xs,rfl,_]:=h;rfl|obj _ _ _=>let[a,Ca,dx,fs,rfl,_]:=h;rfl|dct _ _=>let[a,g,rfl,_]:=h;rfl
def  fj(neg:Bool):D->D->Uj
|d,.non=>!.bl (if neg then not (IM d)else IM d)|_,_=>none
def r_isN{K}:kb K (λx y H Q=>y=.non/\Q (.bl (decide (x=.non))) H) (fj false):=λO H x y dx l d Q _ j g e k=>by cases l with
|non=>cases e;exact#[g,k _ H (Same.refl _) (by rw[wY j];rfl)]|_=>cases e
def r_notN{K:Frag}:kb K (λx y H Q=>y=.non/\Q (.bl (not (decide (x=.non)))) H) (fj true):=λO H x y dx l d Q _ j g e k=>by cases l with
|non=>cases e;exact#[g,k _ H (Same.refl _) (by rw[wY j];rfl)]|_=>cases e
def  vm:D->D->Uj
|x,.lst ds=>if bB x&&ds.all bB then !.bl (not (K0 x ds))else none|x,.tup ds=>if bB x&&ds.all bB then !.bl (not (K0 x ds))else none|_,_=>none
def r_notIn{K}:kb K (Oj K true) vm:=λO H x y dx C d Q hd t r e k=>by cases C with
|lst ds=>let[h1,h2]:=aj e;rw[and_eq_true]at h1;subst h2;let[p,xs,rfl,q,l]:=r;let[o,I]:=jc h1.1 t;let[j,g]:=iC h1.2 l;exact#[p,xs,rfl,.inl (msk_le.seq q),I,g,k _ H (Same.refl _) (by rw[o,j];rfl)]|tup ds=>let[h1,h2]:=aj e;rw[and_eq_true]at h1;subst h2;let[p,xs,rfl,q,l]:=r;let[o,I]:=jc h1.1 t;let[j,g]:=iC h1.2 l;exact#[p,xs,rfl,.inr (msk_le.seqT q),I,g,k _ H (Same.refl _) (by rw[o,j];rfl)]|_=>cases e
def  oY(ds:Uh)(lo hi:Uk):Uh:=(ds.drop (HT.sIx ds.length 0 lo)).take (HT.sIx ds.length ds.length hi-HT.sIx ds.length 0 lo)
def AQ{K}(l:IsL K H ds xs)(lo hi:Uk):IsL K H (oY ds lo hi) (yD xs lo hi):=by unfold oY yD;rw[<-l.len];exact .of (mn _ (mo _ l.paired))
def EE:SlR X λx lo hi H Q=>∃a xs,x=.ref a/\SqT X.K H a xs/\(HT.sIx xs.length 0 lo=0/\HT.sIx xs.length xs.length hi=xs.length)/\Q (.ref a) H:=by
 intro pins s σ H x v vl vu lo hi sl Q I rx hs pl pu h;let[a,xs,rfl,hx,hw,q]:=h;cases rx;let[its,r,ht,hz]:=I.tuple hx;have hlen:its.toArray.size=xs.length:=by rw[size_toArray];exact r.length.symm
 refine#["tuple",_,PyProof.Rows.slot_tuple_getitem.lookup,ht.typeIs,?_];let[os,hos,hcs,hds]:=id hs;unfold getItem;try with_reducible refine wpAny_holding ?_
 first|refine Ul (Uo ?_)|skip
 refine Ul (wpAny_sequenceKey ht.typeIs (!2) (Ul (wpAny_callSpecial?_slot ht.typeIs PyProof.Rows.slot_tuple_getitem (wpAny_call_entry PyProof.Rows.slot_tuple_getitem ht.typeIs entry_tuple_getitem ?_ (args_tuple_getitem _ _)))));show wpAny _ _ (Builtin.Tuple.tupleItemsOf (.ref a)>>=_) _ _ s;refine Ul (tupleItemsOf_ ht (Ul (wpAny_typeOf #[os,hos,hcs] (Ul (HT.sliceApplied_gen hs pl pu ?_)))));have hyes:(((HT.sIx its.toArray.size 0 lo:Nat):Int)==0&&(1:Int)==1&&HT.sIx its.toArray.size its.toArray.size hi-HT.sIx its.toArray.size 0 lo==its.toArray.size)=true:=by rw[hlen,hw.1,hw.2];simp
 show wpAny _ _ (if(((HT.sIx its.toArray.size 0 lo:Nat):Int)==0&&(1:Int)==1&&HT.sIx its.toArray.size its.toArray.size hi-HT.sIx its.toArray.size 0 lo==its.toArray.size)=true then _ else _) _ _ s;rw[if_pos hyes];exact Ul (Ul (wpAny_typeOf ht.typeIs (Uo (Ul (wpAny_rule (Uo #[_,rfl,Uo #[.ref a,H,I,rfl,q]]))))))
def  EF(X:Cx)(e:Option Expr)(f:Vv->Option Uk):Prop:=∀O Y,PO X e λσ H Q=>VE X.K O σ H Y/\∃i,f Y=!i/\∀H',Same H H'->Q i H'
def PO.imp{e}(h:PO X e t)(k:∀σ H Q,g σ H Q->t σ H Q):PO X e g:=λpins s σ H Q I q=>h pins s σ H Q I (k _ _ _ q)
def AR:EF X none λ_=>!none:=λO Y=>po_none.imp λσ H Q#[E,i,q,k]=>by cases q;exact k H (Same.refl _)
def  partF(f:TY):Vv->Option Uk:=λY=>(f Y).bind λd=>(j4 d).bind λi=>!!i
def AS(h:PP X e f):EF X (!e) (partF f):=λO Y=>(Ed (h O Y)).imp λσ H Q#[E,i,q,k]=>by let[d,r,p]:=UK q;let[j,o,l]:=UK p;cases l;refine#[E,d,r,λv H1 g t=>?_];cases intD_some o;exact#[j,t,k H1 g]
def  qU(f:TY)(fl fh:Vv->Option Uk):TY:=λY=>(f Y).bind λd=>(fl Y).bind λlo=>(fh Y).bind λhi=>match d with
|.tup ds=>!.tup (oY ds lo hi)|_=>none
def  nH(f:TY)(fl fh:Vv->Option Uk):TX:=λY=>(f Y).bind λd=>(fl Y).bind λlo=>(fh Y).bind λhi=>match d with
|.lst ds=>!oY ds lo hi|_=>none
def yP{lo hi}(h:HT.sIx ds.length 0 lo=0/\HT.sIx ds.length ds.length hi=ds.length):oY ds lo hi=ds:=by unfold oY;rw[h.1,h.2];simp
def IN{lo hi}(h:PP X e f)(hl:EF X lo fl)(hh:EF X hi fh):PP X (.Subscript e (.Slice lo hi none p2) pos) (qU f fl fh):=λO Y=>(sR (sl_tup.or EE) (h O Y) (hl O Y) (hh O Y)).imp λσ H Q#[E,d,q,k]=>by let[c,q1,q]:=UK q;let[l,q2,q]:=UK q;let[u,U,q]:=UK q;refine#[E,c,q1,λv H1 o iv=>#[E.grow o,l,q2,λH2 j=>#[E.grow (o.trans j),u,U,λH3 T=>?_]]];cases c with
|tup ds=>
  cases q;have r:=Is.mono (j.trans T).msk _ _ iv;let[a,xs,rfl,t,C]:=r;have g:=o.trans (j.trans T);by_cases I:HT.sIx xs.length 0 l=0/\HT.sIx xs.length xs.length u=xs.length;.refine .inr #[a,xs,rfl,msk_le.seqT t,I,k _ H3 g ?_];rw[yP (by rw[C.len];exact I)];exact#[a,xs,rfl,t,C]
  .exact .inl #[a,xs,rfl,msk_le.seqT t,I,λp J=>k _ _ (g.trans (Same.new J)) #[p,_,rfl,.of (by rw[aH ((E.grow g).fresh J),ah]),IsL.mono (Same.new J).msk _ _ (AQ C l u)]]|_=>cases q
def AT{lo hi}(h:PP X e f)(hl:EF X lo fl)(hh:EF X hi fh):PF X (.Subscript e (.Slice lo hi none p2) pos) (nH f fl fh):=λO Y=>(sR Ef (h O Y) (hl O Y) (hh O Y)).imp λσ H Q#[E,d,q,k]=>by let[c,J,q]:=UK q;let[l,I,q]:=UK q;let[u,C,q]:=UK q;refine#[E,c,J,λv H1 j T=>#[E.grow j,l,I,λH2 g=>#[E.grow (j.trans g),u,C,λH3 r=>?_]]];cases c with
|lst ds=>cases q;let[a,xs,rfl,t,U]:=Is.mono (g.trans r).msk _ _ T;exact#[a,xs,rfl,msk_le.seq t,λp o=>k p _ H3 (j.trans (g.trans r)) o (AQ U l u)]|_=>cases q
end
inductive Cat where|sh|top|deep deriving DecidableEq
mutual
noncomputable def  lfD:D->Bool
|.tup ds=>dS ds|.lst _=>false|.obj _ _ _=>false|.dct _ _=>false|_=>true
noncomputable def  dS:Uh->Bool
|[]=>true|d::ds=>lfD d&&dS ds
end
mutual
noncomputable def  Deep(K:Frag)(M H:Hp):D->V->List Addr->Prop
|.non,v,A=>v=.non/\A=[]|.bl b,v,A=>v=.bl b/\A=[]|.int i,v,A=>v=.int i/\A=[]|.str x,v,A=>v=.str x/\A=[]|.ty n,v,A=>v=.ty n/\A=[]|.adr a,v,A=>v=.ref a/\A=[]|.tup ds,v,A=>∃a xs,v=.ref a/\(M a=!.tup xs\/dS ds=true/\SqT K M a xs)/\DeepL K M H ds xs A|.lst ds,v,A=>∃a xs A',v=.ref a/\H a=!.lst xs/\A=a::A'/\DeepL K M H ds xs A'|.obj _ _ _,_,_=>False|.dct ks ds,v,A=>∃a kvs A',v=.ref a/\H a=!.dK kvs/\kvs.map (·.1)=ks/\A=a::A'/\DeepL K M H ds (kvs.map (·.2)) A'
noncomputable def  DeepL(K:Frag)(M H:Hp):Uh->List V->List Addr->Prop
|[],xs,A=>xs=[]/\A=[]|d::ds,xs,A=>∃x r A1 A2,xs=x::r/\A=A1++A2/\Deep K M H d x A1/\DeepL K M H ds r A2
end
def  NL(M M':Hp):Prop:=∀b o,M b=!o->¬Hid !o->M' b=!o
def NL.of(s:Same M g):NL M g:=λb o h _=>s b o h
def NL.trans(s:NL M j)(t:NL j g):NL M g:=λb o h q=>t b o (s b o h q) q
def wZ:¬Hid !.tup xs:=by rintro(⟨_,z⟩|⟨_,_,_,z⟩|⟨_,z⟩)<;>cases z
def NL.seqT{K}(e:NL H H')(h:SqT K H a xs):SqT K H' a xs:=by
 rcases h with(h|⟨o,h⟩)|h;.exact .inl (.inl (e _ _ h wZ))
 .exact .inl (.inr #[o,e _ _ h (by rintro(⟨_,z⟩|⟨_,_,_,z⟩|⟨_,z⟩)<;>cases z)])
 .exact .inr h
def tupAt{K}(s:NL M g)(h:M a=!.tup xs\/dS ds=true/\SqT K M a xs):g a=!.tup xs\/dS ds=true/\SqT K g a xs:=by
 rcases h with h|⟨f,h⟩;.exact .inl (s _ _ h wZ)
 .exact .inr #[f,s.seqT h]
def Md{K}(s:NL M g)(h:M a=!.tup xs\/dS ds=true/\SqT K M a xs):SqT K g a xs:=by
 rcases tupAt s h with h|⟨_,h⟩;.exact .of h
 .exact h
mutual
theorem Deep.frame{K:Frag}{M M' H H':Hp}(s:NL M M'):∀(d:D)(v:V)(A:List Addr),(∀a∈A,∀o,H a=!o->H' a=!o)->Deep K M H d v A->Deep K M' H' d v A
|.non,_,_,_,h=>h|.bl _,_,_,_,h=>h|.int _,_,_,_,h=>h|.str _,_,_,_,h=>h|.ty _,_,_,_,h=>h|.adr _,_,_,_,h=>h|.tup ds,_,A,k,#[a,xs,e,q,l]=>#[a,xs,e,tupAt s q,DeepL.frame s ds xs A k l]|.lst ds,_,A,k,#[a,xs,A',e,q,z,l]=>#[a,xs,A',e,k a (by rw[z];exact Ut) _ q,z,DeepL.frame s ds xs A' (λb hb=>k b (by rw[z];exact Uu _ hb)) l]|.obj _ _ _,_,_,_,h=>h.elim|.dct ks ds,_,A,k,#[a,kvs,A',e,q,y,z,l]=>#[a,kvs,A',e,k a (by rw[z];exact Ut) _ q,y,z,DeepL.frame s ds _ A' (λb hb=>k b (by rw[z];exact Uu _ hb)) l]theorem DeepL.frame{K:Frag}{M M' H H':Hp}(s:NL M M'):∀(ds:Uh)(xs:List V)(A:List Addr),(∀a∈A,∀o,H a=!o->H' a=!o)->DeepL K M H ds xs A->DeepL K M' H' ds xs A
|[],_,_,_,h=>h|d::ds,_,A,k,#[x,r,A1,A2,e,z,h,l]=>#[x,r,A1,A2,e,z,Deep.frame s d x A1 (λb hb=>k b (by rw[z];exact UC _ hb)) h,DeepL.frame s ds r A2 (λb hb=>k b (by rw[z];exact UD _ hb)) l]end
mutual
theorem Deep.is{K:Frag}{M M' H:Hp}(s:NL M M'):∀(d:D)(v:V)(A:List Addr),(∀a∈A,∀o,H a=!o->M' a=!o)->Deep K M H d v A->Is K M' d v
|.non,_,_,_,h=>h.1|.bl _,_,_,_,h=>h.1|.int _,_,_,_,h=>h.1|.str _,_,_,_,h=>h.1|.ty _,_,_,_,h=>h.1|.adr _,_,_,_,h=>h.1|.tup ds,_,A,k,#[a,xs,e,q,l]=>#[a,xs,e,Md s q,DeepL.is s ds xs A k l]|.lst ds,_,A,k,#[a,xs,A',e,q,z,l]=>#[a,xs,e,.of (k a (by rw[z];exact Ut) _ q),DeepL.is s ds xs A' (λb hb=>k b (by rw[z];exact Uu _ hb)) l]|.obj _ _ _,_,_,_,h=>h.elim|.dct ks ds,_,A,k,#[a,kvs,A',e,q,y,z,l]=>#[a,kvs,e,k a (by rw[z];exact Ut) _ q,y,DeepL.is s ds _ A' (λb hb=>k b (by rw[z];exact Uu _ hb)) l]theorem DeepL.is{K:Frag}{M M' H:Hp}(s:NL M M'):∀(ds:Uh)(xs:List V)(A:List Addr),(∀a∈A,∀o,H a=!o->M' a=!o)->DeepL K M H ds xs A->IsL K M' ds xs
|[],_,_,_,h=>h.1|d::ds,_,A,k,#[x,r,A1,A2,e,z,h,l]=>#[x,r,e,Deep.is s d x A1 (λb hb=>k b (by rw[z];exact UC _ hb)) h,DeepL.is s ds r A2 (λb hb=>k b (by rw[z];exact UD _ hb)) l]end
mutual
theorem Is.deep{K:Frag}{M H:Hp}:∀(d:D)(v:V),lfD d=true->Is K M d v->Deep K M H d v []
|.non,_,_,h=>#[h,rfl]|.bl _,_,_,h=>#[h,rfl]|.int _,_,_,h=>#[h,rfl]|.str _,_,_,h=>#[h,rfl]|.ty _,_,_,h=>#[h,rfl]|.adr _,_,_,h=>#[h,rfl]|.tup ds,_,f,#[a,xs,e,q,l]=>#[a,xs,e,.inr #[f,q],IsL.deep ds xs f l]|.lst _,_,f,_=>by cases f|.obj _ _ _,_,f,_=>by cases f|.dct _ _,_,f,_=>by cases f
theorem IsL.deep{K:Frag}{M H:Hp}:∀(ds:Uh)(xs:List V),dS ds=true->IsL K M ds xs->DeepL K M H ds xs []
|[],_,_,h=>#[h,rfl]|d::ds,_,f,#[x,r,e,h,l]=>by have f':(lfD d&&dS ds)=true:=f;rw[and_eq_true]at f';exact#[x,r,[],[],e,rfl,Is.deep d x f'.1 h,IsL.deep ds r f'.2 l]end
mutual
theorem Deep.lf{K:Frag}{M H:Hp}:∀(d:D)(v:V)(A:List Addr),lfD d=true->Deep K M H d v A->A=[]
|.non,_,_,_,h=>h.2|.bl _,_,_,_,h=>h.2|.int _,_,_,_,h=>h.2|.str _,_,_,_,h=>h.2|.ty _,_,_,_,h=>h.2|.adr _,_,_,_,h=>h.2|.tup ds,_,A,f,#[a,xs,e,q,l]=>DeepL.lf ds xs A f l|.lst _,_,_,f,_=>by cases f|.obj _ _ _,_,_,f,_=>by cases f|.dct _ _,_,_,f,_=>by cases f
theorem DeepL.lf{K:Frag}{M H:Hp}:∀(ds:Uh)(xs:List V)(A:List Addr),dS ds=true->DeepL K M H ds xs A->A=[]
|[],_,_,_,h=>h.2|d::ds,_,A,f,#[x,r,A1,A2,e,z,h,l]=>by have f':(lfD d&&dS ds)=true:=f;rw[and_eq_true]at f';rw[z,Deep.lf d x A1 f'.1 h,DeepL.lf ds r A2 f'.2 l];rfl
end
mutual
theorem Is.nl{K:Frag}{M M':Hp}(s:NL M M'):∀(d:D)(v:V),lfD d=true->Is K M d v->Is K M' d v
|.non,_,_,h=>h|.bl _,_,_,h=>h|.int _,_,_,h=>h|.str _,_,_,h=>h|.ty _,_,_,h=>h|.adr _,_,_,h=>h|.tup ds,_,f,#[a,xs,e,q,l]=>#[a,xs,e,s.seqT q,IsL.nl s ds xs f l]|.lst _,_,f,_=>by cases f|.obj _ _ _,_,f,_=>by cases f|.dct _ _,_,f,_=>by cases f
theorem IsL.nl{K:Frag}{M M':Hp}(s:NL M M'):∀(ds:Uh)(xs:List V),dS ds=true->IsL K M ds xs->IsL K M' ds xs
|[],_,_,h=>h|d::ds,_,f,#[x,r,e,h,l]=>by have f':(lfD d&&dS ds)=true:=f;rw[and_eq_true]at f';exact#[x,r,e,Is.nl s d x f'.1 h,IsL.nl s ds r f'.2 l]end
def  OwnC(K:Frag)(O:Ue)(H:Hp):Cat->D->V->List Addr->Prop
|.sh,d,v,A=>A=[]/\Is K (msk O H) d v|.top,d,v,A=>∃a ds xs,d=.lst ds/\v=.ref a/\A=[a]/\H a=!.lst xs/\IsL K (msk O H) ds xs|.deep,d,v,A=>Deep K (msk O H) H d v A
def OwnC.frame{K}(s:Same (msk O H) (msk r H'))(k:∀a∈A,∀o,H a=!o->H' a=!o)(h:OwnC K O H c d v A):OwnC K r H' c d v A:=by cases c with
|sh=>exact#[h.1,Is.mono s d v h.2]|top=>let[a,ds,xs,p,t,g,j,l]:=h;exact#[a,ds,xs,p,t,g,k a (by rw[g];exact Ut) _ j,IsL.mono s ds xs l]|deep=>exact Deep.frame (NL.of s) d v A k h
def OwnC.is{K}(s:Same (msk O H) (msk g H))(k:∀a∈A,g a=false)(h:OwnC K O H c d v A):Is K (msk g H) d v:=by cases c with
|sh=>exact Is.mono s d v h.2|top=>let[a,ds,xs,t,C,r,p,l]:=h;subst t;exact#[a,xs,C,.of (by rw[aH (k a (by rw[r];exact Ut))];exact p),IsL.mono s ds xs l]|deep=>exact Deep.is (NL.of s) d v A (λa j o e=>by rw[aH (k a j)];exact e) h
abbrev Sl:=Cat×D
abbrev Ev:=List (Option Sl)
abbrev _root_.T6:=Option Sl
abbrev _root_.T2:=Ev->Option (Sl×Ev)
abbrev _root_.xx:=List D->Option Sl
structure Bs where
 H:Hp
 O:Ue
structure EnvOk(K:Frag)(B:Bs)(O:Ue)(σ:St)(H:Hp)(Y:Ev):Prop where
 same:Same B.H H
 bdom:∀b,B.O b=true->B.H b≠none
 sub:∀b,B.O b=true->O b=true
 lis:∀b,O b=true->Hid (H b)len:σ.length=Y.length
 fp:∃F:Nat->List Addr,(∀(i:Nat)(s:Sl),Y[i]?=!!s->∃v,σ[i]?=!!v/\OwnC K O H s.1 s.2 v (F i))/\(∀i,(F i).Nodup)/\(∀i j a,a∈F i->a∈F j->i=j)/\∀i a,a∈F i->O a=true/\B.H a=none
noncomputable def  ku:Ue:=λ_=>false
def kx:msk ku H=H:=by constructor<;>grind
noncomputable def  vw(Y:Ev):Vv:=Y.map λs=>s.map (·.2)
noncomputable def  Me:T6->Uj
|some (.sh,d)=>!d|some (_,d)=>if lfD d then !d else none|none=>none
def  bV(Y:Ev):Vv:=Y.map Me
noncomputable def  dC(Y:Ev):Ev:=Y.map λs=>s.map λx=>(Cat.sh,x.2)
section
variable{K:Frag}{B:Bs}{O:Ue}{σ:St}{H H':Hp}{Y:Ev}
def  EnvOk.dom(E:EnvOk K B O σ H Y):=λb h=>(E.lis b h).ne
def EnvOk.nl(E:EnvOk K B O σ H Y):NL H (msk O H):=λb o h q=>by cases e:O b with
|false=>rw[aH e];exact h|true=>have h':=E.lis b e;rw[h]at h';exact(q h').elim
def EnvOk.grow(E:EnvOk K B O σ H Y)(s:Same H H'):EnvOk K B O σ H' Y where
 same:=E.same.trans s;bdom:=E.bdom;sub:=E.sub;lis:=λb h=>(E.lis b h).same s;len:=E.len;fp:=by let[F,h1,h2,l,j]:=E.fp;refine#[F,λi x q=>?_,h2,l,j];let[v,e,o]:=h1 i x q;exact#[v,e,o.frame s.msk λa _ u g=>s _ _ g]
def  EnvOk.fresh(E:EnvOk K B O σ H Y)(h:H p=none):=fX E.dom h
def qV{α β:Type}{f}{l:List (Option α)}{i:Nat}{y:β}(h:(l.map f)[i]?=!!y):∃x,l[i]?=!x/\f x=!y:=by rw[getElem?_map]at h;cases e:l[i]?with
|none=>rw[e]at h;cases h|some x=>rw[e]at h;exact#[x,rfl,Option.some.inj h]
def EnvOk.view(E:EnvOk K B O σ H Y):VE K ku σ H (vw Y)where
 lis:=λb h=>by cases h
 len:=by unfold vw;rw[length_map];exact E.len
 sh:=λi d q=>by let[F,h1,h2,l,j]:=E.fp;let[x,e,z]:=qV q;cases x with
|none=>cases z|some s=>cases z;let[v,g,o]:=h1 i s e;exact#[v,g,o.is (by rw[kx];exact msk_le) λ_ _=>rfl]
def EnvOk.viewS(E:EnvOk K B O σ H Y):VE K O σ H (bV Y)where
 lis:=E.lis;len:=by unfold bV;rw[length_map];exact E.len
 sh:=λi d q=>by let[F,h1,h2,I,C]:=E.fp;let[x,e,z]:=qV q;cases x with
|none=>cases z|some s=>let[c,j]:=s;let[v,t,o]:=h1 i _ e;refine#[v,t,?_];cases c with
|sh=>cases z;exact o.2|top=>let[a,ds,xs,p,_]:=o;have g:=z;rw[show j=.lst ds from p]at g;cases g|deep=>let[f,g]:=aj z;subst g;exact Deep.is (NL.of (Same.refl _)) j v (F i) (λa l=>by rw[(Deep.lf j v (F i) f o)]at l;cases l) o
def EnvOk.frozen(E:EnvOk K B O σ H Y):EnvOk K B B.O σ H (dC Y)/\Same (msk O H) (msk B.O H):=by
 have le:Same (msk O H) (msk B.O H):=λb o h=>by let[h1,h2]:=a8 h;rw[aH];exact h2;cases e:B.O b with
|false=>rfl|true=>rw[E.sub b e]at h1;cases h1
 refine#[#[E.same,E.bdom,λ_ h=>h,λb h=>E.lis b (E.sub b h),by unfold dC;rw[length_map];exact E.len,λ_=>[],λi s q=>?_,λ_=>List.nodup_nil,λ_ _ _ h=>(nomatch h),λ_ _ h=>nomatch h],le];let[F,h1,h2,p,j]:=E.fp;let[x,e,z]:=qV q;cases x with
|none=>cases z|some s'=>cases z;let[v,l,o]:=h1 i _ e;refine#[v,l,rfl,o.is le λa g=>?_];cases e:B.O a with
|false=>rfl|true=>exact absurd (j i a g).2 (E.bdom a e)
def EnvOk.viewF(E:EnvOk K B O σ H Y):VE K B.O σ H (vw Y):=by
 have h:=E.frozen.1.viewS;have e:bV (dC Y)=vw Y:=by unfold bV dC vw;rw[List.map_map];apply List.map_congr_left;intro x _;cases x<;>rfl
 rw[e]at h;exact h
def EnvOk.more(E:EnvOk K B O σ H Y){c:Cat}{d:D}{v:V}{A:List Addr}{g:Ue}(s:Same H H')(le:Same (msk O H) (msk g H'))(hO:∀b,g b=true->O b=true\/b∈A)(r:∀b,O b=true->g b=true)(t:∀b∈A,g b=true)(U:∀a∈A,Hid (H' a))(J:A.Nodup)(fr:∀a∈A,H a=none)(h:OwnC K g H' c d v A):EnvOk K B g (σ++[!v]) H' (Y++[!(c,d)])where
 same:=E.same.trans s;bdom:=E.bdom;sub:=λb q=>r b (E.sub b q);lis:=λb q=>by
  rcases hO b q with q|q;.exact(E.lis b q).same s
  .exact U b q
 len:=by rw[length_append,length_append,E.len];rfl
 fp:=by
  let[F,h1,h2,h3,C]:=E.fp;have no:∀i a,a∈F i->a∉A:=λi a I hA=>E.dom a (C i a I).1 (fr a hA);refine#[λi=>if i=Y.length then A else F i,λi x q=>?_,λi=>?_,λi j a hi l=>?_,λi a hi=>?_]
  .by_cases hi:i=Y.length;.subst hi;rw[getElem?_append_right (le_refl _)]at q;simp at q;subst q;refine#[v,?_,by simp only[if_true];exact h];rw[getElem?_append_right (Nat.le_of_eq E.len),E.len];simp
   .have p:i<Y.length:=by
     by_cases h:i<Y.length;.exact h
     .rw[getElem?_append_right (by lia)]at q;cases hk:i-Y.length with
|zero=>lia|succ m=>rw[hk]at q;simp at q
    rw[getElem?_append_left p]at q;let[w,e,o]:=h1 i x q;refine#[w,?_,?_];.rw[getElem?_append_left (by rw[E.len];exact p)];exact e
    .simp only[if_neg hi];exact o.frame le λa I u T=>s _ _ T
  .dsimp only;split;.exact J
   .exact h2 i
  .dsimp only at hi l;split at hi<;>split at l;.lia
   .exact absurd hi (no j a l)
   .exact absurd l (no i a hi)
   .exact h3 i j a hi l
  .dsimp only at hi;split at hi;.exact#[t a hi,E.same.free (fr a hi)]
   .exact#[r a (C i a hi).1,(C i a hi).2]
def getElem?_last{α:Type}(l:List α)(x:α):(l++[x])[l.length]?=!x:=by simp
def cJ{α:Type}{l}{x}(h:i≠l.length){y:α}(e:(l++[x])[i]?=!y):l[i]?=!y:=by
 by_cases hi:i<l.length;.rw[getElem?_append_left hi]at e;exact e
 .rw[getElem?_append_right !6]at e;cases hk:i-l.length with
|zero=>omega|succ m=>rw[hk]at e;simp at e
def EnvOk.put{v:V}{s:Sl}(E:EnvOk K B O (σ++[!v]) H (Y++[!s]))(i:Nat):EnvOk K B O (σ.set i !v) H (Y.set i !s)where
 same:=E.same;bdom:=E.bdom;sub:=E.sub;lis:=E.lis;len:=by have:=E.len;simp at this⊢;exact this
 fp:=by
  let[F,h1,h2,p,r]:=E.fp;have len:σ.length=Y.length:=by have:=E.len;simp at this;exact this
  let[J,t,I]:=h1 Y.length s (getElem?_last _ _);rw[<-len,getElem?_last]at t;cases t;refine#[λj=>if j=i then F Y.length else if j=Y.length then[]else F j,λj x q=>?_,λj=>?_,λj k a g l=>?_,λj a g=>?_]
  .rcases get_set_some q with⟨e,o⟩|⟨e,o⟩
   .cases o;subst e;have hi:j<σ.length:=by rw[len];exact pV q
    exact#[v,by simp[hi],by simp only[if_true];exact I]
   .have g:j≠Y.length:=by have:=(Us.mp o).1;lia
    let[w,T,C]:=h1 j x (by rw[getElem?_append_left (List.getElem?_eq_some_iff.mp o).1];exact o);refine#[w,?_,by simp only[if_neg e,if_neg g];exact C];rw[List.getElem?_set_ne (Ne.symm e)];exact cJ (by rw[len];exact g) T
  .dsimp only;split;.exact h2 _
   .split;.exact List.nodup_nil
    .exact h2 _
  .dsimp only at g l;split at g
   .split at l;.lia
    .split at l;.cases l
     .have:=p _ _ a g l;lia
   .split at g;.cases g
    .split at l;.have:=p _ _ a g l;lia
     .split at l;.cases l
      .exact p _ _ a g l
  .dsimp only at g;split at g;.exact r _ a g
   .split at g;.cases g
    .exact r _ a g
def EnvOk.drop{v:V}{s:Sl}(E:EnvOk K B O (σ++[!v]) H (Y++[!s])):EnvOk K B O σ H Y where
 same:=E.same;bdom:=E.bdom;sub:=E.sub;lis:=E.lis;len:=by have:=E.len;simp at this;exact this
 fp:=by
  let[F,h1,h2,p,o]:=E.fp;have len:σ.length=Y.length:=by have:=E.len;simp at this;exact this
  refine#[F,λj x q=>?_,h2,p,o];have l:=(Us.mp q).1;let[w,r,g]:=h1 j x (by rw[getElem?_append_left l];exact q);exact#[w,cJ (by lia) r,g]
def EnvOk.setSh(E:EnvOk K B O σ H Y)(h:Is K (msk O H) d v):EnvOk K B O (σ.set i !v) H (Y.set i !(.sh,d)):=(E.more (c:=.sh) (A:=[]) (Same.refl _) (Same.refl _) (λ_ h=>.inl h) (λ_ h=>h) (!28) (!28) List.nodup_nil (!28) #[rfl,h]).put i
end
mutual
theorem Deep.lists{K:Frag}{M H:Hp}:∀(d:D)(v:V)(A:List Addr),Deep K M H d v A->∀a∈A,Hid (H a)
|.non,_,_,h,_,q=>by rw[h.2]at q;cases q|.bl _,_,_,h,_,q=>by rw[h.2]at q;cases q|.int _,_,_,h,_,q=>by rw[h.2]at q;cases q|.str _,_,_,h,_,q=>by rw[h.2]at q;cases q|.ty _,_,_,h,_,q=>by rw[h.2]at q;cases q|.adr _,_,_,h,_,q=>by rw[h.2]at q;cases q|.tup ds,_,A,#[a,xs,e,_,l],b,q=>DeepL.lists ds xs A l b q|.lst ds,_,A,#[a,xs,A',e,h,z,l],b,q=>by
  rw[z]at q;rcases mem_cons.mp q with rfl|q;.exact .inl #[xs,h]
  .exact DeepL.lists ds xs A' l b q|.obj _ _ _,_,_,h,_,_=>h.elim|.dct ks ds,_,A,#[a,kvs,A',e,h,y,z,l],b,q=>by
  rw[z]at q;rcases mem_cons.mp q with rfl|q;.exact .inr (.inr #[kvs,h])
  .exact DeepL.lists ds _ A' l b q
theorem DeepL.lists{K:Frag}{M H:Hp}:∀(ds:Uh)(xs:List V)(A:List Addr),DeepL K M H ds xs A->∀a∈A,Hid (H a)
|[],_,_,h,_,q=>by rw[h.2]at q;cases q|d::ds,_,A,#[x,r,A1,A2,e,z,h,l],b,q=>by
  rw[z]at q;rcases mem_append.mp q with q|q;.exact Deep.lists d x A1 h b q
  .exact DeepL.lists ds r A2 l b q
end
def DeepL.len{K}:∀{ds:Uh}{xs:List V}{A:List Addr},DeepL K M H ds xs A->ds.length=xs.length
|[],_,_,h=>by rw[h.1];rfl|_::_,_,_,#[x,r,A1,A2,e,z,h,l]=>by rw[e,length_cons,length_cons,DeepL.len l]
def DeepL.snoc{K}(h:Deep K M H y v A'):∀{ds:Uh}{xs:List V}{A:List Addr},DeepL K M H ds xs A->DeepL K M H (ds++[y]) (xs++[v]) (A++A')
|[],_,_,l=>by rw[l.1,l.2];exact#[v,[],A',[],rfl,by simp,h,rfl,rfl]|d::ds,_,_,#[x,r,A1,A2,e,z,q,l]=>by rw[e,z];exact#[x,r++[v],A1,A2++A',rfl,by rw[List.append_assoc],q,DeepL.snoc h l]
def  PU(X:Cx)(e:Expr)(t:TE):Prop:=PE X e t/\∀(i:Nat)(x:Str)(px spos:Pos),X.N.Nodup->X.N[i]?=!x->X.env.scope.names.lookup x=some .local->swapsWith e (!.Name x px) spos.line X.env=pure true->PS X (.Assign [.Name x px] e spos) (zX t (sJ i))
def PU.imp(h:PU X e t)(k:∀σ H Q,j σ H Q->t σ H Q):PU X e j:=#[h.1.imp k,λi x l g a b c d=>(h.2 i x l g a b c d).imp λo σ H q=>k σ H _ q]
def PE.by2(h1:PE X e j)(h2:PE X e g)(k:∀σ H Q,t σ H Q->j σ H Q\/g σ H Q):PE X e t:=λpins s σ H Q I q=>(k σ H Q q).elim (h1 pins s σ H Q I) (h2 pins s σ H Q I)
def PS.by2(h1:PS X e l)(h2:PS X e j)(k:∀g σ H,t g σ H->l g σ H\/j g σ H):PS X e t:=λpins s σ H Q I q=>(k Q σ H q).elim (h1 pins s σ H Q I) (h2 pins s σ H Q I)
def PU.by2(h1:PU X e o)(h2:PU X e l)(k:∀σ H Q,t σ H Q->o σ H Q\/l σ H Q):PU X e t:=#[h1.1.by2 h2.1 k,λi x j g a b c d=>(h1.2 i x j g a b c d).by2 (h2.2 i x j g a b c d) λp σ H q=>k σ H _ q]
def PU.ex{j:Type}{t:j->TE}(h:∀z,PU X e (t z)):PU X e λσ H Q=>∃z,t z σ H Q:=#[PE.ex λz=>(h z).1,λi x l g a b c d pins s σ H D I#[z,q]=>(h z).2 i x l g a b c d pins s σ H D I q]
noncomputable def  iF:Expr->Bool
|.ListComp _ _ _ _=>true|.SetComp _ _ _ _=>true|.DictComp _ _ _ _ _=>true|_=>false
def nI(h:iF e=false)(t:Option Expr)(l:Nat)(env:Env):swapsWith e t l env=pure false:=by cases e<;>first|rfl|cases h
def PE.pu(h:PE X e t)(l:iF e=false):PU X e t:=#[h,λi x o g _ _ _ q=>by rw[nI l]at q;have j:=q;cases j]
def w5(I:X.calm=true)(S:CSc X scope ks)(hi:PI X tg iter J)(r:∀C s H fp,PG (!18) tg g)(j:∀C s H fp,PTs (!18) ifs tt)(t:∀C s H fp,PE (!18) elt te)(p:∀x,foldedSetIterable iter X.env x=pure x):PU X (!12) (sV J ks g tt te):=#[Ek I S hi r j t p,λi x px o hN T U l=>El hN T U I S hi r j t l p]
def  Oo(K:Frag)(Y:Vv)(o:Uj):TE:=λσ H Q=>VE K ku σ H Y/\∃d,o=!d/\∀v H' A,Same H H'->Deep K H' H' d v A->A.Nodup->(∀a∈A,H a=none)->Q v H'
def  PD(K:Frag)(Y:Vv)(o:T7):TA:=λσ H Q=>VE K ku σ H Y/\∃ds,o=!ds/\∀vs H' A,Same H H'->DeepL K H' H' ds vs A->A.Nodup->(∀a∈A,H a=none)->Q vs H'
def  vn(X:Cx)(e:Expr)(f:TY):Prop:=∀Y,PU X e (Oo X.K Y (f Y))
def  yQ(X:Cx)(es:Ui)(f:TX):Prop:=∀Y,PA X es (PD X.K Y (f Y))
def  PPu(X:Cx)(e:Expr)(f:TY):Prop:=∀O Y,PU X e (tP X.K O Y (f Y))
def  PFu(X:Cx)(e:Expr)(f:TX):Prop:=∀O Y,PU X e (Om X.K O Y (f Y))
section
variable{X:Cx}{e:Expr}{es:Ui}{pos:Pos}
noncomputable def  nJ(o:Uj):Uj:=o.bind λd=>if lfD d then !d else none
noncomputable def  fL(o:T7):Uj:=o.bind λds=>if dS ds then !.lst ds else none
def IP{K}(h:Oo K Y (nJ o) σ H Q):tP K ku Y o σ H Q:=by let[E,d,e,k]:=h;let[g,l,p]:=UK e;let[f,j]:=aj p;subst j;exact#[E,g,l,λv H' s i=>k v H' [] s (Is.deep g v f i) List.nodup_nil λ_ q=>nomatch q]
def Mg(h:PPu X e f):vn X e λY=>nJ (f Y):=λY=>(h ku Y).imp λσ H Q q=>IP q
def AU(h:PFu X e f):vn X e λY=>fL (f Y):=λY=>(h ku Y).imp λσ H Q q=>(λh=>by
 let[E,d,e,k]:=h;let[ds,t,o]:=UK e;let[f,r]:=aj o;subst r;refine#[E,ds,t,λp xs H' s g l=>k _ _ [p] (s.trans (Same.new g)) #[p,xs,[],rfl,ah,rfl,DeepL.frame (NL.of (Same.new g)) ds xs [] (λ_ q=>nomatch q) (IsL.deep (H:=H') ds xs f l)] (by simp) λa j=>?_];.rw[mem_singleton.mp j];exact s.free g) q
noncomputable def  aI{α β:Type}(f g:α->Option β):α->Option β:=λx=>match f x with|some y=>!y|none=>g x
def or_some{x:α}{y:j}(h:aI f g x=!y):f x=!y\/g x=!y:=by grind[aI]
def Hb(h1:vn X e f)(h2:vn X e g):vn X e (aI f g):=λY=>(h1 Y).by2 (h2 Y) λσ H Q#[E,d,q,k]=>by rcases or_some q with q|q;all_goals grind
def tz:vn X e λ_=>none:=λY=>#[λ_ _ _ _ _ _#[_,_,q,_]=>(by cases q),λ_ _ _ _ _ _ _ _ _ _ _ _ _ _#[_,_,q,_]=>by cases q]
def qW:PPu X e λ_=>none:=λO Y=>#[λ_ _ _ _ _ _#[_,_,q,_]=>(by cases q),λ_ _ _ _ _ _ _ _ _ _ _ _ _ _#[_,_,q,_]=>by cases q]
def cW:PFu X e λ_=>none:=λO Y=>#[λ_ _ _ _ _ _#[_,_,q,_]=>(by cases q),λ_ _ _ _ _ _ _ _ _ _ _ _ _ _#[_,_,q,_]=>by cases q]
def vo(h1:PPu X e f)(h2:PPu X e g):PPu X e (aI f g):=λO Y=>(h1 O Y).by2 (h2 O Y) λσ H Q#[E,d,q,k]=>by rcases or_some q with q|q;all_goals grind
def Deep.have{K}(h:Deep K M H d v A)(q:a∈A):H a≠none:=by exact(Deep.lists d v A h a q).ne
def frs_cons(h:vn X e f)(hr:yQ X es g)(hs:starEach (e::es) X.env=(false,eval e X.env)::starEach es X.env):yQ X (e::es) (ae f g):=λY=>(bi (h Y).1 (hr Y) hs).imp λσ H Q#[E,ds,q,k]=>by
 let[d,e1,q]:=UK q;let[r,e2,q]:=UK q;cases q;refine#[E,d,e1,λv H1 C p t T f1=>#[E.grow p,r,e2,λI H2 A2 l U J f2=>k _ H2 _ (p.trans l) #[v,I,C,A2,rfl,rfl,Deep.frame (NL.of l) d v C (λa _ o h=>l _ _ h) t,U] ?_ ?_]];.refine List.nodup_append.mpr #[T,J,λa j b hb z=>?_];subst z;exact t.have j (f2 a hb)
 .intro a j;rcases mem_append.mp j with j|j;.exact f1 a j
  .exact p.free (f2 a j)
def IQ(h:yQ X es g):vn X (.List es pos) λY=>(bT (g Y)).bind λds=>!.lst ds:=λY=>PE.pu ((Ae (h Y)).imp λσ H Q#[E,d,q,k]=>by
 let[ds,z,J]:=UK q;cases J;let[T,U]:=dB z;refine#[E,ds,T,λr H1 A I l n f=>#[by rw[<-l.len];exact UF U,λp j=>?_]];have t:p∉A:=λz=>by exact(DeepL.lists ds r A l p z).ne j 
 refine k _ _ _ (I.trans (Same.new j)) #[p,r,A,rfl,ah,rfl,DeepL.frame (NL.of (Same.new j)) ds r A (λa _ o h=>Same.new j _ _ h) l] (List.nodup_cons.mpr #[t,n]) λa C=>?_;rcases mem_cons.mp C with rfl|C;.exact I.free j
 .exact f a C) rfl
def IR{x1}(h:yQ X es g):vn X (.Tuple es x1 pos) λY=>(bT (g Y)).bind λds=>!.tup ds:=λY=>PE.pu ((qJ (h Y)).imp λσ H Q#[E,d,q,k]=>by let[ds,z,C]:=UK q;cases C;let[I,J]:=dB z;refine#[E,ds,I,λr H1 A t l n f=>#[by rw[<-l.len];exact UF J,λp j=>?_]];exact k _ _ A (t.trans (Same.new j)) #[p,r,rfl,.inl ah,DeepL.frame (NL.of (Same.new j)) ds r A (λa _ o h=>Same.new j _ _ h) l] n f) rfl
abbrev S9(K:Frag)(f:TY):TE:=λσ H Q=>∃z:Vv,Oo K z (f z) σ H Q
def vq{K}(h:Oo K Y ((au ks fi g ft fe Y).bind λds=>!.lst ds) σ H Q):sV (tJ K ku Y (fi Y)) ks (xG K ks g) (xT K ft) (S9 K fe) σ H Q:=by
 let[E,d,ee,k]:=h;let[l,ef,ed]:=UK ee;cases ed;let[ds,e1,e]:=UK ef;let[e2,hz]:=dB e;refine#[E,ds,e1,λJ H1 s1 it=>#[λi m ys H2=>i<=ds.length/\m=ds.length-i/\Same H1 H2/\∃C rest A,DeepL K H2 H2 C ys A/\A.Nodup/\(∀a∈A,H a=none)/\my _ (ds.drop i)=!rest/\l=C++rest,#[ds.length,Nat.zero_le _,by simp,Same.refl _,[],l,[],#[rfl,rfl],List.nodup_nil,λ_ q=>(nomatch q),by simpa using e2,rfl],?_]];rintro i m ys H2⟨hi,rfl,s2,C,rest,A,il,nd,fr,T,et⟩;have E2:=E.grow (s1.trans s2);have hit:=it i H2 ku s2.msk E2.dom;have U:ys.length<sizeLine:=by
  rw[<-il.len];have:C.length<=l.length:=by rw[et,length_append];lia
  lia
 by_cases I:i<ds.length
 .refine .inr ?_;have hd:=getElem?_eq_getElem I;let[go,yl]:=hit.1 _ hd;refine#[go,U,λx H3 hy=>?_];let[s3,ix]:=yl x H3 hy;rw[List.drop_eq_getElem_cons I]at T;let[o,eo,T]:=UK T;let[r,er',T]:=UK T;let[Y1,g1,eo]:=UK eo;let[c,c1,eo]:=UK eo;refine#[#[ku,gv ks Y,ds[i]],(E2.grow s3).wiped ks,ix,Y1,g1,λσ4 E4 l4 k4=>#[#[l4,λj w hw=>k4 j w (wipe_iff.mp hw).2 hw],#[ku,Y1],E4,c,c1,λH5 s5=>?_]]
  .have hm:ds.length-(i+1)<ds.length-i:=by lia
   cases c with
|true=>
    refine Iu ?_;let[y,y1,eo]:=UK eo;cases eo;refine#[Y1,E4.grow s5,y,y1,λv H6 A' s6 iv nv fv=>#[_,hm,I,rfl,s2.trans (s3.trans (s5.trans s6)),C++[y],r,A++A',?_,?_,?_,er',?_]];.have s36:=s3.trans (s5.trans s6);have il':=DeepL.frame (NL.of s36) C ys A (λa _ o h=>s36 _ _ h) il;exact DeepL.snoc iv il'
    .refine List.nodup_append.mpr #[nd,nv,λa t b hb z=>?_];subst z;exact((DeepL.lists C ys A il a t).same (s3.trans s5)).ne (fv a hb)
    .intro a t;rcases mem_append.mp t with t|t;.exact fr a t
     .exact(s1.trans (s2.trans (s3.trans s5))).free (fv a t)
    .rw[et,<-Option.some.inj T,List.append_assoc];rfl|false=>refine Ir ?_;cases eo;have s35:=s3.trans s5;refine#[_,hm,I,rfl,s2.trans s35,C,r,A,DeepL.frame (NL.of s35) C ys A (λa _ o h=>s35 _ _ h) il,nd,fr,er',?_];rw[et,<-Option.some.inj T]
 .have hie:i=ds.length:=by lia
  subst hie;refine .inl #[hit.2 (UI _),UF U,λp hp=>?_];rw[List.drop_of_length_le (le_refl _)]at T;cases T;rw[List.append_nil]at et;subst et;have hpA:p∉A:=λz=>by exact(DeepL.lists l ys A il p z).ne hp 
  refine k _ _ _ (s1.trans (s2.trans (Same.new hp))) #[p,ys,A,rfl,ah,rfl,DeepL.frame (NL.of (Same.new hp)) l ys A (λa _ o h=>Same.new hp _ _ h) il] (List.nodup_cons.mpr #[hpA,nd]) λa t=>?_;rcases mem_cons.mp t with rfl|t;.exact(s1.trans s2).free hp
  .exact fr a t
end
def  RK(K:Frag)(B:Bs)(O:Ue)(Y:Ev)(o:Option (Sl×Ev)):TE:=λσ H Q=>EnvOk K B O σ H Y/\∃s Y',o=!(s,Y')/\∀v H' O',Same (msk O H) (msk O' H')->EnvOk K B O' (σ++[!v]) H' (Y'++[!s])->Q v H'
def  qc(X:Cx)(e:Expr)(g:T2):Prop:=∀B O Y,PU X e (RK X.K B O Y (g Y))
section
variable{X:Cx}{e:Expr}
def  gy(f:TY):T2:=λY=>(f (vw Y)).bind λd=>!((.deep,d),Y)
def  kz(f:TX):T2:=λY=>(f (bV Y)).bind λds=>!((.top,.lst ds),Y)
def  qX(f:TY):T2:=λY=>(f (bV Y)).bind λd=>!((.sh,d),Y)
def  AV(f:TY):T2:=λY=>(f (vw Y)).bind λd=>!((.sh,d),dC Y)
def AW(h:vn X e f):qc X e (gy f):=λB O Y=>(h (vw Y)).imp λσ H Q#[E,s,Y',q,k]=>by
 let[d,l,j]:=UK q;cases j;refine#[E.view,d,l,λv H' A s i n f=>?_];have p:=Deep.lists d v A i;have t:∀b,(O b||decide (b∈A))=true->Hid (H' b):=λb g=>by
  rcases(Bool.or_eq_true _ _).mp g with g|g;.exact(E.lis b g).same s
  .exact p b (Uv g)
 have le:Same (msk O H) (msk (λb=>O b||decide (b∈A)) H'):=λb o q=>by
  let[l,j]:=a8 q;have g:b∉A:=λz=>by rw[f b z]at j;cases j
  rw[aH (by simp[l,g])];exact s _ _ j
 refine k v H' _ le (E.more s le (λb g=>?_) λb g=>by simp[g] λb g=>by simp[g] p n f ?_)
 .rcases(Bool.or_eq_true _ _).mp g with g|g;.exact .inl g
  .exact .inr (Uv g)
 .refine Deep.frame (λb o g r=>?_) d v A (λa _ o h=>h) i;cases z:O b||decide (b∈A)with
|false=>rw[aH z];exact g|true=>have e:=t b z;rw[g]at e;exact(r e).elim
def AX(h:PFu X e f):qc X e (kz f):=λB O Y=>(h O _).imp λσ H Q#[E,s,Y',q,k]=>by
 let[ds,r,j]:=UK q;cases j;refine#[E.viewS,ds,r,λp xs H' s t l=>?_];have le:Same (msk O H') (msk (λb=>O b||decide (b=p)) (upd H' p (.lst xs))):=λb o q=>by let[r,j]:=a8 q;have g:=aq j t;rw[aH (by simp[r,g]),af g];exact j
 refine k _ _ _ (s.msk.trans le) ((E.grow s).more (Same.new t) le (λb g=>?_) λb g=>by simp[g] λb g=>by simp[mem_singleton.mp g] (λa C=>?_) (by simp) (λa C=>by rw[mem_singleton.mp C];exact t) #[p,ds,xs,rfl,rfl,rfl,ah,IsL.mono le ds xs l])
 .rcases(Bool.or_eq_true _ _).mp g with g|g;.exact .inl g
  .exact .inr (by simp[of_decide_eq_true g])
 .rw[mem_singleton.mp C];exact .inl #[xs,ah]
def EnvOk.moreSh{K}(E:EnvOk K B O σ H Y)(h:Is K (msk O H) d v):EnvOk K B O (σ++[!v]) H (Y++[!(.sh,d)]):=E.more (A:=[]) (Same.refl _) (Same.refl _) (λ_ h=>.inl h) (λ_ h=>h) (!28) (!28) List.nodup_nil (!28) #[rfl,h]
def Hc(h:PPu X e f):qc X e (qX f):=λB O Y=>(h O _).imp λσ H Q#[E,s,Y',q,k]=>by let[d,j,g]:=UK q;cases g;exact#[E.viewS,d,j,λv H' s i=>k v H' O s.msk ((E.grow s).moreSh i)]
def Mh(h:PPu X e f):qc X e (AV f):=λB O Y=>(h B.O (vw Y)).imp λσ H Q#[E,s,Y',q,k]=>by let[d,j,g]:=UK q;cases g;let[l,le]:=E.frozen;exact#[E.viewF,d,j,λv H' s i=>k v H' B.O (le.trans s.msk) ((l.grow s).moreSh i)]
def w9(h1:qc X e f)(h2:qc X e g):qc X e (aI f g):=λB O Y=>(h1 B O Y).by2 (h2 B O Y) λσ H Q#[E,s,Y',q,k]=>by rcases or_some q with q|q;all_goals grind
end
inductive Out where|nx(Y:Ev)|rt(s:Sl)|bk(Y:Ev)|ct(Y:Ev)
abbrev _root_.TZ:=Ev->Option Out
def  RetOk(K:Frag)(B:Bs)(H':Hp)(s:Sl)(v:V):Prop:=∃(O':Ue)(A:List Addr),Same B.H H'/\(∀b,B.O b=true->O' b=true)/\(∀b,O' b=true->Hid (H' b))/\A.Nodup/\(∀a∈A,O' a=true/\B.H a=none)/\OwnC K O' H' s.1 s.2 v A
def  post(K:Frag)(B:Bs)(O:Ue)(H:Hp)(En:Ends):Out->Prop
|.nx Y=>∀σ' H' O',Same (msk O H) (msk O' H')->EnvOk K B O' σ' H' Y->En.nx σ' H'|.bk Y=>∀σ' H' O',Same (msk O H) (msk O' H')->EnvOk K B O' σ' H' Y->En.bk σ' H'|.ct Y=>∀σ' H' O',Same (msk O H) (msk O' H')->EnvOk K B O' σ' H' Y->En.ct σ' H'|.rt s=>∀v H',RetOk K B H' s v->En.rt v H'
def post.mono{K}(s:Same (msk O H) (msk l H1)):∀{o:Out},post K B O H p o->post K B l H1 p o
|.nx _,h=>λg H' j s' E=>h g H' j (s.trans s') E|.bk _,h=>λg H' j s' E=>h g H' j (s.trans s') E|.ct _,h=>λg H' j s' E=>h g H' j (s.trans s') E|.rt _,h=>h
def  tS(K:Frag)(B:Bs)(O:Ue)(Y:Ev)(o:Option Out):TS:=λEn σ H=>EnvOk K B O σ H Y/\∃out,o=!out/\post K B O H En out
def  PR(X:Cx)(st:Stmt)(F:TZ):Prop:=∀B O Y,PS X st (tS X.K B O Y (F Y))
def  DU(X:Cx)(st:List Stmt)(F:TZ):Prop:=∀B O Y,PSs X st (tS X.K B O Y (F Y))
section
variable{X:Cx}{st:Stmt}{rest:List Stmt}{e:Expr}{pos:Pos}
def AY:DU X [] λY=>!.nx Y:=λB O Y=>pss_nil.imp λg σ H#[E,o,q,k]=>by cases q;exact k σ H O (Same.refl _) E
noncomputable def  ab(F G:TZ):TZ:=λY=>(F Y).bind λo=>match o with|.nx Y'=>G Y'|o=>!o
def xa(h1:PR X st F)(h2:DU X rest G):DU X (st::rest) (ab F G):=λB O Y=>(ij (h1 B O Y) (PSs.ex λz:Ue×Ev=>h2 B z.1 z.2)).imp λC σ H#[E,o,q,k]=>by let[j,p,g]:=UK q;refine#[E,j,p,?_];cases j with
|nx Y'=>exactλl H' r s' t=>#[#[r,Y'],t,o,g,k.mono s']|rt d=>cases g;exact k|bk Y'=>cases g;exact k|ct Y'=>cases g;exact k
def tB:PR X st λ_=>none:=λB O Y=>ps_never.imp λg σ H#[E,o,q,k]=>by cases q
def IS:PR X (.Expr (.Constant (.str x) j pos) pos') λY=>!.nx Y:=λB O Y=>ps_doc.imp λg σ H#[E,o,q,k]=>by cases q;exact k σ H O (Same.refl _) E
noncomputable def  bW(g:T2):TZ:=λY=>(g Y).bind λz=>!.rt z.1
def EnvOk.ret{K}(E:EnvOk K B O σ H Y){i:Nat}(h:Y[i]?=!!s)(g:σ[i]?=!!v):RetOk K B H s v:=by let[F,h1,h2,p,j]:=E.fp;let[l,e,o]:=h1 i s h;rw[g]at e;cases e;exact#[O,F i,E.same,E.sub,E.lis,h2 i,j i,o]
def qY(h:qc X e g):PR X (.Return (!e) pos) (bW g):=λB O Y=>(uV (h B O Y).1).imp λt σ H#[E,o,q,k]=>by
 let[[s,Y'],p,l]:=UK q;cases l;refine#[E,s,Y',p,λv H' r s' j=>k v H' ?_];have len:σ.length=Y'.length:=by have:=j.len;simp at this;exact this
 exact j.ret (getElem?_last _ _) (by rw[<-len];exact getElem?_last _ _)
def EG:PR X (.Return none pos) λ_=>!.rt (.deep,.non):=λB O Y=>ps_retN.imp λg σ H#[E,o,q,k]=>by cases q;exact k .non H #[O,[],E.same,E.sub,E.lis,List.nodup_nil,λ_ h=>(nomatch h),rfl,rfl]
noncomputable def  d8(Y:Ev)(i:Nat):T6:=match Y[i]?with
|some !s=>!s|_=>none
def slAt_some(h:d8 Y i=!s):Y[i]?=!!s:=by unfold d8 at h;grind
def vt(i:Nat)(r:X.N[i]?=!x)(p:oQ X.env.scope x)(hd:(!5)=false)(g:(!15)=false):PR X (.Return (!.Name x t) pos) λY=>(d8 Y i).bind λs=>!.rt s:=λB O Y=>(uV (bH r p hd g)).imp λJ σ H#[E,o,q,k]=>by let[s,j,l]:=UK q;cases l;let[F,h1,h2,I,C]:=E.fp;let[v,e,o]:=h1 i s (slAt_some j);exact#[v,e,k v H (E.ret (slAt_some j) e)]
noncomputable def  av(i:Nat)(g:T2):TZ:=λY=>(g Y).bind λz=>!.nx (z.2.set i !z.1)
def xb{K}(h:tS K B O Y (av i g Y) r σ H):zX (RK K B O Y (g Y)) (sJ i) r σ H:=by let[E,o,q,k]:=h;let[[s,Y'],l,j]:=UK q;cases j;exact#[E,s,Y',l,λv H' p s' t=>k _ H' p s' (t.put i)]
def IT(l:X.N.Nodup)(hi:X.N[i]?=!x)(o:D3 X.env.scope x)(h:qc X e g)(r:X.fn x=true\/X.env.scope.names.lookup x=some .local)(j:swapsWith e (!.Name x pos') pos.line X.env=pure false\/swapsWith e (!.Name x pos') pos.line X.env=pure true/\X.env.scope.names.lookup x=some .local):PR X (.Assign [.Name x pos'] e pos) (av i g):=λB O Y=>by
 rcases j with j|⟨j,p⟩;.exact(Ib l hi o (h B O Y).1 j r).imp λt σ H h=>xb h
 .exact((h B O Y).2 i x pos' pos l hi p j).imp λt σ H h=>xb h
def  mB(f:TY):TZ:=λY=>(f (vw Y)).bind λ_=>!.nx Y
def EH(h:PP X e f)(l:swapsWith e none pos.line X.env=pure false):PR X (.Expr e pos) (mB f):=λB O Y=>(fu (h ku (vw Y)) l).imp λr σ H#[E,o,q,k]=>by let[d,j,g]:=UK q;cases g;exact#[E.view,d,j,λv H' s' p=>k σ H' O s'.msk (E.grow s')]
def  cG(fc:T1)(F G:TZ):TZ:=λY=>(fc (vw Y)).bind λc=>if c=true then F Y else G Y
def Mi(l:PQ X c t)(r:DU X a F)(p:DU X b G):PR X (.If c a b pos) (cG t F G):=λB O Y=>(Ll (l ku (vw Y)) (r B O Y) (p B O Y)).imp λC σ H#[E,o,q,k]=>by let[c,j,g]:=UK q;refine#[E.view,c,j,λH' s'=>?_];cases c with
|true=>rw[if_pos rfl]at g;exact Iu #[E.grow s',o,g,k.mono s'.msk]|false=>rw[if_neg Bool.false_ne_true]at g;exact Ir #[E.grow s',o,g,k.mono s'.msk]
end
def  RL(K:Frag)(B:Bs)(O:Ue)(Y:Ev)(d:D)(o:Option Ev):TG:=λv σ H Q=>EnvOk K B O σ H Y/\Is K (msk O H) d v/\∃Y',o=!Y'/\∀σ',EnvOk K B O σ' H Y'->Q σ' H
def  EI(X:Cx)(tg:Expr)(g:D->Ev->Option Ev):Prop:=∀B O Y d,PG X tg (RL X.K B O Y d (g d Y))
def  PH(K:Frag)(B:Bs)(O:Ue)(Y:Ev)(ds:Uh)(o:Option Ev):GO:=λvs σ H Q=>EnvOk K B O σ H Y/\IsL K (msk O H) ds vs/\∃Y',o=!Y'/\∀σ',EnvOk K B O σ' H Y'->Q σ' H
def  AZ(X:Cx)(ts:Ui)(g:Uh->Ev->Option Ev):Prop:=∀B O Y ds,PGs X ts (PH X.K B O Y ds (g ds Y))
noncomputable def  br(i:Nat):D->Ev->Option Ev:=λd Y=>!Y.set i !(.sh,d)
noncomputable def  mM:Uh->Ev->Option Ev:=λds Y=>match ds with|[]=>!Y|_=>none
noncomputable def  cx(g:D->Ev->Option Ev)(gs:Uh->Ev->Option Ev):Uh->Ev->Option Ev:=λds Y=>match ds with|d::r=>(g d Y).bind λY1=>gs r Y1|_=>none
def  yR(n:Nat)(gs:Uh->Ev->Option Ev):D->Ev->Option Ev:=λd Y=>match d with|.tup ds=>if ds.length=n then gs ds Y else none|_=>none
section
variable{X:Cx}{e tg iter:Expr}{pos:Pos}
def EJ(o:X.N.Nodup)(hi:X.N[i]?=!x)(j:D3 X.env.scope x)(l:X.fn x=true\/X.env.scope.names.lookup x=some .local):EI X (.Name x pos) (br i):=λB O Y d=>(qF o hi j l).imp λv σ H Q#[E,g,Y',e,k]=>by
 cases e;exact k _ (E.setSh g)
def gse_cons(h1:EI X e g)(h2:AZ X o gs)(U:(assignEach (e::o) X.env).map (·.2)=assign e X.env::(assignEach o X.env).map (·.2)):AZ X (e::o) (cx g gs):=λB O Y ds=>by cases ds with
|nil=>exactλpins s σ H C us Q I r#[_,_,Y',e,_]=>by cases e|cons d r=>refine(sK (h1 B O Y d) (PGs.ex λz:Ev=>h2 B O z r) U).imp λC σ H Q#[E,#[x,t,z,J,T],Y',e,k]=>?_;let[j,e1,e2]:=UK e;exact#[x,t,z,E,J,j,e1,λp E1=>#[j,E1,T,Y',e2,λl E2=>k l E2]]
def IU(I:X.calm=true)(h:AZ X g p)(C:(assignEach g X.env).length=n)(j:(assignEach g X.env).findIdx? (·.1)=none):EI X (.Tuple g k pos) (yR n p):=λB O Y d=>by refine(zV I (PGs.ex λz:Uh=>h B O Y z) C j).imp λv σ H Q#[E,r,Y',e,k]=>?_;cases d with
|tup ds=>
  let[a,xs,rfl,t,o]:=r;have l:(if ds.length=n then p ds Y else none)=!Y':=e;split at l;.exact#[a,xs,rfl,msk_le.seqT t,by rw[<-o.len];assumption,ds,E,o,Y',l,k]
  .cases l|_=>cases e
def  cC(step:D->TZ):Uh->TZ
|[],Y=>!.nx Y|d::ds,Y=>(step d Y).bind λo=>match o with
|.nx Y'=>cC step ds Y'|.ct Y'=>cC step ds Y'|.bk Y'=>!.nx Y'|.rt v=>!.rt v
noncomputable def  dY(g:D->Ev->Option Ev)(F:TZ):D->TZ:=λd Y=>(g d Y).bind F
def  cE(fi:TX)(g:D->Ev->Option Ev)(F:TZ):TZ:=λY=>(fi (bV Y)).bind λds=>cC (dY g F) ds Y
def  vx(fi:TX)(g:D->Ev->Option Ev)(F:TZ):TZ:=λY=>(fi (vw Y)).bind λds=>cC (dY g F) ds (dC Y)
def xc{K}(E:EnvOk K B O σ H Y)(V:VE K O σ H Yv)(q:(o.bind λds=>cC (dY g F) ds Y)=!out)(k:post K B O H En out):Lq (tJ K O Yv o) (λv σ H Q=>∃z:Ue×Ev×D,RL K B z.1 z.2.1 z.2.2 (g z.2.2 z.2.1) v σ H Q) (λEn σ H=>∃z:Ue×Ev,tS K B z.1 z.2 (F z.2) En σ H) En σ H:=by
 let[ds,q1,q]:=UK q;refine#[V,ds,q1,λJ H1 s1 it=>#[λi m j H'=>i<=ds.length/\m=ds.length-i/\∃O' Y',Same _ (msk O' H')/\EnvOk K B O' j H' Y'/\cC _ (ds.drop i) Y'=!out,#[ds.length,Nat.zero_le _,by simp,O,Y,Same.refl _,E.grow s1,by simpa using q],?_]];rintro i m σ2 H2⟨hi,rfl,U,Y2,s2,E2,e2⟩;have hit:=it i H2 U s2 E2.dom;by_cases p:i<ds.length;.refine .inr ?_;let[go,yl]:=hit.1 _ (getElem?_eq_getElem p);refine#[go,λj H'=>i+1<=ds.length/\∃O' Y',Same _ _/\EnvOk K B O' j H' Y'/\cC _ _ Y'=!out,λj H'#[a,b]=>#[ds.length-(i+1),by omega,a,rfl,b],λx H3 hy=>?_];let[s3,ix]:=yl x H3 hy;rw[List.drop_eq_getElem_cons p]at e2;let[o1,e3,T]:=UK e2;let[t,g3,f3]:=UK e3;refine#[#[U,Y2,ds[i]],E2.grow s3,ix,t,g3,λσ4 E4=>#[#[U,t],E4,o1,f3,?_]];have s4:=s2.trans s3.msk;cases o1 with
|nx l=>exactλr H5 C s5 I=>#[p,C,l,s4.trans s5,I,T]|ct l=>exactλr H5 C s5 I=>#[p,C,l,s4.trans s5,I,T]|bk l=>cases T;exactλr H5 C s5 I=>k r H5 C (s1.msk.trans (s4.trans s5)) I|rt d=>cases T;exact k
 .have hie:i=ds.length:=by lia
  subst hie;rw[List.drop_of_length_le (le_refl _)]at e2;cases e2;exact .inl #[hit.2 (UI _),k σ2 H2 U (s1.msk.trans s2) E2]
def IV(l:PassesOwn (!3) X.A X.env X.xe)(p:X.calm=true)(hi:PJ X tg iter t)(o:EI X tg g)(r:DU X body F)(j:∀x,foldedSetIterable iter X.env x=pure x):PR X (.For tg iter body [] pos) (cE t g F):=λB O Y=>(uY l p (hi O _) (PG.ex λz:Ue×Ev×D=>o B z.1 z.2.1 z.2.2) (PSs.ex λz:Ue×Ev=>r B z.1 z.2) j).imp λC σ H#[E,out,q,k]=>xc E E.viewS q k
def EK(l:PassesOwn (!3) X.A X.env X.xe)(p:X.calm=true)(hi:PJ X tg iter t)(o:EI X tg g)(r:DU X body F)(j:∀x,foldedSetIterable iter X.env x=pure x):PR X (.For tg iter body [] pos) (vx t g F):=λB O Y=>(uY l p (hi B.O (vw Y)) (PG.ex λz:Ue×Ev×D=>o B z.1 z.2.1 z.2.2) (PSs.ex λz:Ue×Ev=>r B z.1 z.2) j).imp λC σ H#[E,out,q,k]=>xc E.frozen.1 E.viewF q (k.mono E.frozen.2)
def gO{st}(h1:PR X st F)(h2:PR X st G):PR X st (aI F G):=λB O Y=>(h1 B O Y).by2 (h2 B O Y) λg σ H#[E,out,q,k]=>by rcases or_some q with q|q;all_goals grind
end
section
variable{K:Frag}{B:Bs}{O:Ue}{σ:St}{H:Hp}{Y:Ev}
def EnvOk.ownAt(E:EnvOk K B O σ H Y){i:Nat}(h:Y[i]?=!!(c,.lst ds))(C:c≠.sh):∃a xs,σ[i]?=!!33/\H a=!.lst xs/\ds.length=xs.length/\O a=true/\B.H a=none:=by
 let[F,h1,h2,J,r]:=E.fp;let[v,e,o]:=h1 i _ h;cases c with
|sh=>exact absurd rfl C|top=>let[a,I,xs,p,j,g,t,l]:=o;cases p;refine#[a,xs,by rw[e,j],t,l.len,?_];exact r i a (by rw[g];exact Ut)|deep=>let[a,xs,T,p,j,g,l]:=o;refine#[a,xs,by rw[e,p],j,DeepL.len l,?_];exact r i a (by rw[g];exact Ut)
def  Op(f:{α:Type}->List α->α->List α):Prop:=∀{K:Frag}{M H:Hp}{ds:Uh}{xs:List V}{A A1:List Addr}{d:D}{v:V},DeepL K M H ds xs A->Deep K M H d v A1->(A++A1).Nodup->∃A',DeepL K M H (f ds d) (f xs v) A'/\A'.Nodup/\∀b∈A',b∈A\/b∈A1
def  PK(f:{α:Type}->List α->α->List α):Prop:=∀{K:Frag}{M:Hp}{ds:Uh}{xs:List V}{d:D}{v:V},IsL K M ds xs->Is K M d v->IsL K M (f ds d) (f xs v)
def  newCat(c:Cat)(s:Sl):Cat:=if c=.deep/\s.1=.deep then .deep else .top
def EnvOk.redo{v:V}{s:Sl}(E:EnvOk K B O (σ++[!v]) H (Y++[!s])){F:Nat->List Addr}(h1:∀j x,(Y++[!s])[j]?=!!x->∃w,(σ++[!v])[j]?=!!w/\OwnC K O H x.1 x.2 w (F j))(h2:∀j,(F j).Nodup)(h3:∀j k b,b∈F j->b∈F k->j=k)(h4:∀j b,b∈F j->O b=true/\B.H b=none){i:Nat}{a:Addr}{o:HO}{c:Cat}{d:D}{A:List Addr}{r:Ue}(hi:i<Y.length)(e:σ[i]?=!!33)(ha:a∈F i)(hr:∀b,r b=true->O b=true)(rk:∀b,O b=true->r b=true\/b∈F i\/b∈F Y.length)(nd:A.Nodup)(sub:∀b∈A,r b=true/\(b∈F i\/b∈F Y.length))(aA:a∈A)(ho:Hid !o)(le:Same (msk O H) (msk r H))(own:Same (msk O H) (msk r (upd H a o))->OwnC K r (upd H a o) c d (.ref a) A):∃r,EnvOk K B r σ (upd H a o) (Y.set i !(c,d))/\Same (msk O H) (msk r (upd H a o)):=by
 have le:Same (msk O H) (msk r (upd H a o)):=by rw[fy (sub a aA).1];exact le
 have key:∀j b,b∈(if j=i then A else if j=Y.length then[]else F j)->∃j',b∈F j'/\r b=true/\(if j'=Y.length then i else j')=j:=λj b p=>by
  split at p
  .rename_i t;obtain⟨q,z|z⟩:=sub b p;.exact#[i,z,q,(if_neg (Uz hi)).trans t.symm]
   .exact#[_,z,q,(if_pos rfl).trans t.symm]
  .rename_i t;split at p;.cases p
   .rename_i t';exact#[j,p,(rk b (h4 _ b p).1).resolve_right λz=>z.elim (λz=>t (h3 _ _ b p z)) λz=>t' (h3 _ _ b p z),if_neg t']
 refine#[r,#[λb u z=>?_,E.bdom,λb g=>?_,λb g=>?_,by simpa using E.len,λj=>if j=i then A else if j=Y.length then[]else F j,λj x q=>?_,λj=>?_,λj k b p q=>?_,λj b p=>?_],le];.rw[af (aq z (h4 i a ha).2)];exact E.same b u z
 .exact(rk b (E.sub b g)).resolve_right λz=>E.bdom b g (z.elim (λz=>(h4 _ b z).2) λz=>(h4 _ b z).2)
 .by_cases t:b=a;.subst t;rw[ah];exact ho
  .rw[af t];exact E.lis b (hr b g)
 .rcases get_set_some q with⟨t,q'⟩|⟨t,q'⟩;.cases q';subst t;exact#[_,e,by dsimp only;rw[if_pos rfl];exact own le]
  .have jl:=(Us.mp q').1;let[w,e2,o2]:=h1 j x (by rw[getElem?_append_left jl];exact q');refine#[w,cJ (by have:=E.len;simp at this;omega) e2,?_];dsimp only;rw[if_neg t,if_neg (Nat.ne_of_lt jl)];exact o2.frame le λb g u q=>(af λz:b=a=>t (h3 _ _ a (z▸g) ha)).trans q
 .dsimp only;split;.exact nd
  .split;.exact List.nodup_nil
   .exact h2 _
 .let[_,p',_,rfl]:=key _ _ p;let[_,q',_,rfl]:=key _ _ q;rw[h3 _ _ b p' q']
 .let[_,p,q,_]:=key _ _ p;exact#[q,(h4 _ _ p).2]
def EnvOk.change{v:V}{s:Sl}(E:EnvOk K B O (σ++[!v]) H (Y++[!s]))(f:{α:Type}->List α->α->List α)(hw:Op f)(hi:PK f){i:Nat}{c:Cat}{ds:Uh}(h:Y[i]?=!!(c,.lst ds))(hc:c≠.sh):∃a xs,σ[i]?=!!33/\H a=!.lst xs/\ds.length=xs.length/\∃O',EnvOk K B O' σ (upd H a (.lst (f xs v))) (Y.set i !(newCat c s,.lst (f ds s.2)))/\Same (msk O H) (msk O' (upd H a (.lst (f xs v)))):=by
 let[F,h1,h2,h3,h4]:=E.fp;have len:σ.length=Y.length:=by have:=E.len;simp at this;exact this
 have hil:=(Us.mp h).1;let[v',e1,o1]:=h1 Y.length s (getElem?_last _ _);rw[<-len,getElem?_last]at e1;cases e1;let[v0,e0,o0]:=h1 i _ (by rw[getElem?_append_left hil];exact h);have e0':=cJ (!6) e0;have at_:∃a xs U,v0=.ref a/\H a=!.lst xs/\F i=a::U/\ds.length=xs.length/\(c=.deep->DeepL K (msk O H) H ds xs U)/\∀r,Same (msk O H) (msk r H)->(∀b∈U,r b=false)->IsL K (msk r H) ds xs:=by cases c with
|sh=>exact absurd rfl hc|top=>let[a,_,xs,z1,z2,z3,z4,l]:=o0;cases z1;exact#[a,xs,[],z2,z4,z3,l.len,nofun,λr le _=>IsL.mono le _ _ l]|deep=>let[a,xs,U,z1,z2,z3,l]:=o0;exact#[a,xs,U,z1,z2,z3,DeepL.len l,λ_=>l,λr le hA=>DeepL.is (NL.of le) ds xs U (λb g o q=>by rw[aH (hA b g)];exact q) l]
 let[a,xs,U,rfl,ha,hF,hl,hdeep,htop]:=at_;have J:a∈F i:=by rw[hF];exact Ut
 have nd:=h2 i;rw[hF,List.nodup_cons]at nd;have C:∀b∈U,b∈F i:=λb g=>by rw[hF];exact Uu _ g
 have dj:∀b∈F i,b∉F Y.length:=λb g z=>Uz hil (h3 _ _ b g z);refine#[a,xs,e0',ha,hl,?_];by_cases hd:c=.deep/\s.1=.deep;.let[rfl,hs]:=hd;let[sc,sd]:=s;cases hs;let[A2,l2,n2,sub]:=hw (hdeep rfl) o1 (List.nodup_append.mpr #[nd.2,h2 _,λx hx y hy z=>dj x (C x hx) (z▸hy)]);have na:a∉A2:=λz=>(sub a z).elim nd.1 (dj a J);exact E.redo h1 h2 h3 h4 hil e0' J (λ_ z=>z) (λ_ z=>.inl z) (List.nodup_cons.mpr #[na,n2]) (λb z=>by have z:b∈F i\/b∈F Y.length:=(mem_cons.mp z).elim (λz=>.inl (z▸J)) λz=>(sub b z).imp_left (C b);exact#[z.elim (λz=>(h4 _ b z).1) λz=>(h4 _ b z).1,z]) Ut (.inl #[_,rfl]) (Same.refl _) λle=>#[a,_,A2,rfl,ah,rfl,DeepL.frame (NL.of le) _ _ A2 (λb g o q=>(af λz:b=a=>na (z▸g)).trans q) l2]
 .rw[show newCat c s=.top from if_neg hd];have le:Same (msk O H) (msk (λb=>O b&&not (decide (b∈U))&&not (decide (b∈F Y.length))) H):=λb o q=>by let[q1,q2]:=a8 q;rw[aH (by simp[q1])];exact q2
  have ra:(O a&&not (decide (a∈U))&&not (decide (a∈F Y.length)))=true:=by simp[(h4 i a J).1,nd.1,dj a J]
  refine E.redo h1 h2 h3 h4 hil e0' J (λb z=>by simp at z;exact z.1.1) (λb z=>?_) (List.nodup_cons.mpr #[List.not_mem_nil,List.nodup_nil]) (λb z=>by cases mem_singleton.mp z;exact#[ra,.inl J]) Ut (.inl #[_,rfl]) le λ_=>#[a,_,_,rfl,rfl,rfl,ah,?_]
  .by_cases t:b∈U;.exact .inr (.inl (C b t))
   .by_cases t':b∈F Y.length;.exact .inr (.inr t')
    .exact .inl (by simp[z,t,t'])
  .rw[fy ra];exact hi (htop _ le λb g=>by simp[g]) (o1.is le λb g=>by simp[g])
end
def  EL(R:TY)(g:D->Ev->Option Ev):TZ:=λY=>(R (bV Y)).bind λd=>(g d Y).bind λY'=>!.nx Y'
def  IW(R:TY)(g:D->Ev->Option Ev):TZ:=λY=>(R (vw Y)).bind λd=>(g d (dC Y)).bind λY'=>!.nx Y'
section
variable{X:Cx}{e tg:Expr}{pos:Pos}
def EM(h:PP X e R)(J:EI X tg g)(I:swapsWithSole [tg] e pos.line X.env=pure false)(C:swappedStores [tg] e X.env=pure none)(h1:(assignEach [tg] X.env).map (·.2)=[assign tg X.env]):PR X (.Assign [tg] e pos) (EL R g):=λB O Y=>(qG (h O _) (PG.ex λz:D=>J B O Y z) I C h1).imp λU σ H#[E,o,q,k]=>by let[d,t,r]:=UK q;let[Y',p,l]:=UK r;cases l;exact#[E.viewS,d,t,λv H' s i=>#[d,E.grow s,i,Y',p,λj T=>k j H' O s.msk T]]
def EN(h:PP X e R)(J:EI X tg g)(I:swapsWithSole [tg] e pos.line X.env=pure false)(C:swappedStores [tg] e X.env=pure none)(h1:(assignEach [tg] X.env).map (·.2)=[assign tg X.env]):PR X (.Assign [tg] e pos) (IW R g):=λB O Y=>(qG (h B.O (vw Y)) (PG.ex λz:D=>J B B.O _ z) I C h1).imp λEn σ H#[E,o,q,k]=>by let[d,t,r]:=UK q;let[Y',p,l]:=UK r;cases l;let[U,le]:=E.frozen;exact#[E.viewF,d,t,λv H' s i=>#[d,U.grow s,i,Y',p,λj T=>k j H' B.O (le.trans s.msk) T]]
end
noncomputable def  iG{α:Type}(l:List α)(x:α):List α:=l++[x]
def A6:Op iG:=λh q g=>#[_,DeepL.snoc q h,g,λb j=>mem_append.mp j]
def A7:PK iG:=λh q=>h.app #[_,[],rfl,q,rfl]
def DeepL.setAt{K}(h:Deep K M H d v A1):∀{ds:Uh}{xs:List V}{A:List Addr}(j:Nat),DeepL K M H ds xs A->(A++A1).Nodup->∃A',DeepL K M H (ds.set j d) (xs.set j v) A'/\A'.Nodup/\∀b∈A',b∈A\/b∈A1
|[],_,_,_,l,nd=>by let[rfl,rfl]:=l;exact#[[],#[rfl,rfl],List.nodup_nil,λ_ hb=>nomatch hb]|c::ds,_,_,0,#[x,r,A0,A2,e,z,q,l],nd=>by
  subst e;subst z;rw[List.append_assoc]at nd;let[n1,n2,n3]:=List.nodup_append.mp nd;let[m1,m2,m3]:=List.nodup_append.mp n2;refine#[A1++A2,#[v,r,A1,A2,rfl,rfl,h,l],List.nodup_append.mpr #[m2,m1,λa ha b hb z=>m3 b hb a ha z.symm],λb hb=>?_];rcases mem_append.mp hb with hb|hb;.exact .inr hb
  .exact .inl (UD _ hb)|c::ds,_,_,j+1,#[x,r,A0,A2,e,z,q,l],nd=>by
  subst e;subst z;rw[List.append_assoc]at nd;let[n1,n2,n3]:=List.nodup_append.mp nd;let[A',l',nd',sub]:=DeepL.setAt h j l n2;refine#[A0++A',#[x,r.set j v,A0,A',rfl,rfl,q,l'],List.nodup_append.mpr #[n1,nd',λa ha b hb z=>?_],λb hb=>?_]
  .rcases sub b hb with hb|hb;.exact n3 a ha b (UC _ hb) z
   .exact n3 a ha b (UD _ hb) z
  .rcases mem_append.mp hb with hb|hb;.exact .inl (UC _ hb)
   .rcases sub b hb with hb|hb;.exact .inl (UD _ hb)
    .exact .inr hb
noncomputable def  IX(j:Nat){α:Type}(l:List α)(x:α):List α:=l.set j x
def Mj(j:Nat):Op (IX j):=λh q g=>DeepL.setAt q j h g
def i_set(j:Nat):PK (IX j):=λh q=>.of (nw q j h.paired)
section
variable{X:Cx}{e:Expr}{pos:Pos}
def  ownL(Y:Ev)(i:Nat):Option (Cat×List D):=(d8 Y i).bind λs=>match s with
|(.sh,_)=>none|(c,.lst ds)=>!(c,ds)|_=>none
def cK(h:ownL Y i=!(c,ds)):Y[i]?=!!(c,.lst ds)/\c≠.sh:=by let[[j,d],e,q]:=UK h;have g:=slAt_some e;cases j with
|sh=>cases q|top=>cases d<;>first|(cases q;exact#[g,by intro z;cases z])|cases q
|deep=>cases d<;>first|(cases q;exact#[g,by intro z;cases z])|cases q
def  cX(i:Nat)(g:T2):TZ:=λY=>(ownL Y i).bind λ_=>(g Y).bind λz=>(ownL z.2 i).bind λw=>if w.2.length+1<big then !.nx (z.2.set i !(newCat w.1 z.1,.lst (w.2++[z.1.2])))else none
def lK(i:Nat)(h:qc X e g)(hN:X.N[i]?=!x)(hv:oQ X.env.scope x)(hd:(!5)=false)(p:(!15)=false)(j:starEach [e] X.env=(false,eval e X.env)::starEach [] X.env)(l:(apos.endLine==cpos.line)=true):PR X (.Expr (.Call (.Attribute (.Name x px) "append" apos) [e] [] cpos) pos) (cX i g):=λB O Y=>(fu (kl PySem.F.plainAttrs_list PySem.F.slot_list_append PySem.F.type_list_append jb (bH hN hv hd p) (bi (h B O Y).1 pa_nil j) rfl (by rw[j];rfl) l j rfl)).imp λEn σ H#[E,o,q,k]=>by let[[c0,ds0],q1,q]:=UK q;let[[s,Y'],q2,q]:=UK q;let[[c,ds],q3,q]:=UK q;let[hz,q]:=aj q;subst q;let[h0,t]:=cK q1;let[h1,r]:=cK q3;let[a,I,C,r3,_]:=E.ownAt h0 t;refine#[.ref a,C,.inl #[rfl,_,SqL.of r3],E,s,Y',q2,λv H1 O1 T E1=>?_];let[a',xs,e2,U,hl,O2,E2,J]:=E1.change iG A6 A7 h1 r;rw[C]at e2;cases e2;exact#[a,xs,v,rfl,rfl,U,by rw[eQ,<-hl];exact Nat.lt_of_succ_lt hz,k σ _ O2 (T.trans J) E2]
def  iH(i:Nat)(fk:TY)(g:T2):TZ:=λY=>(g Y).bind λz=>(ownL z.2 i).bind λw=>(fk (vw z.2)).bind λy=>match y with
|.int k=>(yE w.2.length k).bind λj=>!.nx (z.2.set i !(newCat w.1 z.1,.lst (w.2.set j z.1.2)))|_=>none
def IY(i:Nat)(h:qc X e g)(hk:PP X p fk)(hN:X.N[i]?=!x)(hv:oQ X.env.scope x)(hd:(!5)=false)(J:(!15)=false)(ha:∀v,assign (.Subscript (.Name x r) p l) X.env v=do
   let C<-holding [v] (eval (.Name x r) X.env)let I<-holding [v,C] (eval p X.env)standAt l
   holding [v,C,I] (setItem C I v)release [v,C,I] [])(hs:swapsWithSole [.Subscript (.Name x r) p l] e pos.line X.env=pure false)(hw:swappedStores [.Subscript (.Name x r) p l] e X.env=pure none)(h1:(assignEach [.Subscript (.Name x r) p l] X.env).map (·.2)=[assign (.Subscript (.Name x r) p l) X.env]):PR X (.Assign [.Subscript (.Name x r) p l] e pos) (iH i fk g):=λB O Y=>(qG (h B O Y).1 (zW (bH hN hv hd J) (PE.ex λz:Vv=>hk ku z) Al ha) hs hw h1).imp λEn σ H#[E,o,q,k]=>by
 let[[s,Y'],q1,q]:=UK q;let[[c,ds],q2,q]:=UK q;let[y,q3,q]:=UK q;let[h0,t]:=cK q2;refine#[E,s,Y',q1,λv H1 O1 s1 T=>?_];let[a,xs0,e1,_]:=T.drop.ownAt h0 t;refine#[.ref a,e1,vw Y',T.drop.view,y,q3,λyv H2 U iy=>?_];cases y with
|int n=>let[j,j1,q]:=UK q;cases q;cases iy;let[a',xs,e2,r4,hl,O2,E2,s3]:=(T.grow U).change (IX j) (Mj j) (i_set j) h0 t;rw[e1]at e2;cases e2;exact#[a,xs,n,j,rfl,rfl,r4,by rw[<-hl];exact j1,k σ _ O2 (s1.trans (U.msk.trans s3)) E2]|_=>cases q
end
def  IZ(K:Frag)(f:xx):Sp:=λvs H Q _=>∃O ds s,(∀b,O b=true->Hid (H b))/\IsL K (msk O H) ds vs/\f ds=!s/\∀v H',RetOk K #[H,O] H' s v->Q v H'
def  az(n:Nat)(ds:Uh):Ev:=ds.map (λd=>!(.sh,d))++List.replicate (n-ds.length) none
noncomputable def  Ml(o:Option Out):T6:=o.bind λo=>match o with
|.rt d=>!d|.nx _=>!(.deep,.non)|_=>none
def  aQ(n m:Nat)(F:TZ)(ds:Uh):T6:=if ds.length=n then Ml (F (az m ds))else none
def jf(h:aQ n m F ds=!d):ds.length=n/\Ml (F (az m ds))=!d:=by unfold aQ at h;grind
section
variable{P:Program}{w:World}{K:Frag}{mg:Str->Ua}{base:Heap}
def vz{i:Nat}(q:(az n ds)[i]?=!!s):∃d,ds[i]?=!d/\s=(.sh,d):=by
 unfold az at q;by_cases hi:i<ds.length;.rw[getElem?_append_left (by simpa using hi),getElem?_map]at q;cases e:ds[i]?with
|none=>rw[e]at q;cases q|some d=>rw[e]at q;cases q;exact#[d,rfl,rfl]
 .rw[getElem?_append_right (by simpa using hi),List.getElem?_replicate]at q;split at q<;>cases q
def nK{O:Ue}{H:Hp}{N:Uc}{g:List V}{ds:Uh}(hd:∀b,O b=true->Hid (H b))(j:IsL K (msk O H) ds g):EnvOk K #[H,O] O (ki N g) H (az N.length ds)where
 same:=Same.refl _;bdom:=λb h=>(hd b h).ne;sub:=λ_ h=>h;lis:=hd;len:=by unfold ki az;rw[length_append,length_append,length_map,length_map,List.length_replicate,List.length_replicate,j.len]
 fp:=by refine#[λ_=>[],λi s q=>?_,λ_=>List.nodup_nil,λ_ _ _ h=>(nomatch h),λ_ _ h=>nomatch h];let[d,e,rfl]:=vz q;let[x,l,o]:=j.get e;refine#[x,?_,rfl,o];unfold ki;rw[getElem?_append_left (by rw[length_map];exact(Us.mp l).1),getElem?_map,l];rfl
def I0{st}(Fn:Fun K x l st f fd)(S:FnScope N ps (ao st))(T:∀(j:Value)(A:Around)(g:List Env)(s:Shared)(H:Hp)(E:XK),Room k (A.deeper (envOfC l (ao st) s.heap.objs.size f j))->DU (oT qP P w K mg base N l (ao st) f j A g s H E).nox (aL st) F):FnOk P w K mg base qP (k+1) f fd ps (IZ K (aQ ps.length N.length F)):=by
 refine Fn.ok S (λI H Q E#[O,ds,d,_,p,e,_]=>by rw[<-p.len];exact(jf e).1) λj A g s H I Q E J#[O,ds,d,hd,p,e,t]=>?_;refine#[_,T j A g s H E J #[H,O] O _,nK hd p,?_];let[o,U,e2]:=UK (jf e).2;refine#[o,U,?_];cases o with
|rt d'=>cases e2;exact t|nx Y=>cases e2;exactλC H' O' s' r=>t .non H' #[O',[],r.same,r.sub,r.lis,List.nodup_nil,λ_ h=>(nomatch h),rfl,rfl]|bk Y=>cases e2|ct Y=>cases e2
structure Df(P:Program)(w:World)(K:Frag)(mg:Str->Ua)(base:Heap)(x:Str)(k:Nat)(f:xx):Prop where ex:∃(a:Addr)(fd:FuncData)(ps:Uc),mg x=!.ref a/\PySem.W.keepIn K (.ref a)=true/\Binds K fd ps []/\FnOk P w K mg base qP k a fd ps (IZ K f)
def RetOk.is(hd:∀b,O b=true->Hid (H b))(r:RetOk K #[H,O] H' s v):Same H H'/\Is K (msk O H') s.2 v:=by
 let[J,A,h1,h2,I,C,t,p]:=r;refine#[h1,p.is (λb o q=>?_) λa l=>?_];.let[g,j]:=a8 q;rw[aH];exact j;cases z:O b with
|false=>rfl|true=>rw[h2 b z]at g;cases g
 .cases z:O a with
|false=>rfl|true=>exact absurd (t a l).2 (hd a z).ne
end
section
variable{X:Cx}{x:Str}{p pos apos:Pos}{e o:Expr}{es:Ui}{k:Nat}{f:xx}{fa:TX}
noncomputable def  bw(o:T6):Uj:=o.bind λs=>!s.2
noncomputable def  fZ(o:T6):Uj:=o.bind λs=>match s with
|(.deep,d)=>!d|_=>none
def EO(F:Df X.prog X.w X.K X.mg X.base x k f)(hr:Room k X.A)(hg:Gl X x)(ha:PX X (e::es) fa)(l:(!5)=false)(he:starEach (e::es) X.env=(false,eval e X.env)::starEach es X.env)(j:(!19).any (·.1)=false):PP X (!17) λY=>(fa Y).bind λds=>bw (f ds):=λO Y=>by
 let[a,fd,ps,hm,hk,hb,G]:=F.ex;refine(qK G hr hg hm hk hb .nil sT (ha O Y) l he j).imp λσ H Q#[E,d,q,U]=>?_;let[ds,T,J]:=UK q;let[s,I,C]:=UK J;cases C;refine#[E,ds,T,λo H1 g il=>?_];show IZ X.K f (o++[]) H1 Q E0;rw[List.append_nil];refine#[O,ds,s,(E.grow g).lis,il,I,λv H2 r=>?_];let[t,iv]:=r.is (E.grow g).lis;exact U v H2 (g.trans t) iv
def EQ(F:Df X.prog X.w X.K X.mg X.base x k f)(hr:Room k X.A)(hg:Gl X x)(t:PX X (e::es) fa)(o:(!5)=false)(he:starEach (e::es) X.env=(false,eval e X.env)::starEach es X.env)(l:(!19).any (·.1)=false):vn X (!17) λY=>(fa Y).bind λds=>fZ (f ds):=λY=>by
 let[a,fd,ps,hm,hk,hb,G]:=F.ex;refine PE.pu ((qK G hr hg hm hk hb .nil sT (t ku Y) o he l).imp λσ H Q#[E,d,q,U]=>?_) rfl;let[ds,T,J]:=UK q;let[[c,d'],I,j]:=UK J;cases c with
|sh=>cases j|top=>cases j|deep=>cases j;refine#[E,ds,T,λC H1 g il=>?_];show IZ X.K f (C++[]) H1 Q E0;rw[List.append_nil];refine#[ku,ds,_,(E.grow g).lis,il,I,λv H2 r=>?_];let[O',A,h1,h2,h3,h4,h5,h6]:=r;exact U v H2 A (g.trans h1) (Deep.frame (NL.of msk_le) _ v A (λ_ _ _ h=>h) h6) h4 λa t=>g.free (h5 a t).2
end
noncomputable def  qZ:Uc->Str->Option Nat
|[],_=>none|y::r,x=>if y=x then some 0 else(qZ r x).map (·+1)
def f6:∀{l:Uc}{x:Str}{i:Nat},qZ l x=!i->l[i]?=!x
|[],_,_,h=>by cases h|y::r,x,i,h=>by
  unfold qZ at h;split at h;.rename_i e;cases h;simp[e]
  .cases e:qZ r x with
|none=>rw[e]at h;cases h|some j=>rw[e]at h;cases h;have:=f6 e;simpa using this
structure Glob where
 fn:Str->Option (Nat×xx)cn:Str->Uj
 no:Str->Bool
 fl:Str->Str->Bool
structure SE where
 N:Uc
 nm:List (Str×NameKind)k:Nat
 G:Glob
noncomputable def  fM(x:Str):Bool:=not !5&&not !15&&not (decide (x=("__name__":Str)))
noncomputable def  A8:Option NameKind->Bool
|some .local=>true|some .cell=>true|some .free=>true|_=>false
def  slot(S:SE)(x:Str):Option Nat:=if fM x&&A8 (S.nm.lookup x)then qZ S.N x else none
noncomputable def  xf(x:Str):Option String:=if x=("int":Str)then some "int"else if x=("bool":Str)then some "bool"else if x=("str":Str)then some "str"else if x=("list":Str)then some "list"else if x=("tuple":Str)then some "tuple"else if x=("dict":Str)then some "dict"else none
def dD(h:fM x=true):(!5)=false/\(!15)=false/\x≠("__name__":Str):=by grind[fM]
section
variable{X:Cx}{e o:Expr}{es:Ui}{p pos apos:Pos}
def  re(fl:Str->Str->Bool)(m:Str):D->Uj
|.obj C ns ds=>if fl C m then(ns.zip ds).lookup m else none|_=>none
def nL{K}:∀{fs:List (Str×V)}{ds:Uh},IsL K H ds (fs.map (·.2))->((fs.map (·.1)).zip ds).lookup f=!d->∃v,fs.lookup f=!v/\Is K H d v
|[],ds,_,e=>by simp at e|(n,v)::fs,[],l,e=>by simp at e|(n,v)::fs,d'::ds,#[x,r,z,h,l],e=>by have z':v::fs.map (·.2)=x::r:=z;cases z';simp only[List.map_cons,List.zip_cons_cons,List.lookup_cons]at e⊢;cases hf:f==n with
|true=>rw[hf]at e;cases e;exact#[v,rfl,h]|false=>rw[hf]at e;exact nL l e
def Ja(ho:PP X o fo)(l:∀C Ca,r C m=true->nsIn X.K mainGlobals C=!!24->Cls X.K Ca/\NoAttr X.K Ca m)(g:attributeBase o m X.env (eval o X.env)=eval o X.env):PP X (.Attribute o m pos) λY=>(fo Y).bind (re r m):=λO Y=>by refine(Ac (ho O Y) g).imp λσ H Q#[E,d,q,k]=>?_;let[t,J,q]:=UK q;refine#[E,t,J,λv H1 I iv=>?_];cases t with
|obj C T ds=>
  have j:(if r C m=true then(T.zip ds).lookup m else none)=!d:=q;split at j;.rename_i hC;let[a,Ca,dx,fs,rfl,h0,h1,h2,h3]:=iv;subst h2;let[p,e1,e2]:=nL h3 j;let[c,U]:=l C Ca hC h0;exact#[a,Ca,dx,fs,p,rfl,msk_le _ _ h1,c,U,e1,k p H1 I e2]
  .cases j|_=>cases q
structure Mf(P:Program)(w:World)(K:Frag)(mg:Str->Ua)(base:Heap)(C m:Str)(k:Nat)(f:xx):Prop where ex:∃(Ca fa:Addr)(fd:FuncData)(ps:Uc),nsIn K mainGlobals C=!!24/\Cls K Ca/\Meth K Ca m fa/\Binds K fd ps []/\FnOk P w K mg base qP k fa fd ps (IZ K f)
abbrev MT:=Str->Option (Nat×xx)
def  jG(mt:MT)(k0:Nat)(m:Str)(d:D)(as:Uh):T6:=match d with
|.obj C ns _=>(mt C).bind λz=>if z.1<=k0/\m∉ns then z.2 (d::as)else none|_=>none
def tD{α g:Type}[BEq α][LawfulBEq α]{m}:∀{l:List (α×g)},m∉l.map (·.1)->l.lookup m=none:=by grind
def vA{mt}(h:jG mt j m d as=!s):∃C g ds k f,d=.obj C g ds/\mt C=!(k,f)/\k<=j/\m∉g/\f (d::as)=!s:=by cases d with
|obj C g ds=>
  let[[k,f],e,q]:=UK h;split at q;.rename_i c;exact#[C,g,ds,k,f,rfl,e,c.1,c.2,q]
  .cases q|_=>cases h
structure Pick(X:Cx)(mt:MT)(k0:Nat)(m:Str)where
 C:Str
 Ca:Addr
 fa:Addr
 fd:FuncData
 ps:Uc
 k:Nat
 f:xx
 h:mt C=!(k,f)/\k<=k0/\nsIn X.K mainGlobals C=!!24/\Cls X.K Ca/\Meth X.K Ca m fa/\Binds X.K fd ps []/\FnOk X.prog X.w X.K X.mg X.base qP k fa fd ps (IZ X.K f)
def ER{mt}(g:∀C k f,mt C=!(k,f)->Mf X.prog X.w X.K X.mg X.base C m k f)(h:mt C=!(k,f))(l:k<=j):∃z:Pick X mt j m,z.C=C/\z.k=k/\z.f=f:=by let[Ca,fa,fd,ps,h1,h2,r,p,o]:=(g C k f h).ex;exact#[#[C,Ca,fa,fd,ps,k,f,h,l,h1,h2,r,p,o],rfl,rfl,rfl]
def  kA(fo:TY)(fa:TX)(mt:MT)(k0:Nat)(m:Str):Vv->T6:=λY=>(fo Y).bind λd=>(fa Y).bind λas=>jG mt k0 m d as
def Jb{K}(h:Is K H (.obj C g ds) v)(l:nsIn K mainGlobals C=!!24)(j:m∉g):∃a dx fs,v=.ref a/\H a=!.ins Ca dx fs/\fs.lookup m=none:=by let[a,p,dx,fs,rfl,h0,h1,h2,o]:=h;rw[l]at h0;cases h0;subst h2;exact#[a,dx,fs,rfl,h1,tD j]
def yS(hfew:methodCallForm args.length (backTo pos (starEach args env)) (backToKw pos (keywordEach [] env))=true)(hline:(apos.endLine==pos.line)=true):eval (.Call (.Attribute (.Name x px) m apos) args [] pos) env=(do
   let ov<-eval (.Name x px) env
   standAt apos.atName let(f,first)<-holding [ov] (getMethod ov m do return(<-importBound (.Name x px) env).getD true)callWith pos f first (backTo pos (starEach args env)) (backToKw pos (keywordEach [] env))):=by
 show(do
  let ov<-eval _ env
  standAt apos.atName
  methodCall _ m apos pos env ov (args.length+0) _ _)=_;have hm:∀ov,methodCall (.Name x px) m apos pos env ov (args.length+0) (backTo pos (starEach args env)) (backToKw pos (keywordEach [] env))=(do
   let(f,first)<-holding [ov] (getMethod ov m do return(<-importBound (.Name x px) env).getD true)callWith pos f first (backTo pos (starEach args env)) (backToKw pos (keywordEach [] env))):=fun ov=>by
  unfold methodCall;rw[Nat.add_zero,hfew];simp only[calleeOf,methodCallPos,hline,Bool.not_true,Bool.false_or,if_true,pure_bind]
 simp only[hm]
def yT{mt}(ho:PP X (.Name x px) fo)(hmt:∀C k f,mt C=!(k,f)->Mf X.prog X.w X.K X.mg X.base C m k f)(hr:Room k0 X.A)(hline:(apos.endLine==pos.line)=true)(O:Ue)(Y:Vv):PE X (.Call (.Attribute (.Name x px) m apos) [] [] pos) λσ H Q=>VE X.K O σ H Y/\∃s,kA fo (λ_=>![]) mt k0 m Y=!s/\∀v H1 H',Same H H1->RetOk X.K #[H1,O] H' s v->Q v H':=by
 refine(PE.ex λz:Pick X mt k0 m=>Ag (ho O Y) z.h.2.2.2.1 z.h.2.2.2.2.1 z.h.2.2.2.2.2.2 (hr.mono z.h.2.1) z.h.2.2.2.2.2.1 .nil sT (yS rfl hline)).imp λσ H Q#[E,s,q,kk]=>?_;let[d,q1,q]:=UK q;let[C,ns,ds,k,f,hd,hm,hk,hn,hf]:=vA q;let[z,rfl,rfl,rfl]:=ER hmt hm hk;refine#[z,E,d,q1,λv H1 s1 iv=>?_];subst hd;let[a,dx,fs,ev,ea,el]:=Jb iv z.h.2.2.1 hn;exact#[a,dx,fs,ev,msk_le _ _ ea,el,#[O,[_],s,(E.grow s1).lis,#[v,[],rfl,iv,rfl],hf,λw' H3 r=>kk w' H1 H3 s1 r]]
def Jc{f:Vv->T6}(h:PE X e λσ H Q=>VE X.K O σ H Y/\∃s,f Y=!s/\∀v H1 H',Same H H1->RetOk X.K #[H1,O] H' s v->Q v H'):PE X e (tP X.K O Y (bw (f Y))):=h.imp λσ H Q#[E,d,q,k]=>by let[s,o,l]:=UK q;cases l;refine#[E,s,o,λv H1 H' g r=>?_];let[j,p]:=r.is (E.grow g).lis;exact k v H' (g.trans j) p
def  RM(K:Frag)(Ca:Addr)(g:Uh->Option !39):Sp:=λvs H Q _=>∃x vs' dx O ds fd,vs=.ref x::vs'/\H x=!.ins Ca dx []/\(∀b,O b=true->Hid (H b))/\O x=true/\IsL K (msk O H) ds vs'/\g ds=!fd/\∀H' fs,(∀b o,b≠x->H b=!o->H' b=!o)->H' x=!.ins Ca dx fs->fs.map (·.1)=fd.map (·.1)->IsL K (msk O H') (fd.map (·.2)) (fs.map (·.2))->Q .non H'
structure Mkf(P:Program)(w:World)(K:Frag)(mg:Str->Ua)(base:Heap)(C:Str)(k:Nat)(g:Uh->Option !39):Prop where ex:∃(Ca fa:Addr)(fd:FuncData)(ps:Uc),mg C=!.ref Ca/\nsIn K mainGlobals C=!!24/\Mk K Ca fa/\Binds K fd ps []/\FnOk P w K mg base qP k fa fd ps (RM K Ca g)
def  ES(C:Str)(o:Option !39):Uj:=o.bind λfd=>!(.obj C (fd.map (·.1)) (fd.map (·.2)))
def ET(F:Mkf X.prog X.w X.K X.mg X.base C k g)(hr:Room (k+1) X.A)(hg:Gl X C)(ha:PX X (e::es) fa)(hdb:(C==("__debug__":Str))=false)(he:starEach (e::es) X.env=(false,eval e X.env)::starEach es X.env)(U:(!19).any (·.1)=false):PP X (.Call (.Name C p) (e::es) [] pos) λY=>(fa Y).bind λds=>ES C (g ds):=λO Y=>by
 let[Ca,f,fd,ps,hm,hns,M,j,G]:=F.ex;refine(Eb M G hr hg hm j .nil sT (ha O Y) hdb he U).imp λσ H Q#[E,d,q,kk]=>?_;let[ds,r,l]:=UK q;let[fl,q3,q4]:=UK l;cases q4;refine#[E,ds,r,λvs H1 s1 il x dx I hdx hne=>?_];have E1:=E.grow s1;have J:Same H1 (upd (upd H1 dx (.own x)) x (.ins Ca dx [])):=λb o q=>by rw[af (aq q I),af (aq q hdx)];exact q
 have le:Same (msk O H1) (msk (λb=>O b||decide (b=x)) (upd _ x _)):=λb o q=>by let[r,l]:=a8 q;rw[aH (by simp[r,(aq l I)])];exact J _ _ l
 rw[List.append_nil];refine#[x,vs,dx,λb=>O b||decide (b=x),ds,fl,rfl,ah,λb j=>?_,by simp,IsL.mono le _ _ il,q3,λH' fs keep T t hl=>#[rfl,?_]]
 .rcases(Bool.or_eq_true _ _).mp j with j|j;.exact(E1.lis b j).same J
  .rw[of_decide_eq_true j,ah];exact .inr (.inl #[_,_,_,rfl])
 .refine kk _ H' (s1.trans λb o q=>keep b o (aq q I) (J _ _ q)) #[x,Ca,dx,fs,rfl,hns,by rw[aH (E1.fresh I)];exact T,t,IsL.mono (λb o q=>?_) _ _ hl];let[r,l]:=a8 q;have:O b=false:=by cases z:O b with
|false=>rfl|true=>simp[z]at r
  rw[aH this];exact l
end
section
variable{K:Frag}{B:Bs}{O:Ue}{σ:St}{H:Hp}{Y:Ev}
def EnvOk.thaw(E:EnvOk K B O (σ++[!v]) H (Y++[!s])):∃l,EnvOk K B l σ H Y/\Same (msk O H) (msk l H)/\Is K (msk l H) s.2 v:=by
 let[F,h1,h2,T,J]:=E.fp;have len:σ.length=Y.length:=by have:=E.len;simp at this;exact this
 let[v',U,o1]:=h1 Y.length s (getElem?_last _ _);rw[<-len,getElem?_last]at U;cases U;let l:Ue:=λb=>O b&&not (decide (b∈F Y.length));have le:Same (msk O H) (msk l H):=λb o q=>by let[q1,q2]:=a8 q;rw[aH (by simp[l,q1])];exact q2
 refine#[l,#[E.same,E.bdom,λb p=>?_,λb p=>E.lis b (by simp[l]at p;exact p.1),len,λj=>if j=Y.length then[]else F j,λj x q=>?_,λj=>?_,λj k a g r=>?_,λj a g=>?_],le,o1.is le λa ha=>by simp[l,ha]];.have I:b∉F Y.length:=λz=>E.bdom b p (J _ b z).2;simp[l,E.sub b p,I]
 .have C:=(Us.mp q).1;have g:j≠Y.length:=by lia
  let[w,e2,o2]:=h1 j x (by rw[getElem?_append_left C];exact q);exact#[w,cJ (by lia) e2,by simp only[if_neg g];exact o2.frame le λ_ _ _ h=>h]
 .dsimp only;split;.exact List.nodup_nil
  .exact h2 _
 .dsimp only at g r;split at g;.cases g
  .split at r;.cases r
   .exact T _ _ a g r
 .dsimp only at g;split at g;.cases g
  .rename_i t;have I:a∉F Y.length:=λz=>t (T _ _ a g z);exact#[by simp[l,(J _ a g).1,I],(J _ a g).2]
def EnvOk.store(E:EnvOk K B O σ H Y)(r:B.O x=true)(C:B.H x=!.ins Ca dx fs):EnvOk K #[upd B.H x (.ins Ca dx fs'),B.O] O σ (upd H x (.ins Ca dx fs')) Y/\msk O (upd H x (.ins Ca dx fs'))=msk O H:=by
 have p:msk O (upd H x (.ins Ca dx fs'))=msk O H:=fy (E.sub x r);let[F,h1,h2,I,l]:=E.fp;have no:∀i,x∉F i:=λi z=>by have:=(l i x z).2;rw[C]at this;cases this
 refine#[#[λb o q=>?_,λb q=>?_,E.sub,λb q=>?_,E.len,F,λi s q=>?_,h2,I,λi a g=>#[(l i a g).1,?_]],p]
 .have j:upd B.H x (.ins Ca dx fs') b=!o:=q;by_cases h:b=x;.subst h;rw[ah]at j⊢;exact j
  .rw[af h]at j⊢;exact E.same b o j
 .by_cases h:b=x;.subst h;show upd B.H b _ b≠none;rw[ah];simp
  .show upd B.H x _ b≠none;rw[af h];exact E.bdom b q
 .by_cases h:b=x;.subst h;rw[ah];exact .inr (.inl #[_,_,_,rfl])
  .rw[af h];exact E.lis b q
 .let[v,e,o]:=h1 i s q;refine#[v,e,o.frame (by rw[p];exact Same.refl _) λa g u t=>?_];have:a≠x:=λz=>no i (z▸g);rw[af this];exact t
 .have:a≠x:=λz=>no i (z▸g);show upd B.H x _ a=none;rw[af this];exact(l i a g).2
end
noncomputable def  nM(f:Str)(d:D):List (Str×D)->List (Str×D)
|[]=>[(f,d)]|(g,e)::r=>if g=f then(g,d)::r else(g,e)::nM f d r
def rg{K}(h:Is K M d v):∀{fd:List (Str×D)}{fs:List (Str×V)},fs.map (·.1)=fd.map (·.1)->IsL K M (fd.map (·.2)) (fs.map (·.2))->(gu f v fs).map (·.1)=(nM f d fd).map (·.1)/\IsL K M ((nM f d fd).map (·.2)) ((gu f v fs).map (·.2))
|[],[],_,_=>#[rfl,v,[],rfl,h,rfl]|[],_::_,e,_=>by simp at e|_::_,[],e,_=>by simp at e|(g,c)::fd,(g',u)::fs,e,#[x,r,z,q,l]=>by
  have e1:g'=g:=by simp at e;exact e.1
  have e2:fs.map (·.1)=fd.map (·.1):=by simp at e;simpa using e.2
  subst e1;have z':u::fs.map (·.2)=x::r:=z;cases z';unfold gu nM;by_cases hg:g'=f;.rw[if_pos hg,if_pos hg];exact#[by simp[e2],v,_,rfl,h,l]
  .rw[if_neg hg,if_neg hg];let[a,b]:=rg h e2 l;exact#[by simp[a],u,_,rfl,q,b]
abbrev uT:=Ev->List (Str×D)->Option !39
def  Ta(K:Frag)(Ca:Addr)(B:Bs)(O:Ue)(Y:Ev)(x dx:Addr)(fd:List (Str×D))(o:Option !39):TS:=λEn σ H=>EnvOk K B O σ H Y/\B.O x=true/\(∃fs,B.H x=!.ins Ca dx fs/\fs.map (·.1)=fd.map (·.1)/\IsL K (msk O H) (fd.map (·.2)) (fs.map (·.2)))/\∃fd',o=!fd'/\∀σ' H' O' fs',(∀b o,b≠x->B.H b=!o->H' b=!o)->(∀b,B.O b=true->O' b=true)->H' x=!.ins Ca dx fs'->fs'.map (·.1)=fd'.map (·.1)->IsL K (msk O' H') (fd'.map (·.2)) (fs'.map (·.2))->En.nx σ' H'
def  DV(X:Cx)(Ca x:Addr)(st:List Stmt)(I:uT):Prop:=∀B O Y dx fd,PSs X st (Ta X.K Ca B O Y x dx fd (I Y fd))
def  A9:uT:=λ_ fs=>!fs
def  stI(F:TZ)(G:uT):uT:=λY fs=>(F Y).bind λo=>match o with
|.nx Y'=>G Y' fs|_=>none
def  rh(x:Addr)(i:Nat)(f:Str)(g:T2)(G:uT):uT:=λY fs=>(g Y).bind λz=>match d8 z.2 i with
|some (.sh,.adr a)=>if a=x/\fs.length<900 then G z.2 (nM f z.1.2 fs)else none|_=>none
section
variable{X:Cx}{Ca x:Addr}{st:Stmt}{rest:List Stmt}{e:Expr}{pos:Pos}
def Jd:DV X Ca x [] A9:=λB O Y dx fd=>pss_nil.imp λp σ H#[E,l,#[fs,h1,h2,g],j,q,k]=>by cases q;exact k σ H O fs (λb o _ h=>E.same b o h) E.sub (E.same x _ h1) h2 g
def EU(h1:PR X st F)(h2:DV X Ca x rest G):DV X Ca x (st::rest) (stI F G):=λB O Y dx fd=>(ij (h1 B O Y) (PSs.ex λz:Ue×Ev=>h2 B z.1 z.2 dx fd)).imp λU σ H#[E,r,#[fs,I,C,t],j,q,k]=>by let[l,p,g]:=UK q;refine#[E,l,p,?_];cases l with
|nx Y'=>exactλo H' J s' T=>#[#[J,Y'],T,r,#[fs,I,C,IsL.mono s' _ _ t],j,g,k]|rt d=>cases g|bk Y'=>cases g|ct Y'=>cases g
def Je(i:Nat)(hv:qc X e g)(h2:DV X Ca x rest G)(hN:X.N[i]?=!self)(l:oQ X.env.scope self)(hd:(self==("__debug__":Str))=false)(t:(self==("__classdict__":Str))=false)(hs:swapsWith e (!.Attribute (.Name self px) f pos') pos.line X.env=pure false)(c:Cls X.K Ca)(na:NoAttr X.K Ca f):DV X Ca x (.Assign [.Attribute (.Name self px) f pos'] e pos::rest) (rh x i f g G):=λB O Y dx fd=>(ij (Ad (bH hN l hd t) (hv B O Y).1 hs) (PSs.ex λz:Bs×Ue×Ev×List _=>h2 z.1 z.2.1 z.2.2.1 dx z.2.2.2)).imp λEn σ H#[E,T,#[fs,a1,I,a3],C,q,k]=>by
 let[[s,Y'],q1,q]:=UK q;refine#[E,s,Y',q1,λy H1 O1 s1 E1=>?_];let[O2,J,s2,iy]:=E1.thaw;have j:=q;split at j
 .rename_i a ha;split at j
  .rename_i hc;let[rfl,hl]:=hc;let[F,f1,_]:=J.fp;let[w,ew,ow]:=f1 i _ (slAt_some ha);cases ow.2;have p:=J.same a _ a1;have U:fs.length=fd.length:=by have:=congrArg List.length I;simpa using this
   refine#[.ref a,ew,a,Ca,dx,fs,rfl,p,c,na,by lia,?_];let[E3,me]:=J.store T a1;let[b1,b2]:=rg iy I (IsL.mono (s1.trans s2) _ _ a3);refine#[#[#[upd B.H a _,B.O],O2,Y',nM f s.2 fd],E3,T,#[_,ah,b1,by rw[me];exact b2],C,j,λr H' O' fs' k1 k2 k3 k4 k5=>k r H' O' fs' (λb o p h=>k1 b o p (by show upd B.H a _ b=!o;rw[af p];exact h)) k2 k3 k4 k5]
  .cases j
 .cases j
end
def  vB(n:Nat)(x:Addr)(ds:Uh):Ev:=az n (.adr x::ds)
def  rm(n m:Nat)(I:Addr->uT)(x:Addr)(ds:Uh):Option !39:=if ds.length+1=n then I x (vB m x ds) []else none
def PL{K}{st}(Fn:Fun K x p st f fd)(S:FnScope N ps (ao st))(hg:∀ds r,g ds=!r->∀y,rm ps.length N.length I y ds=!r)(hb:∀(y:Addr)(l:Value)(A:Around)(j:List Env)(s:Shared)(H:Hp)(E:XK),Room k (A.deeper (envOfC p (ao st) s.heap.objs.size f l))->DV (oT qP P w K mg base N p (ao st) f l A j s H E).nox Ca y (aL st) (I y)):FnOk P w K mg base qP (k+1) f fd ps (RM K Ca g):=by
 refine Fn.ok S (λvs H Q E#[y,t,dx,O,ds,r,U,_,_,_,J,e,_]=>?_) λl A j s H vs Q E hr#[y,t,dx,O,ds,r,U,hy,hO,T,J,e,kk]=>?_ 
 .have:=hg ds r e 0;unfold rm at this;split at this;.rename_i h;rw[U,length_cons,<-J.len];exact h
  .cases this
 .have q:=hg ds r e y;unfold rm at q;split at q;.subst U;have C:IsL K (msk O H) (.adr y::ds) (.ref y::t):=#[_,_,rfl,rfl,J];refine#[_,hb y l A j s H E hr #[H,O] O _ dx [],nK hO C,T,#[[],hy,rfl,rfl],r,q,λσ' H' O' fs' k1 k2 k3 k4 k5=>kk H' fs' k1 k3 k4 (IsL.mono (λb o z=>?_) _ _ k5)];let[z1,z2]:=a8 z;rw[aH];exact z2;cases zz:O b with
|false=>rfl|true=>rw[k2 b zz]at z1;cases z1
  .cases q
structure NSt(b:Bool)(z j l:Addr)(k:Nat)(h:Heap):Prop where
 ne:z≠j
 hz:∃old,IsEnum h z j k old
 h1:ItK b h j l k
section
variable{prog:Program}{w:World}{A:Around}{E:T8}{s:Shared}
def Ba{k:Nat}{Q:T8}(Z:IsEnum s.heap z j k old)(J:ItK b s.heap j l k)(C:CoK b s.heap l xs)(hx:xs[k]?=!x)(ne:z≠j)(hQ:∀g,IsEnumOut g z j ((k:Int)+1) x s.heap.objs.size->ItK b g j l (k+1)->g.get? s.heap.objs.size=some {cls:=.type "tuple",data:=.seq #[ .int k s.toks,x]}->g.objs.size=s.heap.objs.size+1->(∀d o,d≠z->d≠j->s.heap.get? d=!o->g.get? d=!o)->Q (.ref s.heap.objs.size) {s with heap:=g,toks:=s.toks+1}):wpAny (!7) A (Builtin.«enumerate.__next__» #[[.ref z],[]]) (λfin s'=>∃v,fin=.done (.ret v)/\Q v s') E s:=by cases s with|mk p gn dr tk os=>
 show wpAny _ _ (field (.ref z) 2>>=_) _ _ _;refine Ul (wpAny_field Z rfl rfl (Ul (Ma J C hx λg1 J1 I=>?_)));replace I:Heap.SameBut j p g1:=I;have Z1:=(I.2 z ne).trans Z;refine Ul (wpAny_field Z1 rfl rfl (Ul (wpAny_field Z1 rfl rfl (Ul (wpAny_mkInt ?_)))));show wpAny _ _ (setField (.ref z) 3 (rawInt ((k:Int)+1))>>=_) _ _ #[g1,gn,dr,tk+1,os];refine Ul (wpAny_setField_rec Z1 (by simp) λg2 Z2 t=>?_);replace t:Heap.SameBut z g1 g2:=t;replace Z2:IsEnum g2 z j ((k:Int)+1) old:=Z2;refine Ul (wpAny_setField_rec Z2 (by simp) λg3 Z3 r=>?_);replace r:Heap.SameBut z g2 g3:=r;replace Z3:IsEnum g3 z j ((k:Int)+1) old:=Z3;refine Ul (wpAny_newTuple ?_);have Z4:IsEnum (!29) z j ((k:Int)+1) old:=Um _ Z3;have sz:g3.objs.size=p.objs.size:=by rw[r.1,t.1,I.1]
 have zl:=Up Z;have T4:(!29).get? p.objs.size=some {cls:=.type "tuple",data:=.seq #[ .int k tk,x]}:=by rw[<-sz];exact Uq _ rfl
 have z4:(!29).objs.size=p.objs.size+1:=by rw[Heap.size_push,sz]
 have k4:∀d o,d≠z->d≠j->p.get? d=!o->(!29).get? d=!o:=λd o T n2 e=>Um _ (r.extBut d o T (t.extBut d o T (I.extBut d o n2 e)));have J4:ItK b (!29) j l (k+1):=((J1.ext t ne.symm).ext r ne.symm).at λo e=>Um _ e;generalize g3.push {cls:=.type "tuple",data:=.seq #[ .int k tk,x]}=g4 at Z4 T4 z4 k4 J4;rw[sz];refine Ul (Ul (wpAny_field Z4 rfl rfl (Uo (Ul (wpAny_rule (Ul (wpAny_field Z4 rfl (x:=old) rfl (Ul (wpAny_setField_rec Z4 (by simp) λg5 Z5 s5=>?_)))))))));replace s5:Heap.SameBut z g4 g5:=s5;replace Z5:IsEnum g5 z j ((k:Int)+1) x:=Z5;show wpAny _ _ (Builtin.SmallTypes.ownedTupleHandOut (.ref z) (.ref p.objs.size)>>=_) _ _ #[g5,gn,dr,tk+1,os];refine Ul (Ul (wpAny_setField_rec Z5 (by simp) λg6 Z6 s6=>?_));replace s6:Heap.SameBut z g5 g6:=s6;replace Z6:IsEnumOut g6 z j ((k:Int)+1) x p.objs.size:=Z6;refine wpAny_setField_rec Z6 (by simp) λg7 Z7 U=>?_;replace U:Heap.SameBut z g6 g7:=U;replace Z7:IsEnumOut g7 z j ((k:Int)+1) x p.objs.size:=Z7;have up:∀d o,d≠z->g4.get? d=!o->g7.get? d=!o:=λd o n e=>U.extBut d o n (s6.extBut d o n (s5.extBut d o n e));exact Ul (wpAny_letGo (Uo #[_,rfl,hQ g7 Z7 (J4.at λo e=>up _ o ne.symm e) (up _ _ (Nat.ne_of_gt zl) T4) (by rw[U.1,s6.1,s5.1,z4]) λd o T n2 e=>up d o T (k4 d o T n2 e)]))
def Bb(Z:NSt b z j l k s.heap)(C:CoK b s.heap l xs)(hx:xs[k]?=!x)(hQ:∀g,IsEnumOut g z j ((k:Int)+1) x s.heap.objs.size->ItK b g j l (k+1)->g.get? s.heap.objs.size=some {cls:=.type "tuple",data:=.seq #[ .int k s.toks,x]}->g.objs.size=s.heap.objs.size+1->(∀d o,d≠z->d≠j->s.heap.get? d=!o->g.get? d=!o)->Q (!.ref s.heap.objs.size) {s with heap:=g,toks:=s.toks+1}):wpAny (!7) A (pyNext (.ref z)) Q E s:=by
 let[ne,[old,hz],h1]:=Z;have T:s.TypeIs (.ref z) "enumerate":=#[_,hz,rfl];exact Ul (wpAny_attempt (wpAny_callSpecial?_slot T F.slot_enumerate_next (wpAny_call_entry F.slot_enumerate_next T F.entry_enumerate_next (Ba hz h1 C hx ne λg a c d e f=>Uo (hQ g a c d e f)) (F.args_enumerate_next_1 _))))
def Bc(hh:A.handled=none)(Z:NSt b z j l k s.heap)(C:CoK b s.heap l xs)(hx:xs[k]?=none)(hQ:∀g,Heap.ExtBut j s.heap g->Q none {s with heap:=g}):wpAny (!7) A (pyNext (.ref z)) Q E s:=by let[ne,[old,hz],h1]:=Z;have T:s.TypeIs (.ref z) "enumerate":=#[_,hz,rfl];refine Ul (wpAny_attempt (wpAny_callSpecial?_slot T F.slot_enumerate_next (wpAny_call_entry F.slot_enumerate_next T F.entry_enumerate_next ?_ (F.args_enumerate_next_1 _))));show wpAny _ _ (field (.ref z) 2>>=_) _ _ _;refine Ul (wpAny_field hz rfl rfl (Ul (yO hh h1 C hx λg e q he=>?_)));let[o,ho,hc]:=he;exact Ul (wpAny_isInstance #[o,ho,hc] isSubtype_stop (Uo (hQ _ q)))
abbrev nG(h:Heap)(b:Bool)(l:Addr):Heap:=(h.push (qb b l)).push {cls:=.type "enumerate",data:=.fields #[ .none,.bool false,.ref h.objs.size,rawInt 0,.none,.none]}
def EV(b:Bool)(l:Addr)(xs:Ug):Meets (Builtin.«enumerate.__new__» #[[.type "enumerate",.ref l],[]]) λ_ R s=>CoK b s.heap l xs/\R (.ok (.ret (.ref (s.heap.push (qb b l)).objs.size))) {s with heap:=nG s.heap b l}:=.of_wp λprog w A R s h=>by cases s with|mk hp gn dr tk os=>
  let[c0,h]:=h;have hsub:=sub_enumerate;have C:CoK b (Shared.heap #[hp,gn,dr,tk,os]) l xs:=c0;wp_walk using AJ C;refine wpAny_stack_any λst=>Uo ?_;split;.rename_i c _ _ _ _ _;cases c==Value.type "enumerate"<;>(wp_walk using AJ C;exact#[_,rfl,h])
  .wp_walk using AJ C;exact#[_,rfl,h]
def Bd(C:CoK b s.heap l xs)(h:∀g,NSt b (!21) s.heap.objs.size l 0 g->g.objs.size=s.heap.objs.size+2->(∀d o,s.heap.get? d=!o->g.get? d=!o)->Q (.ref !21) {s with heap:=g}):wpAny (!7) A (call (.type "enumerate") [.ref l]) Q E s:=by
 refine callType_new F.called_enumerate (!2) (F.typeCall_enumerate_1 _) (F.newCall_enumerate_1 _) (λobj=>F.args_object_init_2 obj _) F.entry_enumerate_new (EV b l xs) #[C,?_];have z1:(s.heap.push (qb b l)).objs.size=s.heap.objs.size+1:=Heap.size_push ..;have g2:IsEnum (nG s.heap b l) (!21) s.heap.objs.size 0 .none:=by have:=Uq (s.heap.push (qb b l)) (o:={cls:=.type "enumerate",data:=.fields #[ .none,.bool false,.ref s.heap.objs.size,rawInt 0,.none,.none]}) rfl;rw[z1]at this;exact this
 have fb:(qb b l).isFreed=false:=by cases b<;>rfl
 rw[z1];exact#[#[_,g2,rfl],h _ #[Nat.succ_ne_self _,#[_,g2],by cases b<;>exact#[_,Um _ (Uq _ fb),rfl,rfl]] (by rw[Heap.size_push,z1]) λd o x=>Um _ (Um _ x)]
end
def  PM(K:Frag)(b:Bool)(l:Addr):It:=#[λi H=>∃xs x,SqK b K H l xs/\xs[i]?=!x,λi H v H'=>∃p x,v=.ref p/\H p=none/\H'=upd H p (.tup [.int i,x])/\∀xs,SqK b K H l xs->xs[i]?=!x,λi H=>∃xs,SqK b K H l xs/\xs.length<=i]
def NSt.live(Z:NSt b z j l k h)(hd:d∈[z,j]):∃o,h.get? d=!o/\∀v,o.data≠.cell v:=by
 simp at hd;rcases hd with rfl|rfl;.let[old,e]:=Z.hz;exact#[_,e,λv q=>by cases q]
 .let[o,n,p,e,_,g,_]:=Z.h1.live;exact#[o,e,λv q=>by rw[g]at q;cases q]
def Be{P:Program}{w:World}{K:Frag}{g:Ui}{x1:Nat}{tpos:Pos}(b:Bool)(l z j:Addr):Turn P w K (.Tuple g x1 tpos) (PM K b l) [z,j] z λi h=>NSt b z j l i h where
 mem:=by simp
 obj:=λi h Z d hd=>Z.live hd;keep:=λi h h' Z k=>by let[old,e]:=Z.hz;exact#[Z.ne,#[old,k z (by simp) _ e],Z.h1.at λo q=>k j (by simp) o q]
 item:=by
  intro X hP hw hK hc i pins s σ H E I r Z hg;subst hP hw hK;let[xs,x,p,ex]:=hg;let[U,rv,J,_]:=I.coK p;let[u,hu,ru]:=rv.get ex;refine Bb Z J (by simpa using hu) λh' Z' J' T' sz T=>#[_,rfl,wpAny_letOwnedTupleGo_enum Z' λh2 hz2 C=>?_];let[old,hz]:=Z.hz;have t:=Up hz;have Z2:NSt b z j l (i+1) h2:=#[Z.ne,#[_,by rw[show((i+1:Nat):Int)=(i:Int)+1 from rfl];exact hz2],J'.at λo q=>C.extBut _ _ Z.ne.symm q];have kk:∀d o,d∉[z,j]->s.heap.get? d=!o->h2.get? d=!o:=λd o hd e=>by simp at hd;exact C.extBut _ _ hd.1 (T d o hd.1 hd.2 e)
  refine#[.ref s.heap.objs.size,_,I.turnedNew r kk (UI _) ?_,rfl,#[s.heap.objs.size,x,rfl,I.hok.fresh (UI _),rfl,λzs hzs=>by rw[I.coK_inj hzs p];exact ex],Z2,λd hd=>?_];.exact#[by show 2<=sizeLine;decide,[.int i s.toks,u],.cons #[_,rfl] (.cons ru .nil),#[_,C.extBut _ _ (Nat.ne_of_gt t) T',rfl,_,rfl]]
  .let[o,eo,_]:=Z.live hd;rw[af (Nat.ne_of_lt (Heap.lt_size eo))];exact(r d hd).1
 done:=by intro X hP hw hK hc i pins s σ H E I r Z hg;subst hP hw hK;let[xs,p,hl]:=hg;let[U,rv,J,_]:=I.coK p;have e1:=rv.length;refine Bc (I.ok.hd hc) Z J (by simp;lia) λh' T=>#[rfl,I.turnedL r λd o hd e=>?_];simp at hd;exact T d o hd.2 e
 self:=λ_ _ _ _ _ Z h=>by let[old,e]:=Z.hz;exact wpAny_pyIter_enum e h
def Jf:bootBuiltins "enumerate"=!.type "enumerate":=by decide+kernel
def  PN(K:Frag)(ta:TA):TI:=λσ H R=>ta σ H λvs H1=>∃b l xs,vs=[.ref l]/\SqK b K H1 l xs/\R (PM K b l) H1
def Jg{x1}(hg:Gl X "enumerate")(hm:X.mg "enumerate"=none)(ha:PA X [a] ta)(hs:starEach [a] X.env=[(false,eval a X.env)]):PI X (.Tuple elts x1 tpos) (.Call (.Name "enumerate" p) [a] [] pos) (PN X.K ta):=by
 intro pins s σ H R I h;refine Call_ (cz I hg hm Jf (PyProof.Rows.callWith_type1 (bG (ha pos pins s σ H _ I h) λus s1#[vs,H1,I1,r1,q1]=>?_) (by rw[hs];rfl) (by rfl)));let[b,l,xs,e,hx,q]:=q1;subst e;let[u,rfl,ru]:=fw r1;cases ru;let[its,rx,p1,_]:=I1.coK hx;refine Bd p1 λh' Z sz k=>?_;let[old,hz]:=Z.hz;refine wpAny_pyIter_enum hz ?_;have I2:Inv X pins σ H1 {s1 with heap:=h'}:=I1.kept k;refine#[s1.heap.objs.size+1,[s1.heap.objs.size+1,s1.heap.objs.size],_,_,H1,rfl,I2,Be b l _ _,Z,λd hd=>?_,q];have hge:s1.heap.objs.size<=d:=by simp at hd;rcases hd with rfl|rfl<;>first|exact Nat.le_add_right _ _|exact UI _
 exact I1.fpOk hge (I1.hok.fresh hge)
noncomputable def  mC(xs:Uh):Uh:=xs.zipIdx.map λp=>.tup [.int (p.2:Nat),p.1]
def Bf{K}{b}(I:SqK b K r l xs)(p:IsL K r ds xs):nB K r (PM K b l) (mC ds):=λi H O s hd=>by
 have g:=I.mono (s.trans msk_le);refine#[λd hi=>?_,λhi=>#[xs,g,?_]];.unfold mC at hi;rw[getElem?_map,List.getElem?_zipIdx]at hi;cases e:ds[i]?with
|none=>rw[e]at hi;cases hi|some d1=>rw[e]at hi;cases hi;let[x,ex,C]:=p.get e;refine#[#[xs,x,g,ex],?_];rintro v U⟨q,T,rfl,j,rfl,t⟩;have o:=t xs g;rw[ex]at o;cases o;have J:=fX hd j;exact#[Same.new j,q,[.int i,x],rfl,.of (by rw[aH J,ah]),#[.int i,[x],rfl,by show V.int _=V.int _;simp,x,[],rfl,Is.mono (s.trans (Same.new j).msk) _ _ C,rfl]]
 .have h1:=p.len;unfold mC at hi;rw[length_map,List.length_zipIdx]at hi;lia
def  xg:Uh->T7:=uR λc=>(seqD c).bind λxs=>!mC xs
def Jh{X:Cx}{a:Expr}{p:Pos}{pos:Pos}{x1}(hg:Gl X "enumerate")(hm:X.mg "enumerate"=none)(ha:PX X [a] fa)(hs:starEach [a] X.env=[(false,eval a X.env)]):PJ X (.Tuple j x1 tpos) (.Call (.Name "enumerate" p) [a] [] pos) λY=>(fa Y).bind xg:=λO Y=>(Jg hg hm (ha O Y) hs).imp λσ H R#[E,ds,q,k]=>by
 let[as,e1,q]:=UK q;refine#[E,as,e1,λvs H1 o U=>?_];let[c,rfl,C]:=bA q;let[xs,t,r]:=UK C;cases r;let[u,rfl,T]:=uS U;let[J,l,rfl,g,I]:=kr t T;let[b1,g]:=IK g;exact#[b1,J,l,rfl,g.mono msk_le,k _ H1 o (Bf g I)]
section
variable{X:Cx}{a b:Expr}{pos:Pos}
def  Mm(K:Frag):R2:=λx y H Q=>∃l m xs zs,x=.ref l/\y=.ref m/\SqL K H l xs/\SqL K H m zs/\xs.length+zs.length<=sizeLine/\∀p,H p=none->Q (.ref p) (upd H p (.lst (xs++zs)))
def EW:OpR X (binaryOp .Add) (Mm X.K):=by intro pins s σ H x y v u Q I rx U h;let[l,m,xs,zs,rfl,rfl,h1,h2,hz,q]:=h;cases rx;cases U;let[j,p,[[c1,d1,t1,T],n1,r,k1,_,C],_]:=I.list h1;let[g,o,[[c2,d2,t2,J],n2,e2,k2,_,t],_]:=I.list h2;subst k1 C k2 t;have hl1:=p.length;have hl2:=o.length;refine concat_meets #[_,r,rfl] #[_,e2,rfl] noFill_list_add seq_list_add PySem.F.slot_list_add PySem.F.entry_list_add (PySem.F.args_list_add_2 _ _) (list_addW l m j.toArray g.toArray n1 n2 d1 d2 T J (by rw[size_toArray,size_toArray];lia)) #[r,e2,?_];rw[show j.toArray++g.toArray=(j++g).toArray by simp];exact#[.ref _,_,I.lnew (p.append o) (by rw[length_append];omega),rfl,q _ I.fresh]
def  PV(d e:D):T7:=(j3 d).bind λxs=>(j3 e).bind λys=>bT !xs++ys
def  fN(fa fb:TY):TX:=λY=>(fa Y).bind λx=>(fb Y).bind λy=>PV x y
def Ji(ha:PP X a fa)(hb:PP X b fb):PF X (.BinOp a .Add b pos) (fN fa fb):=λO Y=>(zY EW (ha O Y) (hb O Y)).imp λσ H Q#[E,ds,q,k]=>by let[dx,e1,q]:=UK q;let[dy,e2,q]:=UK q;let[xs,f1,q]:=UK q;let[ys,f2,q]:=UK q;let[g1,g2]:=dB q;cases g1;refine#[E,dx,e1,λx H1 j U=>#[E.grow j,dy,e2,λy H2 g T=>?_]];let[l,C,rfl,J,r]:=b8 f1 (Is.mono g.msk dx x U);let[m,t,rfl,I,o]:=b8 f2 T;refine#[l,m,C,t,rfl,rfl,msk_le.seq J,msk_le.seq I,?_,λp hp=>k p _ H2 (j.trans g) hp (r.app o)];rw[length_append]at g2;rw[<-r.len,<-o.len];exact UF g2
end
def IsL.rep{K:Frag}{M:Hp}{ds:Uh}{xs:List V}(h:IsL K M ds xs):∀n:Nat,IsL K M (List.replicate n ds).flatten (List.replicate n xs).flatten
|0=>rfl|n+1=>by rw[List.replicate_succ,List.replicate_succ,List.flatten_cons,List.flatten_cons];exact h.app (IsL.rep h n)
def  Bg(fa:TX)(fb:TY):TX:=λY=>(fa Y).bind λxs=>(fb Y).bind λy=>(j4 y).bind λn=>if 0<=n/\n<256/\xs.length*n.toNat<=256 then some (List.replicate n.toNat xs).flatten else none
def Jj{X:Cx}{a:Expr}{b:Expr}{pos:Pos}{fa I}(ha:PF X a fa)(hb:PP X b I):PF X (.BinOp a .Mult b pos) (Bg fa I):=λO Y=>(zY Iq (ha O Y) (hb O Y)).imp λσ H Q#[E,ds,q,k]=>by
 let[xs,e1,q]:=UK q;let[dy,e2,q]:=UK q;let[n,f2,q]:=UK q;let[g1,g2]:=aj q;subst g2;cases intD_some f2;refine#[E,xs,e1,λp g H1 J C l=>?_];have t:=J.trans (Same.new (o:=.lst g) C);refine#[E.grow t,_,e2,λy H2 j U=>?_];have hz:g.length*n.toNat<=sizeLine:=by rw[<-l.len];exact Uy g1.2.2 !2 
 exact#[p,n,g,rfl,U,j _ _ (ah ..),by lia,by omega,hz,λT r=>k T _ H2 (t.trans j) r ((IsL.mono ((Same.new C).trans j).msk _ _ l).rep _)]
def EX:typeLookup (.type "list_reverseiterator") "__len__"=pure none:=by constructor<;>grind
def Bh:typeLookup (.type "list_reverseiterator") "__length_hint__"=pure !.builtin "list_reverseiterator.__length_hint__":=by constructor<;>grind
section
variable{prog:Program}{w:World}{A:Around}{E:T8}{s:Shared}
def EY(hh:A.handled=none)(J:s.heap.IsRevIter j l ((xs.size:Int)-1))(C:s.heap.IsList l xs)(ne:l≠j)(hS:s.heap.get? S=some {cls:=.type "list",data:=.seq #[ ] t})(U:S≠j)(nl:S≠l)(hn:xs.size<=sizeLine)(hR:∀g tk p c,(∀d o,d≠S->d≠j->s.heap.get? d=!o->g.get? d=!o)->g.get? S=some {cls:=.type "list",dict:=none,data:=.seq p c,slots:=#[ ]}->ItemsOf (λi v=>xs[xs.size-1-i]?=!v) p xs.size->R (.ok (.ret res)) {s with heap:=g,toks:=tk}):wpAny (!7) A.in1 (Builtin.List.listExtendWith (.ref S) (.ref j) res) (λfin s'=>match fin with|.done f=>R (.ok f) s'|.again c'=>c'.quiet=true/\codeAny (!7) A c' R s') (λe s'=>R (.error e) s') s:=by
 have W:=(Walks.listRev (prog:=prog) (w:=w) (A:=A.in1) hh j l ne xs).toS;refine Ul (wpAny_typeOf J.typeIs ?_);have h1:Builtin.List.listSameRef (.ref S) (.ref j)=false:=by simp[Builtin.List.listSameRef,U]
 have h2:(Value.type "list_reverseiterator"==Value.type "list")=false:=by decide
 have h3:(Value.type "list_reverseiterator"==Value.type "tuple")=false:=by decide
 simp only[h1,h2,h3,Bool.or_false,Bool.false_eq_true,if_false];refine Ul (wpAny_pyIter_revIter J (Ul (wpAny_holding ((λJ h=>by refine Ul (wpAny_specialOf J.typeIs EX (Ul (wpAny_specialOf J.typeIs Bh ?_)));generalize o:("list_reverseiterator.__length_hint__":String)=id0;wp_delta;rw[show splitId id0=some ("list_reverseiterator","__length_hint__")from by subst o;decide+kernel];subst o;refine Ul (wpAny_isInstance (b:=true) J.typeIs (by rw[isSubtype_type];kernel_rfl) ?_);refine wpAny_ite_split (λg=>absurd g !2) λ_=>wpAny_ite_split (λ_=>wpAny_ite_split (λg=>absurd g !16) λ_=>?_) λg=>absurd (!16) g;exact Uo h) J ?_))));refine wpAny_ite_split (λI=>absurd I !16) λ_=>Uo #[plainId_quiet F.plain_extend_loop _,codeAny_extend_loopS W hn S (by simp[U,nl]) res xs.size 0 _ #[ ] t rfl (Nat.zero_le _) #[Nat.zero_le _,by simpa using J,C] hS (ItemsOf.nil _) λs' p c hm T r=>?_];rw[Moved.eq_with hm];exact hR s'.heap s'.toks p c (λd o n1 n2 e=>hm.heap d o (by simp[n1,n2]) e) T r
def yU{xs g:Ug}(h:ItemsOf (λi v=>xs[xs.size-1-i]?=!v) g xs.size):g.toList=xs.toList.reverse:=by
 apply List.ext_getElem?;intro i;by_cases hi:i<xs.size
 .have h1:i<g.size:=by rw[h.1];exact hi
  rw[List.getElem?_reverse (by simpa using hi),Array.getElem?_toList,Array.getElem?_toList,Array.getElem?_eq_getElem h1,<-(h.2 i _ (Array.getElem?_eq_getElem h1))];simp
 .rw[List.getElem?_eq_none (by rw[Array.length_toList,h.1];lia),List.getElem?_eq_none (by rw[List.length_reverse,Array.length_toList];lia)]
end
def Hd:bootBuiltins "reversed"=!.type "reversed":=by decide+kernel
def He:bootBuiltins "list"=!.type "list":=by decide+kernel
def IsL.rev{K}:∀{ds:Uh}{xs:List V},IsL K H ds xs->IsL K H ds.reverse xs.reverse
|[],xs,h=>by cases h;rfl|d::ds,xs,#[x,r,e,h,l]=>by subst e;rw[List.reverse_cons,List.reverse_cons];exact(IsL.rev l).app #[_,_,rfl,h,rfl]
def yV(l:Addr)(xs:Ug)(n:Nat)(m:Addr)(ys:Ug)(k:Nat)(dd:Option Addr)(sl:Array Ua)(hc0:¬(not xs.isEmpty&&Builtin.List.listTooLong (xs.size+ys.size))=true)(hc1:xs.size<=sizeLine)(hs2:xs.size+ys.size<=sizeLine+1):Meets (Builtin.«list.extend» #[[.ref l,.ref m],[]]) λ_ R s=>s.heap.get? l=some {cls:=.type "list",dict:=none,data:=.seq xs n,slots:=#[ ]}/\s.heap.get? m=some {cls:=.type "list",dict:=dd,data:=.seq ys k,slots:=sl}/\R (.ok (.ret Value.none)) {s with heap:=s.heap.update l (Obj.mapSeq λx=>x++ys),toks:=s.toks}:=.of_wp λprog w A R s h=>by let[hl,hb,h]:=h;wp_walk using wpAny_updateSeq hl rfl,AutoSeq1.wpAny_loadPart' hl,AutoSeq1.wpAny_loadPart' hb;exact#[_,rfl,h]
def  Mn(K:Frag):V->List V->Hp->VK->Prop:=λx vs H Q=>∃l m xs zs,x=.ref l/\vs=[.ref m]/\H l=!.lst xs/\SqL K H m zs/\xs.length+zs.length<=sizeLine/\Q .non (upd H l (.lst (xs++zs)))
def rp:Ol X "list.extend" (Mn X.K):=by
 intro pins s σ H x vs v us Q I rx rv h;let[l,m,xs,zs,rfl,rfl,hH,hB,hz,q]:=h;cases rx;let[u,rfl,ru]:=rv.one;cases ru;let[z,its,n,r,hl,e]:=I.lstM hH;let[jts,r2,[[c2,d2,t2,s2],n2,e2,k2,_,w2],_]:=I.list hB;subst k2 w2;have hl2:=r2.length;have hsz:its.toArray.size+jts.toArray.size<=sizeLine:=by rw[size_toArray,size_toArray];lia
 have hlong:¬(not its.toArray.isEmpty&&Builtin.List.listTooLong (its.toArray.size+jts.toArray.size))=true:=by rw[sS hsz,Bool.and_false];exact Ur
 refine call_meets F.slot_list_extend #[_,e,rfl] F.entry_list_extend (F.args_list_extend_2 _ _) (yV l its.toArray n m jts.toArray n2 d2 s2 hlong (by rw[size_toArray];lia) (by lia)) #[e,e2,#[.non,_,I.lset hH e (by simp) (r.append r2) ?_,rfl,q]];rw[length_append];omega
noncomputable def  extS(d:D):Sl:=if lfD d then(.deep,d)else(.sh,d)
def  extC:Cat->Uh->Cat
|c,[]=>c|c,d::ds=>extC (newCat c (extS d)) ds
section
variable{K:Frag}{B:Bs}
def EnvOk.moreS(E:EnvOk K B O σ H Y)(h:Is K (msk O H) d v):EnvOk K B O (σ++[!v]) H (Y++[!extS d]):=by
 unfold extS;split;.rename_i f;exact E.more (A:=[]) (Same.refl _) (Same.refl _) (λ_ h=>.inl h) (λ_ h=>h) (!28) (!28) List.nodup_nil (!28) (Is.deep d v f h)
 .exact(λE h=>E.more (A:=[]) (Same.refl _) (Same.refl _) (λ_ h=>.inl h) (λ_ h=>h) (!28) (!28) List.nodup_nil (!28) #[rfl,h]) E h
def jg(c:Cat)(s:Sl):newCat c s≠.sh:=by unfold newCat;split<;>intro z<;>cases z
def Bi(h:H a=!o):upd H a o=H:=by
 funext b;by_cases e:b=a;.subst e;rw[ah,h]
 .rw[af e]
def EnvOk.extend{i:Nat}:∀{es:Uh}{zs:List V}{O:Ue}{H:Hp}{Y:Ev}{c:Cat}{ds:Uh},EnvOk K B O σ H Y->Y[i]?=!!(c,.lst ds)->c≠.sh->IsL K (msk O H) es zs->∃a xs,σ[i]?=!!33/\H a=!.lst xs/\ds.length=xs.length/\∃O',EnvOk K B O' σ (upd H a (.lst (xs++zs))) (Y.set i !(extC c es,.lst (ds++es)))/\Same (msk O H) (msk O' (upd H a (.lst (xs++zs))))
|[],zs,O,H,Y,c,ds,E,h,hc,l=>by
  have l':zs=[]:=l;subst l';let[a,xs,e1,e2,e3,_]:=E.ownAt h hc;refine#[a,xs,e1,e2,e3,O,?_,?_]
  .rw[List.append_nil,List.append_nil,Bi e2];show EnvOk K B O σ H (Y.set i !(c,.lst ds));rw[show Y.set i (!(c,D.lst ds))=Y from by let[hi,e]:=List.getElem?_eq_some_iff.mp h;rw[<-e];exact List.set_getElem_self hi];exact E
  .rw[List.append_nil,Bi e2];exact Same.refl _|d::es,zs,O,H,Y,c,ds,E,h,hc,l=>by
  let[z,r,rfl,hz,l]:=l;let[a,xs,e1,e2,e3,O1,E1,s1]:=(E.moreS hz).change iG A6 A7 h hc;have hi:=(Us.mp h).1;have h2:(Y.set i !(newCat c (extS d),.lst (iG ds (extS d).2)))[i]?=!!(newCat c (extS d),.lst (iG ds (extS d).2)):=by rw[List.getElem?_set_self hi]
  let[a',xs',f1,f2,f3,O2,E2,s2]:=EnvOk.extend E1 h2 (jg _ _) (IsL.mono s1 _ _ l);rw[e1]at f1;cases f1;rw[ah]at f2;cases f2;rw[D0]at E2 s2;rw[List.set_set]at E2;have ed:(extS d).2=d:=by unfold extS;split<;>rfl
  rw[ed]at E2;unfold iG at E2 s1 s2;rw[List.append_assoc,List.append_assoc]at E2;rw[List.append_assoc]at s2;exact#[a,xs,e1,e2,e3,O2,E2,s1.trans s2]
end
section
variable{X:Cx}{e:Expr}{pos:Pos}
def  yW(i:Nat)(R:TY):TZ:=λY=>(ownL Y i).bind λw=>(R (bV Y)).bind λd=>(j3 d).bind λes=>if w.2.length+es.length<big then !.nx (Y.set i !(extC w.1 es,.lst (w.2++es)))else none
def vC(i:Nat)(h:PP X e R)(hN:X.N[i]?=!x)(hv:oQ X.env.scope x)(hd:(!5)=false)(r:(!15)=false)(g:starEach [e] X.env=(false,eval e X.env)::starEach [] X.env)(j:(apos.endLine==cpos.line)=true):PR X (.Expr (.Call (.Attribute (.Name x px) "extend" apos) [e] [] cpos) pos) (yW i R):=λB O Y=>(fu (kl PySem.F.plainAttrs_list PySem.F.slot_list_extend PySem.F.type_list_extend rp (bH hN hv hd r) (bi (h O _) pa_nil g) rfl (by rw[g];rfl) j g rfl)).imp λEn σ H#[E,o,q,k]=>by let[[c,ds],q1,q]:=UK q;let[d,q2,q]:=UK q;let[es,q3,q]:=UK q;let[hz,q]:=aj q;subst q;let[h0,p]:=cK q1;let[a,J,I,r3,_]:=E.ownAt h0 p;refine#[.ref a,I,.inl #[rfl,_,SqL.of r3],E.viewS,d,q2,λv H1 C i1=>?_];let[m,zs,rfl,t,l]:=b8 q3 i1;let[a',xs,e2,U,hl,O2,E2,T]:=(E.grow C).extend h0 p l;rw[I]at e2;cases e2;exact#[a,m,xs,zs,rfl,rfl,U,msk_le.seq t,by rw[<-hl,<-l.len,eQ];exact UF hz,k σ _ O2 (C.msk.trans T) E2]
def  Mp(i:Nat)(R:TY):TZ:=λY=>(ownL Y i).bind λw=>(R (vw Y)).bind λd=>(j3 d).bind λes=>if w.2.length+es.length<big/\dS es=true then !.nx (Y.set i !(extC w.1 es,.lst (w.2++es)))else none
def vD(i:Nat)(h:PP X e R)(hN:X.N[i]?=!x)(hv:oQ X.env.scope x)(hd:(!5)=false)(C:(!15)=false)(g:starEach [e] X.env=(false,eval e X.env)::starEach [] X.env)(j:(apos.endLine==cpos.line)=true):PR X (.Expr (.Call (.Attribute (.Name x px) "extend" apos) [e] [] cpos) pos) (Mp i R):=λB O Y=>(fu (kl PySem.F.plainAttrs_list PySem.F.slot_list_extend PySem.F.type_list_extend rp (bH hN hv hd C) (bi (h ku (vw Y)) pa_nil g) rfl (by rw[g];rfl) j g rfl)).imp λEn σ H#[E,o,q,k]=>by let[[c,ds],q1,q]:=UK q;let[d,q2,q]:=UK q;let[es,q3,q]:=UK q;let[[hz,lf],q]:=aj q;subst q;let[h0,p]:=cK q1;let[a,J,I,r3,_]:=E.ownAt h0 p;refine#[.ref a,I,.inl #[rfl,_,SqL.of r3],E.view,d,q2,λv H1 r i1=>?_];let[m,zs,rfl,t,l]:=b8 q3 i1;let[a',xs,e2,U,hl,O2,E2,T]:=(E.grow r).extend h0 p (IsL.nl (E.grow r).nl _ _ lf l.full);rw[I]at e2;cases e2;exact#[a,m,xs,zs,rfl,rfl,U,msk_le.seq t,by rw[<-hl,<-l.len,eQ];exact UF hz,k σ _ O2 (r.msk.trans T) E2]
def  nN(i:Nat)(R:TY):TZ:=aI (yW i R) (Mp i R)
def yX(i:Nat)(h:PP X e R)(p:X.N[i]?=!x)(o:oQ X.env.scope x)(hd:(!5)=false)(l:(!15)=false)(j:starEach [e] X.env=(false,eval e X.env)::starEach [] X.env)(g:(apos.endLine==cpos.line)=true):PR X (.Expr (.Call (.Attribute (.Name x px) "extend" apos) [e] [] cpos) pos) (nN i R):=gO (vC i h p o hd l j g) (vD i h p o hd l j g)
end
def slot_rt_next:Slot "reversed" "__next__" "reversed.__next__":=.of (owner:="reversed") (n:="__next__") (by rw[typeLookup_type,builtinLookup_eq_fast];kernel_rfl) (!16) (!16) (!16) (by first|exact .inl !16|exact .inr !16) (by rw[isSubtype_type];kernel_rfl)
def jH:entryFor table "reversed.__next__"=some Builtin.«reversed.__next__»:=entryFor_of_tree !1
def kI(a:Value):argsOk "reversed.__next__" #[[a],[]]:=by unfold argsOk;kernel_rfl
def kJ:Slot "reversed" "__iter__" "reversed.__iter__":=.of (owner:="reversed") (n:="__iter__") (by rw[typeLookup_type,builtinLookup_eq_fast];kernel_rfl) (!16) (!16) (!16) (by first|exact .inl !16|exact .inr !16) (by rw[isSubtype_type];kernel_rfl)
def rr(a:Value):argsOk "reversed.__iter__" #[[a],[]]:=by unfold argsOk;kernel_rfl
def oZ:entryFor table "reversed.__iter__"=some Builtin.«dict_keyiterator.__iter__»:=entryFor_alias (id':="dict_keyiterator.__iter__") (!1) (by first|rfl|decide+kernel|(unfold String.splitOn;simp+decide[String.splitOnAux])) (!16) !1
def called_rt:TypeCalled "reversed" "reversed.__new__" "object.__init__":=#[by decide+kernel,by decide+kernel,#[_,_,F.mro_reversed],F.made_reversed,by decide+kernel,by rw[isSubtype_type];kernel_rfl,.of (owner:="object") (n:="__init__") (by rw[typeLookup_type,builtinLookup_eq_fast];kernel_rfl) (!16) (!16) (!16) (by first|exact .inl !16|exact .inr !16) (by rw[isSubtype_type];kernel_rfl)]
def vE:isSubtype (.type "tuple") (.type "dict")=pure false:=by rw[isSubtype_type];kernel_rfl
noncomputable def  PY(t:Addr)(i:Int):Obj:={cls:=.type "reversed",data:=.fields #[ .ref t,rawInt i]}
def  IsRT(h:Heap)(a t:Addr)(i:Int):Prop:=∃o,h.get? a=!o/\o.cls=.type "reversed"/\o.data=.fields #[ .ref t,rawInt i]
section
variable{prog:Program}{w:World}{A:Around}{E:T8}{s:Shared}
def IsRT.typeIs(x:IsRT s.heap a t i):s.TypeIs (.ref a) "reversed":=let#[o,g,j,_]:=x;#[o,g,j]
def IsRT.at(x:IsRT h a t i)(e:∀o,h.get? a=!o->h'.get? a=!o):IsRT h' a t i:=let#[o,g,r]:=x;#[o,e _ g,r]
def EZ(g:IsTup s.heap t items):s.TypeIs (.ref t) "tuple":=let#[o,j,l,_]:=g;#[o,j,l]
def tE(ht:IsTup s.heap t items)(hz:items.size<=sizeLine)(h:∀tk,Q₁ (.ref s.heap.objs.size) {s with heap:=s.heap.push (PY t ((items.size:Int)-1)),toks:=tk}):codeAny (!7) A (.call (.builtin "reversed.__new__") #[[.type "reversed",.ref t],[]]) (wants Q₁ E) s:=by
 refine codeAny_of_tree (Ul (UB (F.newCall_reversed_1 _) (Uo #[plainId_quiet F.plain_reversed_new _,codeAny_builtin F.entry_reversed_new (Ul (UB (newClass_reversed _) (Ul (UB (by first|rfl|kernel_rfl) ?_))))])));refine Ul (UB (by first|rfl|kernel_rfl) (Ul (wpAny_specialOf (EZ ht) (by constructor<;>grind) (Ul ?_))));wp_delta;refine Ul (wpAny_isInstance (EZ ht) vE (Ul (wpAny_specialOf (EZ ht) slot_tuple_getitem.lookup ?_)));refine Uo (Ul (len_tuple ht (by have:=jY;lia) (Ul (UB rfl (Ul ?_)))));show wpAny _ _ (newObj (.type "reversed") (.fields #[ .ref t,rawInt ((items.size:Int)-1)])) _ _ _;exact wpAny_newObj_type (Uo (h _))
def E9(ht:IsTup s.heap t items)(hz:items.size<=sizeLine)(h:∀tk,Q (.ref s.heap.objs.size) {s with heap:=s.heap.push (PY t ((items.size:Int)-1)),toks:=tk}):wpAny (!7) A (call (.type "reversed") [.ref t]) Q E s:=by
 refine callType_codes (Q₁:=λobj s₁=>s₁.TypeIs obj "reversed"/\Q obj s₁) called_rt (F.typeCall_reversed_1 _) F.entry_object_init (tE ht hz λtk=>#[#[_,Uq _ rfl,rfl],h tk]) λobj s₁ h₁=>?_;exact#[h₁.1,F.args_object_init_2 obj _,object_init_meets called_rt.init.lookup called_rt.made (!2) prog w A.in1 _ s₁ #[h₁.1,rfl,h₁.2]]
def xh(hit:IsRT s.heap g t i)(h:Q (.ref g) s):wpAny (!7) A (pyIter (.ref g)) Q E s:=by exact wpAny_pyIter_slot hit.typeIs kJ (wpAny_call_entry kJ hit.typeIs oZ (Uo #[_,rfl,"reversed",_,hit.typeIs,slot_rt_next.lookup,h]) (rr _))
def Fa{i:Nat}(hit:IsRT s.heap it t (i:Int))(ht:IsTup s.heap t items)(hz:items.size<=sizeLine)(hx:items[i]?=!x)(hQ:∀h' tk,IsRT h' it t ((i:Int)-1)->Heap.SameBut it s.heap h'->Q (!x) {s with heap:=h',toks:=tk}):wpAny (!7) A (pyNext (.ref it)) Q E s:=by
 let[o,ho,hc,hd]:=id hit;have hi:=(Array.getElem?_eq_some_iff.mp hx).1;have h63:=jY;refine Ul (wpAny_attempt (wpAny_callSpecial?_slot hit.typeIs slot_rt_next (wpAny_call_entry slot_rt_next hit.typeIs jH ?_ (kI _))));refine Ul (UB rfl (Ul (wpAny_field ho hd (x:=.ref t) rfl (Ul (wpAny_field ho hd rfl ?_)))));refine Ul (wpAny_specialOf (EZ ht) slot_tuple_getitem.lookup (Ul (wpAny_mkInt ?_)));refine Ul (wpAny_attempt (getItem_tuple ht (by lia) (by lia) (by simp only[seqIndex?];rw[if_neg (show¬((i:Nat):Int)<0 by lia),if_pos (by rw[and_eq_true];exact#[decide_eq_true (by lia),decide_eq_true (by lia)])];rfl) hx ?_));refine Ul (wpAny_field ho hd rfl (Ul (wpAny_setField ho hd (by simp) (Uo #[x,rfl,Uo (hQ _ _ ?_ (Heap.SameBut.update ..))]))));exact#[_,Heap.get?_update_self _ ho (Obj.isFreed_of_fields (Obj.data_mapFields hd _)),(Obj.cls_mapFields ..).trans hc,by rw[Obj.data_mapFields hd];simp]
def Jk(hh:A.handled=none)(hit:IsRT s.heap it t (-1))(hQ:∀h',Heap.ExtBut it s.heap h'->Q none {s with heap:=h'}):wpAny (!7) A (pyNext (.ref it)) Q E s:=by
 let[o,ho,hc,hd]:=id hit;refine Ul (wpAny_attempt (wpAny_callSpecial?_slot hit.typeIs slot_rt_next (wpAny_call_entry slot_rt_next hit.typeIs jH ?_ (kI _))));refine Ul (UB rfl (Ul (wpAny_field ho hd (x:=.ref t) rfl ?_)));refine Ul (wpAny_field ho hd rfl (Ul (wpAny_rule (Ul ?_))));wp_delta;refine Ul (wpAny_setField ho hd (by simp) (wpAny_setField (Heap.get?_update_self _ ho (Obj.isFreed_of_fields (Obj.data_mapFields hd _))) (Obj.data_mapFields hd _) (by simp) ?_));obtain⟨H2,hH⟩:∃H2,H2=(s.heap.update it (Obj.mapFields λx=>x.setIfInBounds 1 (rawInt (-1)))).update it (Obj.mapFields λx=>x.setIfInBounds 0 Value.none):=#[_,rfl];have hE:Heap.ExtBut it s.heap H2:=by
  rw[hH];exact(Heap.SameBut.update ..).extBut.trans (Heap.SameBut.update ..).extBut
 rw[<-hH];first
 |show wpAny _ _ (newExc (.type "StopIteration") []>>=_) _ _ _|(refine Ul ?_;show wpAny _ _ (newExc (.type "StopIteration") []>>=_) _ _ _)
 refine Ul (Ul (wpAny_newObj_type (Ul (UB (by first|rfl|(simp only[firstArgMember];rfl)) ?_)) (by size_fits)));refine wpAny_newObj_type (Ul (wpAny_handled ?_)) (by size_fits);first|rw[show A.in1.handled=none from hh]|rw[hh]
 refine Ul (Uo (wpAny_throw ?_));refine Ul (wpAny_isInstance #[_,Uq _ rfl,rfl] isSubtype_stop ?_);exact Uo (hQ _ ((hE.push _).push _))
def  PZ(K:Frag)(a:Addr)(n:Nat):It:=#[λi H=>∃xs x,SqT K H a xs/\xs.length=n/\xs.reverse[i]?=!x,λi H x H'=>H'=H/\∀xs,SqT K H a xs->xs.reverse[i]?=!x,λi _=>n<=i]
def Fb{P:Program}{w:World}{K:Frag}{tg:Expr}(a g:Addr)(n:Nat):Turn P w K tg (PZ K a n) [g] g λi h=>IsRT h g a ((n:Int)-1-(min i n:Nat))where
 mem:=by simp
 obj:=λi h st b j=>by
  have e:b=g:=by simpa using j
  subst e;let[o,e,c,d]:=st;exact#[o,e,λv z=>by rw[d]at z;cases z]
 keep:=λi h h' st k=>st.at λo e=>k g (by simp) o e;item:=by
  intro X hP hw hK hc i pins s σ H E I C st t;subst hP hw hK;let[xs,x,hq,hn,r]:=t;subst hn;let[its,rv,p,hz]:=I.tuple hq;have hi:i<xs.length:=by have:=(Us.mp r).1;rwa[List.length_reverse]at this
  have hl:=rv.length;rw[List.getElem?_reverse hi]at r;let[u,hu,ru]:=rv.get r;let[f0,f1,f2,U,T,J]:=C g (by simp);have ei:((xs.length:Nat):Int)-1-((min i xs.length:Nat):Int)=((xs.length-1-i:Nat):Int):=by lia
  have st:=ei▸st;refine Fa st p (by rw[size_toArray];lia) (by simpa using hu) λh' tk l sb=>?_;have I1:Inv X pins σ H {s with heap:=h',toks:=tk}:=I.turned (λb o j e=>(sb.2 b j).trans e) f0 f1 U T J;let[o,e,c,d]:=id l;refine#[u,rfl,wK e c d (!2) #[x,H,I1,ru,#[rfl,λys hy=>by rw[I.tuple_inj hy hq,List.getElem?_reverse hi];exact r],?_,λb j=>(C b j).1]];have ej:((xs.length-1-i:Nat):Int)-1=((xs.length:Nat):Int)-1-((min (i+1) xs.length:Nat):Int):=by lia
  exact ej▸l
 done:=by
  intro X hP hw hK hc i pins s σ H E I C st t;have t:n<=i:=t;let[f0,f1,f2,U,T,J]:=C g (by simp);have ei:((n:Nat):Int)-1-((min i n:Nat):Int)=-1:=by lia
  exact Jk (I.ok.hd hc) (ei▸st) λh' eb=>#[rfl,I.turned (λb o j e=>eb b o j e) f0 f1 U T J]
 self:=λ_ _ _ _ _ st h=>xh st h
def Fc{K}(q:SqT K o a xs)(j:IsL K o ds xs):nB K o (PZ K a xs.length) ds.reverse:=λi H O s hd=>by
 have g:=(s.trans msk_le).seqT q;refine#[λd hi=>?_,λhi=>?_];.let[x,l,p]:=j.rev.get hi;refine#[#[xs,x,g,rfl,l],λy C#[e,t]=>?_];subst e;have:=t xs g;rw[l]at this;cases this;exact#[Same.refl _,Is.mono s d x p]
 .show xs.length<=i;rw[<-j.len,<-List.length_reverse];exact hi
end
section
variable{X:Cx}{tg a:Expr}{p pos:Pos}
def  Tb(K:Frag)(ta:TA):TI:=λσ H R=>ta σ H λvs H1=>∃t xs,vs=[.ref t]/\SqT K H1 t xs/\R (PZ K t xs.length) H1
def Mq(hg:Gl X "reversed")(hm:X.mg "reversed"=none)(ha:PA X [a] ta)(hs:starEach [a] X.env=[(false,eval a X.env)]):PI X tg (.Call (.Name "reversed" p) [a] [] pos) (Tb X.K ta):=by
 intro pins s σ H R I h;refine wpAny_Call_Name_kw (cz I hg hm Hd (PyProof.Rows.callWith_type1 (bG (ha pos pins s σ H _ I h) λus j#[vs,H1,l,C,T]=>?_) (by rw[hs];rfl) rfl));let[t,xs,rfl,U,q]:=T;let[u,rfl,r]:=fw C;cases r;let[g,rv,pl,hz]:=l.tuple U;have hl:=rv.length;refine E9 pl (by rw[size_toArray];lia) λtk=>?_;have J:IsRT (j.heap.push (PY t ((g.toArray.size:Int)-1))) j.heap.objs.size t ((g.toArray.size:Int)-1):=#[_,Uq _ rfl,rfl,rfl];refine xh J #[j.heap.objs.size,[j.heap.objs.size],_,_,H1,rfl,l.kept λb o e=>Um _ e,Fb t _ xs.length,?_,λb hb=>?_,q]
 .have e:((xs.length:Nat):Int)-1-((min 0 xs.length:Nat):Int)=(g.toArray.size:Int)-1:=by rw[size_toArray,<-hl];lia
  rw[e];exact J
 .have e:b=j.heap.objs.size:=by simpa using hb
  subst e;exact l.fpOk (UI _) (l.hok.fresh (UI _))
def  Oq:Uh->T7:=uR λd=>(IE d).bind λds=>!ds.reverse
def Mr(U:Gl X "reversed")(T:X.mg "reversed"=none)(ha:PX X [a] fa)(J:starEach [a] X.env=[(false,eval a X.env)]):PJ X tg (.Call (.Name "reversed" p) [a] [] pos) λY=>(fa Y).bind Oq:=λO Y=>(Mq U T (ha O Y) J).imp λσ H R#[E,ds,q,k]=>by
 let[as,e1,q]:=UK q;refine#[E,as,e1,λvs H1 j I=>?_];let[c,rfl,o]:=bA q;let[es,g,l]:=UK o;cases l;let[v,rfl,C]:=uS I;cases c with
|tup fs=>cases g;let[t,xs,rfl,h2,r]:=C;exact#[t,xs,rfl,msk_le.seqT h2,k _ H1 j (Fc h2 r)]|_=>cases g
end
open PySem.AutoSeq1(wpAny_loadPart')
def tF(hh:A.handled=none)(J:s.heap.IsRevIter j l ((xs.size:Int)-1))(C:s.heap.IsList l xs)(ne:l≠j)(hn:xs.size<=sizeLine)(hQ:∀(g:Heap)tk acc,(∀d o,d≠j->s.heap.get? d=!o->g.get? d=!o)->s.heap.objs.size<=g.objs.size->ItemsOf (λi v=>xs[xs.size-1-i]?=!v) acc xs.size->Q acc.toList {s with heap:=g,toks:=tk}):wpAny (!7) A (collect (.ref j)) Q E s:=by
 have jl:j<s.heap.objs.size:=by let[o,e,_]:=J;exact Up e
 have ll:l<s.heap.objs.size:=by let[o,e,_]:=C;exact Up e
 have up:∀d o,s.heap.get? d=!o->(s.heap.push {cls:=.type "list",data:=.seq ([]:T9).toArray}).get? d=!o:=λd o e=>Um _ e;have key:∀R:Result->Shared->Prop,(∀g tk acc c,(∀d o,d≠s.heap.objs.size->d≠j->(s.heap.push {cls:=.type "list",data:=.seq ([]:T9).toArray}).get? d=!o->g.get? d=!o)->g.get? s.heap.objs.size=some {cls:=.type "list",dict:=none,data:=.seq acc c,slots:=#[ ]}->ItemsOf (λi v=>xs[xs.size-1-i]?=!v) acc xs.size->R (.ok _) {s with heap:=g,toks:=tk})->codeAny (!7) A (.builtin "proto.collect" #[[.ref j],[]]) R s:=λR hR=>by exact codeAny_builtin F.entry_proto_collect (Ul (wpAny_newObj_type (Uo #[plainId_quiet F.plain_list_iadd _,codeAny_builtin F.entry_list_iadd (EY hh (J.at λo e=>up _ o e) (C.at λo e=>up _ o e) ne (Uq s.heap rfl) (Nat.ne_of_gt jl) (Nat.ne_of_gt ll) hn λg tk acc c k hg hi=>hR g tk acc c k hg hi)])))
 exact Ul (wpAny_runValue (key _ λg tk acc c k hg hi=>Ul (wpAny_load hg (Uo (hQ g tk acc (λd o n e=>k d o (Uz (Up e)) n (up d o e)) (UF (Up hg)) hi)))))
def yY{prog:Program}{w:World}{A:Around}{E:T8}{s:Shared}(hh:A.handled=none)(J:s.heap.IsRevIter j l ((xs.size:Int)-1))(C:s.heap.IsList l xs)(ne:l≠j)(hn:xs.size<=sizeLine)(hQ:∀(g:Heap)tk acc,(∀d o,d≠j->s.heap.get? d=!o->g.get? d=!o)->s.heap.objs.size<=g.objs.size->ItemsOf (λi v=>xs[xs.size-1-i]?=!v) acc xs.size->Q (.ref g.objs.size) {s with heap:=g.push {cls:=.type "tuple",data:=.seq acc},toks:=tk}):wpAny (!7) A (call (.type "tuple") [.ref j]) Q E s:=by
 refine callType_codes (Q₁:=λobj s₁=>s₁.TypeIs obj "tuple"/\Q obj s₁) F.called_tuple (F.typeCall_tuple_1 _) F.entry_object_init ?_ λobj s₁ h₁=>?_
 .refine codeAny_of_tree ?_;show wpAny _ A.in1.in1 (do checkBuiltinCall "tuple.__new__" #[[.type "tuple",.ref j],[]];again (.builtin "tuple.__new__" #[[.type "tuple",.ref j],[]])) _ _ s;refine Ul (UB (F.newCall_tuple_1 _) (Uo #[plainId_quiet F.plain_tuple_new _,codeAny_builtin F.entry_tuple_new ?_]));rw[Around.under_plainId F.plain_tuple_new _];have hsub:=sub_tuple_self;have hinit:=init_tuple_lookup;have hmh:=madeHere_tuple;have hTI:=J.typeIs;have cr:∀{Q:T9->Shared->Prop}{E:T8},(∀(g:Heap)tk acc,(∀d o,d≠j->s.heap.get? d=!o->g.get? d=!o)->s.heap.objs.size<=g.objs.size->ItemsOf (λi v=>xs[xs.size-1-i]?=!v) acc xs.size->Q acc.toList {s with heap:=g,toks:=tk})->wpAny (!7) A.in1.in1 (collect (.ref j)) Q E s:=λhq=>tF (A:=A.in1.in1) hh J C ne hn hq;wp_walk using wpAny_typeOf hTI,cr;intro g tk acc k hle hacc;show wpAny _ _ (Builtin.Tuple.tupleExact acc.toList.toArray>>=λv=>ret v) _ _ _;unfold Builtin.Tuple.tupleExact;refine Ul (wpAny_newObj_type ?_ (by show acc.toList.toArray.size<=sizeLine;simp only[Array.toArray_toList];rw[hacc.1];exact hn));refine Uo ?_;have e:acc.toList.toArray=acc:=by simp
  rw[e];exact#[#[_,Uq _ rfl,rfl],hQ g tk acc k hle hacc]
 .exact#[h₁.1,F.args_object_init_2 obj _,object_init_meets F.called_tuple.init.lookup F.called_tuple.made (!2) prog w A.in1 _ s₁ #[h₁.1,rfl,h₁.2]]
section
variable{X:Cx}{a:Expr}{p p2 pos pos2:Pos}
def  P1(K:Frag)(ta:TA):TE:=λσ H Q=>ta σ H λvs H1=>∃l xs,vs=[.ref l]/\SqL K H1 l xs/\∀q,H1 q=none->Q (.ref q) (upd H1 q (.tup xs.reverse))
def Ms:bootBuiltins "tuple"=!.type "tuple":=by decide+kernel
def Jl(hc:X.calm=true)(hg:Gl X "tuple")(hm:X.mg "tuple"=none)(U:Gl X "reversed")(T:X.mg "reversed"=none)(ha:PA X [a] ta)(hs:starEach [a] X.env=[(false,eval a X.env)]):PE X (.Call (.Name "tuple" p) [.Call (.Name "reversed" p2) [a] [] pos2] [] pos) (P1 X.K ta):=by
 intro pins s σ H Q I h;refine wpAny_Call_Name_kw (cz I hg hm Ms (PyProof.Rows.callWith_type1 ?_ rfl rfl));show wpAny _ _ (spliced ((false,eval (.Call (.Name "reversed" p2) [a] [] pos2) X.env)::[])) _ _ s;refine Calls.spliced_cons (wpAny_Call_Name_kw (cz I U T Hd (PyProof.Rows.callWith_type1 (bG (ha pos2 pins s σ H _ I h) λus r#[vs,H1,J,r1,q1]=>?_) (by rw[hs];rfl) rfl)));let[l,xs,rfl,hx,q]:=q1;let[u,rfl,ru]:=fw r1;cases ru;let[j,rv,pl,hz]:=J.list hx;have C:=pl.isList;refine call_reversed_list C (Calls.spliced_nil ?_);have up:∀d o,r.heap.get? d=!o->(r.heap.push (revObj l ((j.toArray.size:Int)-1))).get? d=!o:=λd o e=>Um _ e;have I2:Inv X pins σ H1 {r with heap:=r.heap.push (revObj l ((j.toArray.size:Int)-1))}:=J.kept up;have hl:=rv.length;refine yY (J.ok.hd hc) #[_,Uq _ rfl,rfl,rfl] (C.at λo e=>up _ o e) (Uz (by let[o,e,_]:=C;exact Up e)) (by rw[size_toArray];lia) λg tk acc k t hi=>?_;have e:=yU hi;have e2:acc=j.reverse.toArray:=by apply Array.toList_inj.mp;rw[e]
 refine#[.ref _,_,I2.turnedNew (ch:=[r.heap.objs.size]) (λb hb=>?_) (λb o hb e=>Um _ (k b o (by simpa using hb) e)) t ?_,rfl,q _ (I2.hok.fresh t)];.rw[mem_singleton.mp hb];exact J.fpOk (UI _) (J.hok.fresh (UI _))
 .rw[e2];exact#[by rw[List.length_reverse];exact hz,j.reverse,rv.reverse,IsTup.new _ _]
def  Jm:Uh->Uj:=uR λd=>(j3 d).bind λds=>!.tup ds.reverse
def Jn(hc:X.calm=true)(hg:Gl X "tuple")(hm:X.mg "tuple"=none)(j:Gl X "reversed")(g:X.mg "reversed"=none)(ha:PX X [a] fa)(hs:starEach [a] X.env=[(false,eval a X.env)]):PP X (.Call (.Name "tuple" p) [.Call (.Name "reversed" p2) [a] [] pos2] [] pos) λY=>(fa Y).bind Jm:=λO Y=>(Jl hc hg hm j g (ha O Y) hs).imp λσ H Q#[E,d,q,k]=>by
 let[as,e1,q]:=UK q;refine#[E,as,e1,λvs H1 C il=>?_];let[c,rfl,T]:=bA q;let[xs,J,I]:=UK T;cases I;let[v,rfl,h]:=uS il;let[l,ys,rfl,t,U]:=b8 J h;refine#[l,ys,rfl,msk_le.seq t,λb o=>?_];have r:=(E.grow C).fresh o;exact k _ _ (C.trans (Same.new o)) #[b,ys.reverse,rfl,.of (by rw[aH r,ah]),IsL.mono (by rw[ko r];exact Same.new (by rw[aH r];exact o)) _ _ U.rev]
end
noncomputable def  shO:T6->T6
|some (_,d)=>!(.sh,d)|none=>none
def  frz1(i:Nat)(Y:Ev):Ev:=match Y[i]?with
|some x=>Y.set i (shO x)|none=>Y
def  frzS:Ub->Ev->Ev
|[],Y=>Y|i::is,Y=>frzS is (frz1 i Y)
section
variable{K:Frag}{B:Bs}{O:Ue}{σ:St}{H:Hp}{Y:Ev}
def EnvOk.frz1(E:EnvOk K B O σ H Y)(i:Nat):∃T,EnvOk K B T σ H (frz1 i Y)/\Same (msk O H) (msk T H):=by unfold L2.frz1;cases hx:Y[i]?with
|none=>exact#[O,E,Same.refl _]|some x=>
  let[F,h1,h2,J,I]:=E.fp;have le:Same (msk O H) (msk (λb=>O b&&not (decide (b∈F i))) H):=λb o q=>by let[q1,U]:=a8 q;rw[aH (by simp[q1])];exact U
  refine#[λb=>O b&&not (decide _),#[E.same,E.bdom,λb p=>?_,λb p=>E.lis b (by simp at p;exact p.1),by rw[List.length_set];exact E.len,λj=>if j=i then[]else F j,λj s q=>?_,λj=>?_,λj k a g t=>?_,λj a g=>?_],le];.have n:b∉F i:=λz=>E.bdom b p (I i b z).2;simp[E.sub b p,n]
  .rcases get_set_some q with⟨e,r⟩|⟨e,r⟩;.subst e;cases x with
|none=>cases r|some z=>cases r;let[v,C,l]:=h1 j _ hx;refine#[v,C,?_];simp only[if_true];exact#[rfl,l.is le λa ha=>by simp[ha]]
   .let[v,C,l]:=h1 j s r;refine#[v,C,?_];simp only[if_neg e];exact l.frame le λ_ _ _ z=>z
  .dsimp only;split;.exact List.nodup_nil
   .exact h2 _
  .by_cases e:j=i;.simp[e]at g
   .by_cases e2:k=i;.simp[e2]at t
    .simp only[if_neg e]at g;simp only[if_neg e2]at t;exact J j k a g t
  .by_cases e:j=i;.simp[e]at g
   .simp only[if_neg e]at g;let[l,o2]:=I j a g;have n:a∉F i:=λz=>e (J j i a g z);exact#[by simp[l,n],o2]
def EnvOk.frzS:∀(is:Ub){O:Ue}{Y:Ev},EnvOk K B O σ H Y->∃O',EnvOk K B O' σ H (frzS is Y)/\Same (msk O H) (msk O' H)
|[],O,Y,E=>#[O,E,Same.refl _]|i::is,O,Y,E=>by let[O1,E1,s1]:=E.frz1 i;let[O2,E2,s2]:=EnvOk.frzS is E1;exact#[O2,E2,s1.trans s2]
end
def Jo(is:Ub)(h:qc X e g):qc X e λY=>g (frzS is Y):=λB O Y=>(PU.ex λj=>h B j _).imp λσ H Q#[E,s,Y',q,k]=>by let[j,r,le]:=E.frzS is;exact#[j,r,s,Y',q,λv H' o l p=>k v H' o (le.trans l) p]
def  Ot(f:{α:Type}->List α->α->List α):Prop:=∀{K:Frag}{M H:Hp}{ds:Uh}{xs:List V}{A:List Addr}{d:D}{v:V},DeepL K M H ds xs A->Deep K M H d v []->DeepL K M H (f ds d) (f xs v) A
def Bj:Ot iG:=λ{K M H ds xs A d v}h q=>by have:=DeepL.snoc q h;grind[Ot,iG]
def  nO(Y:Ev)(i:Nat):T7:=(ownL Y i).bind λw=>if w.1=.deep then !w.2 else none
noncomputable def  pd(ks:List gN)(k:gN):Bool:=ks.any λj=>decide (j=k)
def  f7(ks:List gN)(k:gN):List gN:=if pd ks k=true then ks else ks++[k]
def  f8(ks:List gN)(ds:Uh)(k:gN)(d:D):Uh:=if pd ks k=true then List.zipWith (λj e=>if j=k then d else e) ks ds else ds++[d]
def xi(k:gN)(j:List (gN×V)):(j.any λg=>decide (g.1=k))=pd (j.map (·.1)) k:=by unfold pd;rw[List.any_map];rfl
def Bk(g:List (gN×V))(k:gN)(v:V):(kn g k v).map (·.1)=f7 (g.map (·.1)) k:=by
 unfold kn f7;rw[xi];by_cases h:pd (g.map (·.1)) k=true;.rw[if_pos h,if_pos h,List.map_map];apply List.map_congr_left;intro p _;show(if p.1=k then(p.1,v)else p).1=p.1;split<;>rfl
 grind
def Bl{K}(hd:Is K M d v)(l:IsL K M ds (C.map (·.2))):IsL K M (f8 (C.map (·.1)) ds k d) ((kn C k v).map (·.2)):=by
 unfold kn f8;rw[xi];by_cases h:pd (C.map (·.1)) k=true;.rw[if_pos h,if_pos h];clear h;induction C generalizing ds with
|nil=>
   have e:ds=[]:=by cases ds with|nil=>rfl|cons a b=>let[_,_,z,_]:=l;cases z
   subst e;exact rfl|cons p r o=>cases ds with
|nil=>cases l|cons e ds=>
    let[x,t,z,h,l]:=l;have j:=z;cases j;refine#[_,_,rfl,?_,o l];show Is K M (if p.1=k then d else e) (if p.1=k then(p.1,v)else p).2;by_cases g:p.1=k;.rw[if_pos g,if_pos g];exact hd
    .rw[if_neg g,if_neg g];exact h
 .rw[if_neg h,if_neg h,List.map_append];exact l.app #[v,[],rfl,hd,rfl]
def Bm(hd:lfD d=true):∀{ds:Uh},dS ds=true->dS (f8 ks ds k d)=true:=λ{ds}h=>by
 unfold f8;split;.rename_i l;clear l;induction ks generalizing ds with
|nil=>rfl|cons j ks g=>cases ds with
|nil=>rfl|cons e ds=>
    have h':(lfD e&&dS ds)=true:=h;rw[and_eq_true]at h';show(lfD (if j=k then d else e)&&dS (List.zipWith _ ks ds))=true;rw[g h'.2,Bool.and_true];split;.exact hd
    .exact h'.1
 .rename_i l;induction ds with
|nil=>show(lfD d&&true)=true;rw[hd];rfl|cons e ds g=>have h':(lfD e&&dS ds)=true:=h;rw[and_eq_true]at h';show(lfD e&&dS (ds++[d]))=true;rw[h'.1,g h'.2];rfl
def  Fd(Y:Ev)(i:Nat):Option (List gN×List D):=(d8 Y i).bind λs=>match s with
|(.deep,.dct ks ds)=>!(ks,ds)|_=>none
def yZ(h:Fd Y i=!w):Y[i]?=!!(.deep,.dct w.1 w.2):=by
 let[[c,d],h1,h2]:=UK h;have g:=h2;split at g;.rename_i ks ds e;cases g;cases e;exact slAt_some h1
 .cases g
section
variable{K:Frag}{B:Bs}{O:Ue}{σ:St}{H:Hp}{Y:Ev}
def EnvOk.dctAt(E:EnvOk K B O σ H Y){i:Nat}(h:Y[i]?=!!(.deep,.dct ks ds)):∃a I,σ[i]?=!!33/\H a=!.dK I/\I.map (·.1)=ks/\O a=true/\B.H a=none:=by let[F,h1,h2,t,r]:=E.fp;let[v,e,a,I,C,p,o,j,g,l]:=h1 i _ h;exact#[a,I,by rw[e,p],o,j,r i a (by rw[g];exact Ut)]
def EnvOk.dput(E:EnvOk K B O σ H Y){i:Nat}(h:Y[i]?=!!(.deep,.dct ks ds))(lf:dS ds=true)(ld:lfD d=true)(hv:Is K (msk O H) d v)(k:gN):∃a kvs,σ[i]?=!!33/\H a=!.dK kvs/\kvs.map (·.1)=ks/\EnvOk K B O σ (upd H a (.dK (kn kvs k v))) (Y.set i !(.deep,.dct (f7 ks k) (f8 ks ds k d)))/\Same (msk O H) (msk O (upd H a (.dK (kn kvs k v)))):=by
 let[F,h1,h2,U,T]:=E.fp;let[v0,e0,a,kvs,A',z1,r,p,I,l]:=h1 i _ h;subst z1;have hA:=DeepL.lf ds _ A' lf l;subst hA;have g:a∈F i:=by rw[I];exact Ut
 let[oa,ba]:=T i a g;have J:msk O (upd H a (.dK (kn kvs k v)))=msk O H:=fy oa;have le:Same (msk O H) (msk O (upd H a (.dK (kn kvs k v)))):=by rw[J];exact Same.refl _
 refine#[a,kvs,e0,r,p,#[λb o q=>?_,E.bdom,E.sub,λb C=>?_,by rw[List.length_set];exact E.len,F,λj s q=>?_,h2,U,T],le];.rw[af (aq q ba)];exact E.same b o q
 .by_cases e:b=a;.subst e;exact .inr (.inr #[_,ah])
  .rw[af e];exact E.lis b C
 .rcases get_set_some q with⟨e,t⟩|⟨e,t⟩;.cases t;subst e;refine#[.ref a,e0,a,_,[],rfl,ah,by rw[Bk,p],I,?_];rw[J];subst p;exact IsL.deep _ _ (Bm ld lf) (Bl hv (DeepL.is (NL.of (Same.refl _)) ds _ [] (!28) l))
  .let[w,e1,o1]:=h1 j s t;refine#[w,e1,o1.frame le λb C o z=>?_];have:b≠a:=λr=>e (U j i a (r▸C) g);rw[af this];exact z
end
section
variable{X:Cx}{e:Expr}{pos:Pos}
def  Mt:H9:=λo i v H Q=>∃p kvs k,o=.ref p/\i=kV k/\H p=!.dK kvs/\kvs.length<sizeLine/\Q (upd H p (.dK (kn kvs k v)))
def Bn:Ia X Mt:=by
 intro pins s σ H o i v ov iv u Q I ro t rv h;let[p,T,k,rfl,rfl,l,hl,q]:=h;cases ro;let[z,hd,r,rel,U]:=GW I.hok l;have hz:r.length<=sizeLine:=by rw[<-rel.length];exact z
 have j:(kn T k v).length<=sizeLine:=by have:=sZ T k v;lia
 exact wpAny_setItem_pairs (GV t) U λh' g C=>#[_,(λI mu hs he new=>I.write mu (.inl rfl) (λb q hb z=>(hs.2 b hb).trans z) he new) I (by rw[l];exact True.intro) C (let#[q,_,_,J,_]:=g;#[q,J]) (Iv j hd (rel.put k rv) g),q]
def  Bo(i:Nat)(fk:TY)(R:TY):TZ:=λY=>(Fd Y i).bind λw=>(nJ (R (vw Y))).bind λd=>(fk (vw Y)).bind λy=>(ID y).bind λk=>if dS w.2=true/\w.1.length+1<big then !.nx (Y.set i !(.deep,.dct (f7 w.1 k) (f8 w.1 w.2 k d)))else none
def Jp(i:Nat)(h:PP X e R)(hk:PP X p fk)(hN:X.N[i]?=!x)(hv:oQ X.env.scope x)(hd:(!5)=false)(T:(!15)=false)(ha:∀v,assign (.Subscript (.Name x r) p g) X.env v=do
   let C<-holding [v] (eval (.Name x r) X.env)let t<-holding [v,C] (eval p X.env)standAt g
   holding [v,C,t] (setItem C t v)release [v,C,t] [])(hs:swapsWithSole [.Subscript (.Name x r) p g] e pos.line X.env=pure false)(hw:swappedStores [.Subscript (.Name x r) p g] e X.env=pure none)(h1:(assignEach [.Subscript (.Name x r) p g] X.env).map (·.2)=[assign (.Subscript (.Name x r) p g) X.env]):PR X (.Assign [.Subscript (.Name x r) p g] e pos) (Bo i fk R):=λB O Y=>(qG (h ku (vw Y)) (zW (bH hN hv hd T) (hk ku (vw Y)) Bn ha) hs hw h1).imp λEn σ H#[E,o,q,k]=>by
 let[[ks,ds],q1,q]:=UK q;let[d,q2,q]:=UK q;let[y,q3,q]:=UK q;let[j,q4,q]:=UK q;let[[hl,hz],q]:=aj q;subst q;let[U,p5,p6]:=UK q2;let[ld,p7]:=aj p6;subst p7;have h0:=yZ q1;refine#[E.view,U,p5,λv H1 s1 t=>?_];have J:=E.grow s1;let[a,kvs,e1,e2,e3,_]:=J.dctAt h0;refine#[.ref a,e1,J.view,y,q3,λyv H2 I iy=>?_];have E2:=J.grow I;let[a',l,f1,f2,f3,f4,f5]:=E2.dput h0 hl ld (Is.nl (by have:=E2.nl;rw[kx]at*;exact(NL.of I).trans this) U v ld t) j;rw[e1]at f1;cases f1;exact#[a,l,j,rfl,wS q4 iy,f2,by
  have:l.length=ks.length:=by have:=congrArg List.length f3;rwa[length_map]at this
  have hz:ks.length+1<big:=hz;rw[eQ];lia,k σ _ O (s1.msk.trans (I.msk.trans f5)) f4]
end
section
variable{X:Cx}{a:Expr}{p pos:Pos}
def vF:bootBuiltins "sorted"=!.builtin "sorted":=by decide+kernel
noncomputable def  srtZ(ns:Ud):Ud:=ns.mergeSort λa b=>decide (a<=b)
def Bp(h1:j.Perm g)(h2:j.Pairwise (·<=·)):j=srtZ g:=by refine List.Perm.eq_of_pairwise (λa b _ _ h h'=>Int.le_antisymm h h') h2 ?_ (h1.trans (List.mergeSort_perm _ _).symm);have:=List.pairwise_mergeSort (le:=λa b:Int=>decide (a<=b)) (λa b c h1 h2=>decide_eq_true (Int.le_trans (Uv h1) (Uv h2))) λa b=>by simp;lia g;exact this.imp λh=>Uv h
def xj:∀{ns:Ud}{us:T9},Vals (ns.map V.int) us->IntsAre us ns
|[],_,.nil=>.nil|n::ns,_,.cons #[t,e] r=>by subst e;exact .cons n t (xj r)
def qd:∀{us:T9}{ns:Ud},IntsAre us ns->Vals (ns.map V.int) us
|_,_,.nil=>.nil|_,_,.cons n t r=>.cons #[t,rfl] (qd r)
def  Mu(K:Frag):List V->Hp->VK->Prop:=λvs H Q=>∃l ns,vs=[.ref l]/\SqL K H l (ns.map V.int)/\ns.length<64/\∀q,H q=none->Q (.ref q) (upd H q (.lst ((srtZ ns).map V.int)))
def y6:eJ X (.builtin "sorted") (Mu X.K):=by
 intro pins s σ H xs U Q I r h;let[l,ns,rfl,p,J,q]:=h;let[u,rfl,j]:=fw r;cases j;let[g,rv,pl,hz]:=I.list p;have t:=rv.length;rw[length_map]at t;refine PyProof.Rows.sorted_ints pl.isList (xj rv) (by lia) λout ms h1 h2 T=>?_;let[e,C]:=sortedAll_at s.heap g out;have z:=Bp h2 T;subst z;refine#[.ref _,_,I.laid (λb o q=>sortedAll_old q) (Nat.le_succ _) (o:=.lst _) #[?_,out.toList,e,qd h1,by simpa using C],rfl,q _ (I.hok.fresh (Nat.le_succ _))];rw[length_map,h2.length_eq];have:(64:Nat)<=sizeLine:=by decide
 lia
def  kK:Uh->T7:=uR λd=>(j3 d).bind λds=>(aX ds).bind λns=>if ns.length<64 then !(srtZ ns).map D.int else none
def kL{K}:∀(ns:Ud),IsL K H (ns.map D.int) (ns.map V.int)
|[]=>rfl|n::ns=>#[_,_,rfl,rfl,kL ns]
def Fe(hg:Gl X "sorted")(hm:X.mg "sorted"=none)(ha:PX X [a] fa)(hs:starEach [a] X.env=[(false,eval a X.env)]):PF X (.Call (.Name "sorted" p) [a] [] pos) λY=>(fa Y).bind kK:=λO Y=>(nj y6 hg hm vF (ha O Y) (!2) (!2) (by rw[hs];rfl) rfl).imp λσ H Q#[E,ds,q,k]=>by
 let[as,e1,q]:=UK q;refine#[E,as,e1,λvs H1 j il=>?_];let[c,rfl,T]:=bA q;let[xs,J,I]:=UK T;let[U,C,r]:=UK I;let[g,o]:=aj r;subst o;let[v,rfl,h]:=uS il;let[l,ys,rfl,t,l2]:=b8 J h;rw[asInts_is C l2]at t;exact#[l,U,rfl,msk_le.seq t,g,λb hb=>k b _ H1 j hb (kL _)]
end
end L2
namespace L2
open PySem PySem.W PyProof.Rows
noncomputable def  kRun{α:Type}(c:Nat->Nat->Bool):KasT α->α
|.ret a=>a|.ask i j k=>kRun c (k (c i j))
def eF{f:α->KasT β}:∀t:KasT α,kRun c (t.bind f)=kRun c (f (kRun c t))
|.ret _=>rfl|.ask i j k=>eF (k (c i j))
section
variable{ky:Nat->Int}
noncomputable def  kC(ky:Nat->Int)(i j:Nat):Bool:=decide (ky i<ky j)
noncomputable def  kG(ky:Nat->Int)(p:Array Nat)(i:Nat):Int:=ky (p.getD i 0)
def nQ(h:p[i]?=q[j]?):kG ky p i=kG ky q j:=by unfold kG;rw[Array.getD_eq_getD_getElem?,Array.getD_eq_getD_getElem?,h]
def  DW(ky:Nat->Int)(p:Array Nat)(k:Nat):Prop:=∀i j,i<=j->j<k->kG ky p i<=kG ky p j
def  K3(ky:Nat->Int)(p:Array Nat)(k:Nat):Prop:=∀i j,i<=j->j<k->kG ky p j<=kG ky p i
def  Ou(ky:Nat->Int)(p:Array Nat)(a b:Nat):Prop:=∀i,a<=i->i<b->kG ky p i=kG ky p (b-1)
def rev_at(g:j<=p.size)(k:Nat):(kas_rev p i j)[k]?=if i<=k/\k<j then p[i+j-1-k]?else p[k]?:=by unfold kas_rev;rw[getElem?_mirror g _ (by lia)];split<;>split<;>first|rfl|(exfalso;lia)|(congr 1;lia)
def nR(g:j<=p.size)(h:Ou ky p i j)(k:Nat):kG ky (kas_rev p i j) k=kG ky p k:=by
 have e:=rev_at (i:=i) g k;by_cases c:i<=k/\k<j;.rw[if_pos c]at e;rw[nQ e,h _ (!6) !6,h k c.1 c.2]
 .rw[if_neg c]at e;exact nQ e
def cY(p:Array Nat)(i j:Nat):(kas_rev p i j).Perm p:=mirror_perm _ _ _ _
noncomputable def  eG{p q:Array Nat}(h:p.Perm q):=h.size_eq
def vG:∀(f n:Nat),1<=n->DW ky p n->n<=kRun (kC ky) (kas_asc p f n)/\kRun (kC ky) (kas_asc p f n)<=n+f/\DW ky p (kRun (kC ky) (kas_asc p f n))/\(kRun (kC ky) (kas_asc p f n)=n+f\/kG ky p (kRun (kC ky) (kas_asc p f n))<kG ky p (kRun (kC ky) (kas_asc p f n)-1))
|0,n,_,h=>#[UI _,UI _,h,.inl rfl]|f+1,n,h1,h=>by
  have e:kRun (kC ky) (kas_asc p (f+1) n)=if kG ky p n<kG ky p (n-1)then n else kRun (kC ky) (kas_asc p f (n+1)):=by
   show kRun (kC ky) (if decide (kG ky p n<kG ky p (n-1))=true then KasT.ret n else kas_asc p f (n+1))=_;by_cases c:kG ky p n<kG ky p (n-1);.rw[if_pos c,if_pos (decide_eq_true c)];rfl
   .rw[if_neg c,if_neg (by rw[decide_eq_true_eq];exact c)]
  rw[e];by_cases c:kG ky p n<kG ky p (n-1);.rw[if_pos c];exact#[UI _,by omega,h,.inr c]
  .rw[if_neg c];let[a1,a2,a3,a4]:=vG f (n+1) (!6) λi j hij hj=>by
    rcases Nat.lt_or_ge j n with q|q;.exact h i j hij q
    .have:j=n:=by omega
     subst this;rcases Nat.lt_or_ge i j with r|r;.exact Int.le_trans (h i (j-1) (!6) !6) !6 
     .have:i=j:=by omega
      subst this;exact Int.le_refl _ 
   exact#[by omega,by omega,a3,a4.imp λq=>by omega id]
structure kDs(ky:Nat->Int)(p:Array Nat)(n q:Nat):Prop where
 n1:1<=n
 hq:q+1<=n
 dn:K3 ky p n
 eq:Ou ky p (n-(q+1)) n
def rA(h1:1<=n)(h:K3 ky p n)(c:kG ky p n<=kG ky p (n-1))(e:∀k,kG ky l k=kG ky p k):K3 ky l (n+1):=λi j g o=>by
 rw[e,e];rcases Nat.lt_or_ge j n with q|q;.exact h i j g q
 .have:j=n:=by lia
  subst this;rcases Nat.lt_or_ge i j with r|r;.exact Int.le_trans c (h i (j-1) (by lia) (by lia))
  .have:i=j:=by lia
   subst this;exact Int.le_refl _
def mS:∀(f:Nat)(p:Array Nat)(n q:Nat),kDs ky p n q->n+f<=p.size->∃p' m q',kRun (kC ky) (kas_desc f p n q)=(p',m,q')/\p'.Perm p/\n<=m/\m<=n+f/\kDs ky p' m q'
|0,p,n,q,h,_=>#[p,n,q,rfl,.refl _,UI _,UI _,h]|f+1,p,n,q,h,hz=>by
  have e:kRun (kC ky) (kas_desc (f+1) p n q)=if kG ky p n<kG ky p (n-1)then if q>0 then kRun (kC ky) (kas_desc f (kas_rev p (n-(q+1)) n) (n+1) 0)else kRun (kC ky) (kas_desc f p (n+1) 0)else if kG ky p (n-1)<kG ky p n then(p,n,q)else kRun (kC ky) (kas_desc f p (n+1) (q+1)):=by
   show kRun (kC ky) (if decide (kG ky p n<kG ky p (n-1))=true then if q>0 then kas_desc f (kas_rev p (n-(q+1)) n) (n+1) 0 else kas_desc f p (n+1) 0 else KasT.ask (p.getD (n-1) 0) (p.getD n 0) λd=>if d=true then KasT.ret (p,n,q)else kas_desc f p (n+1) (q+1))=_;by_cases c:kG ky p n<kG ky p (n-1)
   .rw[if_pos c,if_pos (decide_eq_true c)];by_cases c2:q>0;.rw[if_pos c2,if_pos c2]
    .rw[if_neg c2,if_neg c2]
   .rw[if_neg c,if_neg (by rw[decide_eq_true_eq];exact c)];show kRun (kC ky) (if decide (kG ky p (n-1)<kG ky p n)=true then KasT.ret (p,n,q)else kas_desc f p (n+1) (q+1))=_;by_cases c2:kG ky p (n-1)<kG ky p n;.rw[if_pos c2,if_pos (decide_eq_true c2)];rfl
    .rw[if_neg c2,if_neg (by rw[decide_eq_true_eq];exact c2)]
  have one:∀p':Array Nat,Ou ky p' (n+1-(0+1)) (n+1):=λp' i h1 h2=>by
   have:i=n+1-1:=by omega
   rw[this]
  rw[e];by_cases c:kG ky p n<kG ky p (n-1)
  .rw[if_pos c];by_cases c2:q>0;.rw[if_pos c2];have hr:=cY p (n-(q+1)) n;have hs:=eG hr;let[p',m,q',a1,a2,a3,a4,a5]:=mS f (kas_rev p (n-(q+1)) n) (n+1) 0 #[by omega,by omega,rA h.n1 h.dn (Int.le_of_lt c) (nR (!6) h.eq),one _] !6;exact#[p',m,q',a1,a2.trans hr,by omega,by omega,a5]
   .rw[if_neg c2];let[p',m,q',a1,a2,a3,a4,a5]:=mS f p (n+1) 0 #[by omega,by omega,rA h.n1 h.dn (Int.le_of_lt c) λ_=>rfl,one _] !6;exact#[p',m,q',a1,a2,by omega,by omega,a5]
  .rw[if_neg c];by_cases c2:kG ky p (n-1)<kG ky p n;.rw[if_pos c2];exact#[p,n,q,rfl,.refl _,UI _,by omega,h]
   .rw[if_neg c2];have eq:kG ky p n=kG ky p (n-1):=by omega
    let[p',m,q',a1,a2,a3,a4,a5]:=mS f p (n+1) (q+1) #[by omega,by have:=h.hq;omega,rA h.n1 h.dn (Int.le_of_eq eq) λ_=>rfl,λi h1 h2=>by
     show kG ky p i=kG ky p n;rcases Nat.lt_or_ge i n with r|r;.rw[h.eq i (!6) r,eq]
     .have:i=n:=by omega
      rw[this]] !6;exact#[p',m,q',a1,a2,by omega,by omega,a5]
def xk(h1:1<=n)(C:n<=nrem)(t:nrem<=p.size)(h:K3 ky p n):∃m g,kRun (kC ky) (kas_tail3 n nrem p)=(m,g)/\g.Perm p/\1<=m/\m<=nrem/\DW ky g m:=by
 have up:DW ky (kas_rev p 0 n) n:=λi j o I=>by have l:=rev_at (p:=p) (i:=0) (j:=n) (by lia) i;have U:=rev_at (p:=p) (i:=0) (j:=n) (by lia) j;rw[if_pos (by lia)]at l U;rw[nQ l,nQ U];exact h _ _ (by lia) (by lia)
 let[T,J,r,_]:=vG (nrem-n) n h1 up;refine#[_,kas_rev p 0 n,?_,cY _ _ _,by lia,by lia,r];unfold kas_tail3;rw[eF];rfl
def xm(hn:n+1<=nrem)(hz:nrem<=p.size)(h:K3 ky p (n+1)):∃m g,kRun (kC ky) (kas_descPart n nrem p)=(m,g)/\g.Perm p/\1<=m/\m<=nrem/\DW ky g m:=by
 let[T,m,q,e,J,a3,a4,l]:=mS (nrem-(n+1)) p (n+1) 0 #[by lia,by lia,h,λi h1 h2=>by
  have:i=n+1-1:=by lia
  rw[this]] (by lia);have hs:=eG J;unfold kas_descPart;rw[eF,e];dsimp only;by_cases c:q>0
 .rw[if_pos c];have U:=cY T (m-(q+1)) m;have hs2:=eG U;have d:K3 ky (kas_rev T (m-(q+1)) m) m:=λi j r hj=>by rw[nR (by lia) l.eq,nR (by lia) l.eq];exact l.dn i j r hj
  let[o,g,I,C,t]:=xk (nrem:=nrem) l.n1 (by lia) (by lia) d;exact#[o,g,I,C.trans (U.trans J),t]
 .rw[if_neg c];let[o,g,I,C,t]:=xk (nrem:=nrem) l.n1 (by lia) (by lia) l.dn;exact#[o,g,I,C.trans J,t]
def Bq(h1:1<=nrem)(hz:nrem<=p.size):∃m l,kRun (kC ky) (kas_count nrem p)=(m,l)/\l.Perm p/\1<=m/\m<=nrem/\DW ky l m:=by
 let[I,a2,t,C]:=vG (nrem-1) 1 (UI _) λi j o U=>by
  have:i=j:=by lia
  subst this;exact Int.le_refl _ 
 unfold kas_count;rw[eF];generalize kRun (kC ky) (kas_asc p (nrem-1) 1)=n at I a2 t C;by_cases c:(n==nrem)=true;.rw[if_pos c];exact#[n,p,rfl,.refl _,I,by lia,t]
 .rw[if_neg c];have c':n≠nrem:=λq=>c (beq_iff_eq.mpr q);have C:kG ky p n<kG ky p (n-1):=by
   rcases C with q|q;.lia
   .exact q
  by_cases c2:n>1
  .rw[if_pos c2];have e:kRun (kC ky) (KasT.ask (p.getD 0 0) (p.getD (n-1) 0) λc=>if c=true then KasT.ret (n,p)else kas_descPart n nrem (kas_rev p 0 n))=if kG ky p 0<kG ky p (n-1)then(n,p)else kRun (kC ky) (kas_descPart n nrem (kas_rev p 0 n)):=by
    show kRun (kC ky) (if decide (kG ky p 0<kG ky p (n-1))=true then KasT.ret (n,p)else kas_descPart n nrem (kas_rev p 0 n))=_;by_cases g:kG ky p 0<kG ky p (n-1);.rw[if_pos g,if_pos (decide_eq_true g)];rfl
    .rw[if_neg g,if_neg (by rw[decide_eq_true_eq];exact g)]
   rw[e];by_cases g:kG ky p 0<kG ky p (n-1);.rw[if_pos g];exact#[n,p,rfl,.refl _,I,by lia,t]
   .rw[if_neg g];have eq:Ou ky p 0 n:=λi h1 h2=>by have x1:=t i (n-1) (by lia) (by lia);have x2:=t 0 i (by lia) h2;lia
    have T:=cY p 0 n;have hs:=eG T;let[m',l,b1,b2,b3]:=xm (p:=kas_rev p 0 n) (n:=n) (nrem:=nrem) (by lia) (by lia) λi j o U=>by
     rw[nR (by lia) eq,nR (by lia) eq];rcases Nat.lt_or_ge j n with r|r;.rw[eq i (by lia) (by lia),eq j (by lia) r];exact Int.le_refl _
     .have:j=n:=by lia
      subst this;rcases Nat.lt_or_ge i j with J|J;.rw[eq i (by lia) J];lia
      .have:i=j:=by lia
       subst this;exact Int.le_refl _ 
    exact#[m',l,b1,b2.trans T,b3]
  .rw[if_neg c2];refine xm (by lia) hz λi j o U=>?_;have:n=1:=by lia
   subst this;rcases Nat.lt_or_ge i j with r|r
   .have e1:i=0:=by lia
    have e2:j=1:=by lia
    subst e1 e2;exact Int.le_of_lt C
   .have:i=j:=by lia
    subst this;exact Int.le_refl _
def nT(up:DW ky p k):∀(f l r:Nat),l<=r->r<=k->r-l<=f->(∀i,i<l->kG ky p i<=kG ky p k)->(∀i,r<=i->i<k->kG ky p k<kG ky p i)->kRun (kC ky) (kas_place p k f l r)<=k/\(∀i,i<kRun (kC ky) (kas_place p k f l r)->kG ky p i<=kG ky p k)/\∀i,kRun (kC ky) (kas_place p k f l r)<=i->i<k->kG ky p k<kG ky p i
|0,l,r,h1,h2,h3,a,b=>#[by show l<=k;omega,a,λi hi hk=>b i (by have:l<=i:=hi;omega) hk]|f+1,l,r,h1,h2,h3,a,b=>by
  unfold kas_place;by_cases c:l≥r;.rw[if_pos c];exact#[by show l<=k;omega,a,λi hi hk=>b i (by have:l<=i:=hi;omega) hk]
  .rw[if_neg c];have e:kRun (kC ky) (KasT.ask (p.getD k 0) (p.getD ((l+r)/2) 0) λc=>if c=true then kas_place p k f l ((l+r)/2)else kas_place p k f ((l+r)/2+1) r)=if kG ky p k<kG ky p ((l+r)/2)then kRun (kC ky) (kas_place p k f l ((l+r)/2))else kRun (kC ky) (kas_place p k f ((l+r)/2+1) r):=by
    show kRun (kC ky) (if decide (kG ky p k<kG ky p ((l+r)/2))=true then kas_place p k f l ((l+r)/2)else kas_place p k f ((l+r)/2+1) r)=_;by_cases c3:kG ky p k<kG ky p ((l+r)/2);.rw[if_pos c3,if_pos (decide_eq_true c3)]
    .rw[if_neg c3,if_neg (by rw[decide_eq_true_eq];exact c3)]
   rw[e];by_cases c3:kG ky p k<kG ky p ((l+r)/2)
   .rw[if_pos c3];exact nT up f l ((l+r)/2) (!6) (!6) (!6) a λi hi hk=>by have:=up ((l+r)/2) i hi hk;omega
   .rw[if_neg c3];exact nT up f ((l+r)/2+1) r (!6) h2 (!6) λi hi=>by have:=up i ((l+r)/2) (!6) !6;omega b
def Br:∀(f:Nat)(p:Array Nat)(k:Nat),DW ky p k->k+f<=p.size->(kRun (kC ky) (kas_bin f p k)).Perm p/\DW ky (kRun (kC ky) (kas_bin f p k)) (k+f)
|0,p,k,h,_=>#[.refl _,h]|f+1,p,k,h,hz=>by
  let[a1,a2,a3]:=nT h k 0 k (Nat.zero_le _) (UI _) (!6) λi hi=>by omega (λi h1 h2=>by omega);have e:kRun (kC ky) (kas_bin (f+1) p k)=kRun (kC ky) (kas_bin f (bubble p k (k-kRun (kC ky) (kas_place p k k 0 k))) (k+1)):=eF _;rw[e];generalize kRun (kC ky) (kas_place p k k 0 k)=l at a1 a2 a3;have hp:(bubble p k (k-l)).Perm p:=bubble_perm _ _ _;have hs:=eG hp;have at':∀i,kG ky (bubble p k (k-l)) i=if i=l then kG ky p k else if l<i/\i<=k then kG ky p (i-1)else kG ky p i:=λi=>by
   have z:=getElem?_bubble (xs:=p) (src:=k) (!6) (k-l) (!6) i;rw[show k-(k-l)=l by omega]at z;by_cases c1:i=l;.rw[if_pos c1]at z⊢;exact nQ z
   .rw[if_neg c1]at z⊢;by_cases c2:l<i/\i<=k;.rw[if_pos c2]at z⊢;exact nQ z
    .rw[if_neg c2]at z⊢;exact nQ z
  let[b1,b2]:=Br f (bubble p k (k-l)) (k+1) (λi j hij hj=>by
   rw[at',at'];by_cases ci:i=l
   .rw[if_pos ci];by_cases cj:j=l;.rw[if_pos cj];exact Int.le_refl _
    .rw[if_neg cj,if_pos !6];exact Int.le_of_lt (a3 (j-1) (!6) !6)
   .rw[if_neg ci];by_cases ci2:l<i/\i<=k;.rw[if_pos ci2,if_neg !6,if_pos !6];exact h _ _ (!6) !6 
    .rw[if_neg ci2];by_cases cj:j=l;.rw[if_pos cj];exact a2 i !6 
     .rw[if_neg cj];by_cases cj2:l<j/\j<=k;.rw[if_pos cj2];exact h _ _ (!6) !6 
      .rw[if_neg cj2];exact h _ _ hij !6) !6;exact#[b1.trans hp,by rw[show k+(f+1)=k+1+f by omega];exact b2]
def Ff(h1:1<=n):(kRun (kC ky) (kas_sort n)).Perm (List.toArray !22)/\DW ky (kRun (kC ky) (kas_sort n)) n:=by
 let[m,p,e,g,J,I,l]:=Bq (p:=List.toArray !22) h1 (by simp);have C:=eG g;have t:(List.toArray !22).size=n:=by simp
 unfold kas_sort;rw[eF,e];by_cases c:m<n
 .rw[if_pos c];have o:max m 1=m:=by lia
  rw[o];let[r,j]:=Br (n-m) p m l (by lia);rw[show m+(n-m)=n by lia]at j;exact#[r.trans g,j]
 .rw[if_neg c];have:m=n:=by lia
  subst this;exact#[g,l]
end
def  kIn{α:Type}(n:Nat)(Q:α->Prop):KasT α->Prop
|.ret a=>Q a|.ask i j k=>i<n/\j<n/\∀b,kIn n Q (k b)
def f9{Q Q'}(h:∀a,Q a->Q' a):∀t:KasT α,kIn n Q t->kIn n Q' t
|.ret a,z=>h a z|.ask _ _ k,z=>#[z.1,z.2.1,λb=>f9 h (k b) (z.2.2 b)]
def ge{f:α->KasT β}:∀t:KasT α,kIn n (λa=>kIn n Q (f a)) t->kIn n Q (t.bind f)
|.ret _,z=>z|.ask _ _ k,z=>#[z.1,z.2.1,λb=>ge (k b) (z.2.2 b)]
def cZ[Decidable c]{t u:KasT α}(h:kIn n Q t)(h':kIn n Q u):kIn n Q (if c then t else u):=by grind
def  kB(n:Nat)(p:Array Nat):Prop:=∀k,p.getD k 0<n
def jh(h0:0<n)(h:q.Perm p)(b:kB n p):kB n q:=λk=>by rw[Array.getD_eq_getD_getElem?];cases e:q[k]?with
|none=>exact h0|some x=>let[j,g,l]:=Array.getElem_of_mem (h.mem_iff.mp (Array.mem_of_getElem? e));have z:=b j;rw[Array.getD_eq_getD_getElem?,Array.getElem?_eq_getElem g,l]at z;exact z
section
variable{n:Nat}
def vH(b:kB n p):∀(f m:Nat),kIn n (λ_=>True) (kas_asc p f m)
|0,_=>trivial|f+1,m=>#[b _,b _,λc=>cZ trivial (vH b f (m+1))]
def mT(h0:0<n):∀(f:Nat)(p:Array Nat)(m q:Nat),kB n p->kIn n (λr=>kB n r.1) (kas_desc f p m q)
|0,p,_,_,b=>b|f+1,p,m,q,b=>#[b _,b _,λc=>cZ (cZ (mT h0 f _ _ _ (jh h0 (cY _ _ _) b)) (mT h0 f _ _ _ b)) #[b _,b _,λd=>cZ b (mT h0 f _ _ _ b)]]
def xn(h0:0<n)(b:kB n p)(m r:Nat):kIn n (λz=>kB n z.2) (kas_tail3 m r p):=ge _ (f9 (λ_ _=>jh h0 (cY _ _ _) b) _ (vH (jh h0 (cY _ _ _) b) _ _))
def xo(h0:0<n)(b:kB n p)(m r:Nat):kIn n (λz=>kB n z.2) (kas_descPart m r p):=ge _ (f9 (λz g=>cZ (xn h0 (jh h0 (cY _ _ _) g) _ _) (xn h0 g _ _)) _ (mT h0 _ _ _ _ b))
def nU(b:kB n p)(k:Nat):∀(f l r:Nat),kIn n (λ_=>True) (kas_place p k f l r)
|0,_,_=>trivial|f+1,l,r=>by unfold kas_place;exact cZ trivial #[b _,b _,λc=>cZ (nU b k f _ _) (nU b k f _ _)]
def Bt(h0:0<n):∀(f:Nat)(p:Array Nat)(k:Nat),kB n p->kIn n (λ_=>True) (kas_bin f p k)
|0,_,_,_=>trivial|f+1,p,k,b=>ge _ (f9 (λl _=>Bt h0 f _ _ (jh h0 (bubble_perm _ _ _) b)) _ (nU b k _ _ _))
def rB(h0:0<n):kIn n (λ_=>True) (kas_sort n):=by
 have b:kB n (List.toArray !22):=λk=>by
  by_cases h:k<n;.simp[h]
  .simp[h,h0]
 refine ge _ (f9 (λz g=>cZ (Bt h0 _ _ _ g) ?_) _ ((λh0 b r=>by
   refine ge _ (f9 (λm _=>?_) _ (vH b _ _));refine cZ b (cZ #[b _,b _,λc=>cZ ?_ (xo h0 (jh h0 (cY _ _ _) b) _ _)] (xo h0 b _ _));.exact b) h0 b n));exact trivial
end
def rC{ask}(ha:∀i j C,i<n->j<n->C (c i j) s->ask i j C s):∀t:KasT α,kIn n (λ_=>True) t->Q (kRun c t) s->t.kasWp ask Q s
|.ret _,_,h=>h|.ask i j k,z,h=>ha i j _ z.1 z.2.1 (rC ha (k (c i j)) (z.2.2 _) h)
def  gP(c:Nat->Nat->Bool)(vs:T9):T9:=if vs.length<2 then vs else(kRun c (kas_sort vs.length)).toList.map λi=>vs.getD i .none
structure SortBy(prog:Program)(w:World)(A:Around)(s:Shared)(a:Addr)(vs:T9)(κ:SortKind)(c:Nat->Nat->Bool):Prop where
 kd:∀h',(∀b o,b≠a->s.heap.get? b=!o->h'.get? b=!o)->2<=vs.length->∀(Q:SortKind->Shared->Prop),Q κ {s with heap:=h'}->wpAny (!7) A (keyKind' vs.toArray) Q (λ_ _=>False) {s with heap:=h'}cp:∀h',(∀b o,b≠a->s.heap.get? b=!o->h'.get? b=!o)->∀i j,i<vs.length->j<vs.length->∀(Q:Bool->Shared->Prop),Q (c i j) {s with heap:=h'}->wpAny (!7) A (keyLt' κ (vs.getD i .none) (vs.getD j .none)) Q (λ_ _=>False) {s with heap:=h'}
def Bu{prog:Program}{w:World}{A:Around}{E:T8}{s:Shared}(I:s.heap.get? a=!seqObj "list" g.toArray n)(T:g.length<64)(B:SortBy prog w A s a g κ c)(h:P (.done (.ret .none)) {s with heap:=sortedHeap s.heap a g (gP c g).toArray}):wpAny (!7) A (Builtin.«list.sort» #[[.ref a],[]]) P E s:=by
 obtain⟨m,hm⟩:∃m,(s.heap.update a (Obj.mapSeq λ_=>#[ ])).get? a=!seqObj "list" #[ ] m:=#[_,get?_update_seq I λ_=>#[ ]];have J:(((s.heap.update a (Obj.mapSeq λ_=>#[ ])).push (seqObj "tuple" g.toArray 0)).push (seqObj "list" #[ ] 0)).get? a=!_:=Um _ (Um _ hm);have sz:g.toArray.size=g.length:=rfl;have t:g.length<=sizeLine:=by rw[sizeLine_eq];lia
 rw[list_sort_plain];refine Ul (listItems_at I rfl (Ul (listUpdate_at I rfl (Ul (seqEpoch_at hm rfl (Ul (wpAny_newTuple (Ul (wpAny_newList (wpAny_holding ?_) (Nat.zero_le _))) t)))) (by rw[sz];exact t) (Nat.zero_le _))));dsimp only;rw[sz];by_cases q:g.length<2
 .rw[if_pos q,if_pos q];refine Ul (Uo (Ul (Uo ?_)));have e:(arrOf (SortSt.mk' general' (g.toArray.zip g.toArray) #[ ] 7 none)).map (·.2)=(gP c g).toArray:=by unfold gP;rw[if_pos q];show(g.toArray.zip g.toArray).map (·.2)=g.toArray;apply Array.toList_inj.mp;simp only[Array.toList_map,Array.toList_zip];exact List.map_snd_zip (UI _)
  dsimp only;rw[e];refine Ul (seqEpoch_at J rfl (Ul (listUpdate_at J rfl ?_ (Nat.zero_le _) (by unfold gP;rw[if_pos q];show g.length<=_;lia))));simp only[bne_self_eq_false,Bool.false_eq_true,if_false];exact Uo h
 .rw[if_neg q,if_neg q];have kp:∀b o,b≠a->s.heap.get? b=!o->(((s.heap.update a (Obj.mapSeq λ_=>#[ ])).push (seqObj "tuple" g.toArray 0)).push (seqObj "list" #[ ] 0)).get? b=!o:=λb o hb I=>Um _ (Um _ (by rw[Heap.get?_update_ne _ _ _ _ hb];exact I));refine Ul (UJ (B.kd _ kp (by lia) (λr s'=>r=κ/\s'=_) #[rfl,rfl]) ?_ λ_ _ z=>z.elim);rintro r _⟨e0,rfl⟩;rw[e0];refine Ul (UJ (kat_run (Q:=λl s'=>(arrOf l).map (·.2)=(gP c g).toArray/\failedOf l=none/\(gP c g).length=g.length/\s'=_) rfl (by lia) T (G:=λp s'=>p=kRun c _/\s'=_) (λp l s' a1 a2 a3 U=>#[?_,a3,?_,U.2]) (rC (λi j C hi hj z=>B.cp _ kp i j hi hj C z) _ (rB (by lia)) #[rfl,rfl])) ?_ λ_ _ z=>z);.rw[kat_snds rfl a2,U.1];unfold gP;rw[if_neg q]
  .unfold gP;rw[if_neg q,length_map,<-U.1,Array.length_toList,a1]
  .rintro⟨⟨⟩,l⟩_⟨e1,e2,e3,rfl⟩;rw[e1];refine Ul (seqEpoch_at J rfl (Ul (listUpdate_at J rfl ?_ (Nat.zero_le _) ?_)));.rw[e2];simp only[bne_self_eq_false,Bool.false_eq_true,if_false];exact Uo h
   .show(gP c g).length<=_;lia
def y7(hl:s.heap.IsList l vs.toArray)(h64:vs.length<64)(B:∀h':Heap,(∀b o,s.heap.get? b=!o->h'.get? b=!o)->SortBy prog w A.in1.in1 {s with heap:=h'} (!21) vs κ c)(h:Q (.ref !21) {s with heap:=sortedAll s.heap vs (gP c vs).toArray}):wpAny (!7) A (call (.builtin "sorted") [.ref l]) Q E s:=by
 have z64:vs.length<=sizeLine:=by rw[sizeLine_eq];lia
 refine Calls.call_function_entry kind_sorted plain_sorted entry_sorted (args_sorted1 _) (Ul (Uo (Ul (collect_list hl (Ul (wpAny_newList ?_ z64)) z64))));have e:((s.heap.push (seqObj "list" #[ ] 0)).update s.heap.objs.size (Obj.mapSeq (·++vs.toArray))).objs.size=s.heap.objs.size+1:=by rw[Heap.size_update,size_push']
 have hn:(((s.heap.push (seqObj "list" #[ ] 0)).update s.heap.objs.size (Obj.mapSeq (·++vs.toArray))).push (seqObj "list" vs.toArray 0)).get? (!21)=!seqObj "list" vs.toArray 0:=by rw[<-e];exact Uq _ rfl
 have kp:∀b o,s.heap.get? b=!o->(((s.heap.push (seqObj "list" #[ ] 0)).update s.heap.objs.size (Obj.mapSeq (·++vs.toArray))).push (seqObj "list" vs.toArray 0)).get? b=!o:=λb o z=>by exact Um _ (by rw[Heap.get?_update_ne _ _ _ _ (Nat.ne_of_lt (Heap.lt_size z))];exact Um _ z)
 rw[e];refine Ul (wpAny_holding (wpAny_call_entry slot_list_sort #[_,hn,rfl] entry_list_sort (Bu hn h64 (B _ kp) #[_,rfl,Uo #[_,rfl,h]]) (args_list_sort _)))
def vI:∀a:Ud,HT.lexLt a a=false
|[]=>rfl|x::a=>by rw[HT.lexLt_cons,if_pos rfl];exact vI a
def rD:∀a b:Ud,HT.lexLt a b=true->HT.lexLt b a=false
|[],[],_=>rfl|[],_::_,_=>rfl|_::_,[],h=>by cases h|x::a,y::b,h=>by
  rw[HT.lexLt_cons]at h⊢;by_cases q:x=y;.rw[if_pos q]at h;rw[if_pos q.symm];exact rD a b h
  .rw[if_neg q]at h;rw[if_neg (Ne.symm q)];have:=Uv h;exact decide_eq_false !6
def nV:∀k j i:Ud,HT.lexLt k j=true->HT.lexLt i j=false->HT.lexLt k i=true
|[],[],_,h,_=>by cases h|_::_,[],_,h,_=>by cases h|_,_::_,[],_,h=>by cases h|[],_::_,_::_,_,_=>rfl|x::k,y::j,z::i,h,g=>by
  rw[HT.lexLt_cons]at h g⊢;by_cases q:x=y
  .rw[if_pos q]at h;by_cases r:z=y;.rw[if_pos r]at g;rw[if_pos (q.trans r.symm)];exact nV k j i h g
   .rw[if_neg r]at g;have:=of_decide_eq_false g;rw[if_neg !6];exact decide_eq_true !6 
  .rw[if_neg q]at h;have h:=Uv h;by_cases r:z=y;.rw[if_neg !6];exact decide_eq_true !6 
   .rw[if_neg r]at g;have:=of_decide_eq_false g;rw[if_neg !6];exact decide_eq_true !6
def  Jq(h:HT.lexLt a b=true)(g:HT.lexLt b c=true):=nV a b c h (rD b c g)
def rE:∀a b:Ud,HT.lexLt a b=false->HT.lexLt b a=false->a=b
|[],[],_,_=>rfl|[],_::_,h,_=>by cases h|_::_,[],_,h=>by cases h|x::a,y::b,h,g=>by
  rw[HT.lexLt_cons]at h g;by_cases q:x=y;.rw[if_pos q]at h;rw[if_pos q.symm]at g;rw[q,rE a b h g]
  .rw[if_neg q]at h;rw[if_neg (Ne.symm q)]at g;have:=of_decide_eq_false h;have:=of_decide_eq_false g;omega
def Jr{l:Ub}(h:∀x,p x=true->q x=true)(g:y∈l)(h1:q y=true)(h2:p y=false):l.countP p<l.countP q:=by induction l with
|nil=>cases g|cons a l j=>
  have m:l.countP p<=l.countP q:=List.countP_mono_left λx _ z=>h x z;rcases mem_cons.mp g with rfl|g;.rw[List.countP_cons,List.countP_cons,h1,h2];simp;lia
  .have:=j g;rw[List.countP_cons,List.countP_cons];have z:(if p a=true then 1 else 0)<=if q a=true then 1 else 0:=by cases e:p a with
|true=>rw[h a e];simp|false=>simp
   lia
def  rk(n:Nat)(f:Nat->Ud)(i:Nat):Int:=(((!22).countP λk=>HT.lexLt (f k) (f i):Nat):Int)
def Hf(hi:i<n):HT.lexLt (f i) (f j)=kC (rk n f) i j:=by unfold kC rk;cases e:HT.lexLt (f i) (f j)with
|true=>refine(decide_eq_true ?_).symm;have:=Jr (λx h=>Jq h e) (UG.mpr hi) e (vI _);lia|false=>refine(decide_eq_false ?_).symm;have:(!22).countP (λk=>HT.lexLt (f k) (f j))<=(!22).countP λk=>HT.lexLt (f k) (f i):=List.countP_mono_left λx _ h=>nV _ _ _ h e;lia
def nX(h:∀i j,i<n->j<n->c i j=c' i j):∀t:PySem.W.KasT α,kIn n (λ_=>True) t->kRun c t=kRun c' t
|.ret _,_=>rfl|.ask i j k,z=>by show kRun c (k (c i j))=kRun c' (k (c' i j));rw[h i j z.1 z.2.1];exact nX h _ (z.2.2 _)
def  pe(f:Nat->Ud)(i j:Nat):Bool:=HT.lexLt (f i) (f j)
def dG(f:Nat->Ud)(t:1<=n):(kRun (pe f) (PySem.W.kas_sort n)).toList.Perm !22/\(kRun (pe f) (PySem.W.kas_sort n)).toList.Pairwise λa b=>HT.lexLt (f b) (f a)=false:=by
 rw[nX (c:=pe f) (λi j hi o=>Hf hi) _ (rB t)];let[h1,h2]:=Ff t;generalize kRun (kC (rk n f)) (PySem.W.kas_sort n)=p at h1 h2;have l:p.toList.Perm !22:=by simpa using h1.toList
 refine#[l,List.pairwise_iff_getElem.mpr λi j hi o r=>?_];have C:p.toList.length=n:=by rw[l.length_eq,length_range]
 have z:=h2 i j (UF r) (by lia);have e:∀k(g:k<p.toList.length),p.getD k 0=p.toList[k]:=λk g=>by
  have:k<p.size:=by omega
  simp[Array.getD,this]
 unfold kG at z;rw[e i hi,e j o]at z;rw[Hf ((λk g=>List.mem_range.mp (l.mem_iff.mp (List.getElem_mem g))) j o)];exact decide_eq_false (by lia)
def  kM:D->Option (Option Nat×List Int)
|.int i=>!(none,[i])|.tup ds=>(aX ds).bind λns=>!(!ns.length,ns)|_=>none
def  fO:Uh->Option (List (Option Nat)×List Int)
|[]=>!([],[])|d::ds=>(kM d).bind λa=>(fO ds).bind λr=>!(a.1::r.1,a.2++r.2)
def  qe:D->Option (List (Option Nat)×List Int)
|.tup ds=>fO ds|_=>none
def dE:∀{ds:Uh}{ns:Ud},aX ds=!ns->ds=ns.map D.int
|[],ns,h=>by cases h;rfl|d::ds,ns,h=>by cases d with
|int i=>let[ms,e1,e2]:=UK (show(aX ds).bind (λxs=>!i::xs)=some ns from h);cases e2;rw[dE e1];rfl|_=>cases h
def y8(h:kM d=!(a,f))(g:kM e=!(a,f)):d=e:=by cases d with
|int i=>cases h;cases e with
  |int j=>cases g;rfl|tup es=>let[l,_,z]:=UK g;cases z|_=>cases g
|tup ds=>let[l,h1,h2]:=UK h;cases h2;cases e with
  |int j=>cases g|tup es=>let[o,g1,g2]:=UK g;injection g2 with g2;injection g2 with g3 p;subst p;rw[dE h1,dE g1]|_=>cases g
|_=>cases h
noncomputable def  Tc:Option Nat->Nat
|none=>1|some n=>n
def ji(h:kM d=!(a,f)):f.length=Tc a:=by cases d with
|int i=>cases h;rfl|tup ds=>let[g,h1,h2]:=UK h;cases h2;rfl|_=>cases h
def nY:∀{ds es:Uh}{sh:List (Option Nat)}{f:Ud},fO ds=!(sh,f)->fO es=!(sh,f)->ds=es
|[],[],_,_,_,_=>rfl|[],e::es,_,_,h,g=>by cases h;let[a,_,g]:=UK g;let[r,_,g]:=UK g;cases g|d::ds,[],_,_,h,g=>by cases g;let[a,_,h]:=UK h;let[r,_,h]:=UK h;cases h|d::ds,e::es,sh,f,h,g=>by let[[a,x],h1,h]:=UK h;let[[r,y],h2,h]:=UK h;cases h;let[[a',x'],g1,g]:=UK g;let[[r',y'],g2,g]:=UK g;injection g with g;injection g with ga gb;injection ga with ga1 ga2;dsimp only at ga1 ga2 gb;subst ga1 ga2;let[q1,q2]:=List.append_inj gb ((ji g1).trans (ji h1).symm);subst q1 q2;rw[y8 h1 g1,nY h2 g2]
def  flt(d:D):Ud:=match qe d with
|some (_,f)=>f|none=>[]
def  c6(ds:Uh):Prop:=∃sh,sh≠[]/\∀d∈ds,∃f,qe d=!(sh,f)
instance(ds:Uh):Decidable (c6 ds):=Classical.propDecidable _
def  pf(ds:Uh):Uh:=ds.mergeSort λa b=>not (HT.lexLt (flt b) (flt a))
def  tH:Uh->T7:=uR λd=>(j3 d).bind λds=>if ds.length<64/\c6 ds then !pf ds else none
def Bv(h:c6 ds)(o:a∈ds)(l:b∈ds)(e:flt a=flt b):a=b:=by let[sh,_,z]:=h;let[f,j]:=z a o;let[g,r]:=z b l;unfold flt at e;rw[j,r]at e;subst e;cases a with
|tup as=>cases b with
  |tup p=>rw[nY j r]|_=>cases r
|_=>cases j
def lL(ds:Uh):(pf ds).Perm ds:=List.mergeSort_perm _ _
def tI(ds:Uh):(pf ds).Pairwise λa b=>HT.lexLt (flt b) (flt a)=false:=by
 refine(List.pairwise_mergeSort (λa b c h1 h2=>?_) (λa b=>?_) ds).imp λh=>by simpa using h
 .simp only[Bool.not_eq_true']at h1 h2⊢;cases e:HT.lexLt (flt c) (flt a)with
|false=>rfl|true=>rw[nV _ _ _ e h1]at h2;cases h2
 .cases e:HT.lexLt (flt b) (flt a)with
|false=>rfl|true=>rw[rD _ _ e];rfl
def rF(h:c6 ds)(h1:g.Perm ds)(h2:g.Pairwise λa b=>HT.lexLt (flt b) (flt a)=false):g=pf ds:=List.Perm.eq_of_pairwise (λa b l j x y=>Bv h (h1.mem_iff.mp l) ((lL ds).mem_iff.mp j) (rE _ _ y x)) h2 (tI ds) (h1.trans (lL ds).symm)
def bX{α:Type}(x:α):∀l:List α,(List.range l.length).map (λi=>l.getD i x)=l:=λl=>by
 apply List.ext_getElem;.simp
 .intro i h1 h2;simp at h1;simp[h1]
def tK(h:c6 ds)(g:1<=ds.length):(kRun (pe λi=>flt (ds.getD i .non)) (PySem.W.kas_sort ds.length)).toList.map (λi=>ds.getD i .non)=pf ds:=by let[h1,h2]:=dG (λi=>flt (ds.getD i .non)) g;refine rF h ?_ (List.pairwise_map.mpr h2);have:=h1.map λi=>ds.getD i .non;rwa[bX]at this
section
variable{X:Cx}{pins:T5}{σ:St}{H:Hp}{s:Shared}
def vJ:∀{a b:Ud}(x y:Ud),a.length=b.length->HT.lexLt (a++x) (b++y)=if a=b then HT.lexLt x y else HT.lexLt a b
|[],[],x,y,_=>by rw[if_pos rfl];rfl|[],_::_,_,_,h=>by cases h|_::_,[],_,_,h=>by cases h|u::a,v::b,x,y,h=>by
  rw[List.cons_append,List.cons_append,HT.lexLt_cons,HT.lexLt_cons,vJ x y (Nat.succ.inj h)];by_cases q:u=v
  .rw[if_pos q,if_pos q];by_cases r:a=b;.rw[if_pos r,if_pos (by rw[q,r])]
   .rw[if_neg r,if_neg λz=>r (List.cons.inj z).2]
  .rw[if_neg q,if_neg q,if_neg λz=>q (List.cons.inj z).1]
def tL:∀(a b:Ud),tu (a.map D.int) (b.map D.int)=decide (a=b)
|[],[]=>by simp[tu]|[],_::_=>by simp[tu]|_::_,[]=>by simp[tu]|x::a,y::b=>by
  show(x==y&&tu (a.map D.int) (b.map D.int))=_;rw[tL a b];by_cases q:x=y
  .by_cases r:a=b;.simp[q,r]
   .simp[q,r]
  .simp[q]
def nZ(h:kM d=!z):lG d=true/\wW d<=1:=by cases d with
|int i=>exact#[rfl,Nat.zero_le _]|tup ds=>
  let[g,h1,_]:=UK h;rw[dE h1];have:∀g:Ud,jF (g.map D.int)=true/\bF (g.map D.int)<=0:=λg=>by induction g with
|nil=>exact#[rfl,UI _]|cons n g j=>
    refine#[?_,?_];.show(lG (.int n)&&jF (g.map D.int))=true;rw[j.1];rfl
    .show max (wW (.int n)) (bF (g.map D.int))<=0;have:wW (.int n)=0:=rfl;lia
  exact#[(this g).1,by have:=(this g).2;show bF _+1<=1;lia]|_=>cases h
def Bw(I:Inv X pins σ H s)(hu:A.units+1<cLine)(h1:kM d=!(a,f))(h2:kM e=!(a,g))(J:Is X.K H d x)(C:Is X.K H e y)(rx:RelV x p)(r:RelV y q):SeqAt.EqAt A s p q (decide (f=g))/\∀(b:Bool)(Q:Bool->Shared->Prop),(b=true->a=none)->Q (HT.lexLt f g) s->wpAny (!3) A (oneLt' b p q) Q (λ_ _=>False) s:=by
 have eq:=vj I 1 A d e x y p q (nZ h1).2 (!6) (nZ h1).1 (nZ h2).1 J C rx r;cases d with
|int i=>cases h1;cases e with
  |int j=>
   cases h2;refine#[?_,λb Q hb T=>?_]
   .have z:iD (.int i) (.int j)=decide ([i]=[j]):=by
     show(i==j)=_;by_cases c:i=j;.simp[c]
     .simp[c]
    rw[<-z];exact eq
   .cases J;cases C;let[t,rfl]:=rx;let[u,rfl]:=r;have l:Q (decide (i<j)) s:=by
     have z:HT.lexLt [i] [j]=decide (i<j):=by
      rw[HT.lexLt_cons];by_cases c:i=j;.rw[if_pos c];exact(decide_eq_false (by lia)).symm
      .rw[if_neg c]
     rw[<-z];exact T
    cases b with
   |true=>exact oneLt_int l|false=>exact PySem.W.kat_one _ _ (lt_int l)
  |tup es=>let[ms,_,z]:=UK h2;cases z|_=>cases h2
|tup ds=>let[ns,h3,o]:=UK h1;injection o with o;injection o with o h4';subst o h4';cases e with
  |int j=>cases h2|tup es=>
   let[ms,h5,U]:=UK h2;injection U with U;injection U with h7 h8;subst h8;refine#[?_,λb Q hb T=>?_]
   .have z:iD (.tup ds) (.tup es)=decide (ns=ms):=by show tu ds es=_;rw[dE h3,dE h5,tL]
    rw[<-z];exact eq
   .cases b with
   |true=>cases hb rfl|false=>let[a1,xs,rfl,t1,l1]:=J;let[a2,ys,rfl,t2,l2]:=C;rw[asInts_is h3 l1]at t1;rw[asInts_is h5 l2]at t2;cases rx;cases r;let[its,r1,p1,_]:=I.tuple t1;let[its2,r2,p2,_]:=I.tuple t2;exact PySem.W.kat_one _ _ (HT.lt_tupInts p1 p2 (xj r1) (xj r2) (by lia) T)
  |_=>cases h2
|_=>cases h1
def qf(I:Inv X pins σ H s)(hu:A.units+1<cLine):∀{ds es:Uh}{sh:List (Option Nat)}{f g:Ud}{xs ys:List V}{ps qs:T9}(i:Nat),fO ds=!(sh,f)->fO es=!(sh,g)->IsL X.K H ds xs->IsL X.K H es ys->Vals xs ps->Vals ys qs->(b=true->i=0->sh.head?=!none)->fin=false->Q (HT.lexLt f g) s->PySem.W.KatLex X.prog X.w A b fin Q (ps.zip qs) i s
|[],[],sh,f,g,xs,ys,ps,qs,i,h1,h2,l1,l2,r1,r2,hb,hf,hq=>by cases h1;cases h2;cases show xs=[]from l1;cases show ys=[]from l2;cases r1;cases r2;rw[hf];exact hq|[],e::es,sh,f,g,xs,ys,ps,qs,i,h1,h2,l1,l2,r1,r2,hb,hf,hq=>by cases h1;let[a,_,h2]:=UK h2;let[r,_,h2]:=UK h2;cases h2|d::ds,[],sh,f,g,xs,ys,ps,qs,i,h1,h2,l1,l2,r1,r2,hb,hf,hq=>by cases h2;let[a,_,h1]:=UK h1;let[r,_,h1]:=UK h1;cases h1|d::ds,e::es,sh,f,g,xs,ys,ps,qs,i,h1,h2,l1,l2,r1,r2,hb,hf,hq=>by let[[a,f1],h3,h1]:=UK h1;let[[s1,f2],h4,h1]:=UK h1;cases h1;let[[a',g1],h5,h2]:=UK h2;let[[s2,g2],h6,h2]:=UK h2;injection h2 with h2;injection h2 with h7 h8;injection h7 with h9 h10;dsimp only at h8 h9 h10;subst h8 h9 h10;let[x,xr,rfl,ix,l1]:=l1;let[y,yr,rfl,iy,l2]:=l2;cases r1 with|cons rx r1=>cases r2 with|cons ry r2=>
    let[c1,c2]:=Bw I hu h3 h5 ix iy rx ry;dsimp only at hq;rw[vJ f2 g2 ((ji h3).trans (ji h5).symm)]at hq;rw[List.zip_cons_cons];refine PySem.W.kat_cons (c1 X.prog X.w _ _ ?_);by_cases q:f1=g1;.rw[if_pos q]at hq;rw[decide_eq_true q];exact PySem.W.kat_yes (qf I hu (i+1) h4 h6 l1 l2 r1 r2 (λ_ z=>absurd z !6) hf hq)
    .rw[if_neg q]at hq;rw[decide_eq_false q];refine PySem.W.kat_no (c2 _ _ (λz=>?_) hq);rw[and_eq_true,beq_iff_eq]at z;have:=hb z.1 z.2;injection this
end
section
variable{X:Cx}{a:Expr}{p pos:Pos}
def gh{as:List α}{g:List j}(h:Paired F as g)(hi:i<as.length)(x:α)(y:j):F (as.getD i x) (g.getD i y):=by let[z,e,f]:=gw h (getElem?_eq_getElem hi);rw[List.getD_eq_getElem?_getD,List.getD_eq_getElem?_getD,getElem?_eq_getElem hi,e];exact f
def dP{as:List α}{bs:List β}(h:Paired F as bs)(x:α)(y:β):∀{l:Ub},(∀i∈l,i<as.length)->Paired F (l.map λi=>as.getD i x) (l.map λi=>bs.getD i y)
|[],_=>.nil|i::l,z=>.cons (gh h (z i Ut) x y) (dP h x y λj hj=>z j (Uu _ hj))
def n4(h:qe d=!z):∃ds,d=.tup ds/\fO ds=!z:=by cases d with
|tup ds=>exact#[ds,rfl,h]|_=>cases h
noncomputable def  kindT(sh:List (Option Nat)):Bool:=decide (sh.head?=!none)
def xp{σ:St}(I:Inv X pins σ H s)(hu:A.units+1<cLine)(p:IsL X.K H ds xs)(r:Vals xs T)(hne:sh≠[])(hs:∀d∈ds,∃f,qe d=!(sh,f)){a:Addr}(ha:s.heap.objs.size<=a)(h1:Heap)(k1:∀b o,s.heap.get? b=!o->h1.get? b=!o):SortBy X.prog X.w A {s with heap:=h1} a T (tuples' (kindT sh)) (pe λi=>flt (ds.getD i .non)):=by
 have keep:∀h',(∀b o,b≠a->h1.get? b=!o->h'.get? b=!o)->Inv X pins σ H {s with heap:=h'}:=λh' k=>I.kept λb o q=>k b o (Uz (Uw (Up q) ha)) (k1 b o q);have len1:=p.len;have len2:=r.length;refine#[λh' k h2 Q U=>?_,λh' k i j hi hj Q U=>?_]
 .have J:=keep h' k;have first:∀{ds:Uh}{xs:List V}{T:T9},IsL X.K H ds xs->Vals xs T->(∀d∈ds,∃f,qe d=!(sh,f))->∃fs,PySem.W.KatTups h' T fs/\fs.length=T.length/\∀v∈fs,∀M,PySem.W.Looks M h' (typeOf v) (if kindT sh then .type "int"else .type "tuple"):=by intro ds;induction ds with
|nil=>intro xs T p r _;cases p;cases r;exact#[[],trivial,rfl,λ_ z=>nomatch z]|cons d ds ih=>intro xs T p r hs;let[x,xr,rfl,ix,p]:=p;cases r with|cons rx r=>let[fs,q1,q2,q3]:=ih p r λe he=>hs e (Uu _ he);let[f,e]:=hs d Ut;let[is,rfl,e]:=n4 e;let[b,ys,rfl,t,l]:=ix;cases rx;let[its,rv,[o,p1,p2,n,p3],_]:=J.tuple t;cases is with
|nil=>cases e;exact absurd rfl hne|cons i0 is=>let[[a0,f1],C,e]:=UK e;let[[s1,f2],e2,e]:=UK e;cases e;let[y,yr,rfl,iy,l]:=l;cases rv with|@cons _ v _ vr ry rv=>
       refine#[v::fs,#[#[b,o,_,n,rfl,p1,p2,p3,rfl],q1],by rw[length_cons,length_cons,q2],λv' hv M=>?_];rcases mem_cons.mp hv with rfl|hv;.cases i0 with
|int i=> cases C;cases iy;let[tk,rfl]:=ry;exact PySem.W.Looks.of_pure rfl|tup js=>let[ns,_,z]:=UK C;cases z;let[c,zs,rfl,t2,l2]:=iy;cases ry;let[its2,rv2,[o2,w1,w2,_],_]:=J.tuple t2;rw[<-w2];exact(PySem.W.Looks.ld w1).andThen .now|_=>cases C
       .exact q3 v' hv M
  let[fs,q1,q2,q3]:=first p r hs;refine PySem.W.kat_kind q1 (by lia) (λv hv=>q3 v hv _) (by cases kindT sh<;>decide) ?_;have e:((if kindT sh then Value.type "int"else .type "tuple")!=Value.type "tuple")=kindT sh:=by cases kindT sh<;>decide
  rw[e];exact U
 .have J:=keep h' k;have hi':i<ds.length:=by lia
  have hj':j<ds.length:=by lia
  have ix:=gh p.paired hi' .non .non;have iy:=gh p.paired hj' .non .non;have rx:=gh r (i:=i) (by lia) .non .none;have ry:=gh r (i:=j) (by lia) .non .none;let[f,C]:=hs (ds.getD i .non) (by rw[List.getD_eq_getElem?_getD,getElem?_eq_getElem hi'];exact List.getElem_mem hi');let[g,e2]:=hs (ds.getD j .non) (by rw[List.getD_eq_getElem?_getD,getElem?_eq_getElem hj'];exact List.getElem_mem hj');have U:Q (HT.lexLt (flt (ds.getD i .non)) (flt (ds.getD j .non))) {s with heap:=h'}:=U;generalize ds.getD i .non=d at ix C U;generalize ds.getD j .non=e at iy e2 U;generalize xs.getD i .non=x at ix rx;generalize xs.getD j .non=y at iy ry;generalize T.getD i .none=u at rx;generalize T.getD j .none=v at ry;unfold flt at U;rw[C,e2]at U;let[as,rfl,C]:=n4 C;let[bs,rfl,e2]:=n4 e2;let[b1,x1,rfl,t1,l1]:=ix;let[b2,x2,rfl,t2,l2]:=iy;cases rx;cases ry;let[it1,rv1,[o1,p1,_,n1,p3],_]:=J.tuple t1;let[it2,rv2,[o2,w1,_,n2,w3],_]:=J.tuple t2;have sz:∀{ds:Uh}{sh:List (Option Nat)}{f:Ud},fO ds=!(sh,f)->ds.length=sh.length:=λ{ds}=>by induction ds with
|nil=>intro sh f h;cases h;rfl|cons d ds ih=>intro sh f h;let[z,_,h]:=UK h;let[[r1,r2],h2,h]:=UK h;cases h;rw[length_cons,length_cons,ih h2]
  have z1:it1.length=sh.length:=by rw[<-rv1.length,<-l1.len,sz C]
  have z2:it2.length=sh.length:=by rw[<-rv2.length,<-l2.len,sz e2]
  refine PySem.W.kat_lt p1 p3 w1 w3 (qf J hu 0 C e2 l1 l2 rv1 rv2 (λhb _=>Uv hb) (decide_eq_false ?_) U);show¬it1.length<it2.length;lia
def  Js(K:Frag):List V->Hp->VK->Prop:=λvs H Q=>∃l ds xs,vs=[.ref l]/\SqL K H l xs/\IsL K H ds xs/\ds.length<64/\c6 ds/\∀(q:Addr)(ls:Ub),H q=none->(∀i∈ls,i<ds.length)->ls.map (λi=>ds.getD i .non)=pf ds->Q (.ref q) (upd H q (.lst (ls.map λi=>xs.getD i .non)))
def pw_1{α:Type}{R:α->α->Prop}:∀{l:List α},l.length<2->l.Pairwise R
|[],_=>.nil|[_],_=>List.pairwise_singleton _ _
def vL{k:Nat}(hr:Room k X.A):eJ X (.builtin "sorted") (Js X.K):=by
 intro pins s σ H xs us Q I r h;let[l,ds,ys,rfl,hx,C,h64,p,q]:=h;let[u,rfl,T]:=fw r;cases T;let[g,rv,pl,hz]:=I.list hx;have hl:=rv.length;have hd:=C.len;let[sh,t,j]:=id p;refine y7 (κ:=tuples' (kindT sh)) (c:=pe λi=>flt (ds.getD i .non)) pl.isList (by lia) (λh' U=>xp I (by have:=hr.un;show X.A.units+1+1+1<_;lia) C rv t j (Nat.le_succ _) h' U) ?_;obtain⟨ls,e1,e2,J⟩:∃ls:Ub,gP (pe λi=>flt (ds.getD i .non)) g=ls.map (λi=>g.getD i .none)/\(∀i∈ls,i<ds.length)/\ls.map (λi=>ds.getD i .non)=pf ds:=by
  unfold gP;by_cases c:g.length<2;.rw[if_pos c];refine#[List.range g.length,(bX _ _).symm,λi hi=>by have:=UG.mp hi;lia,?_];rw[show g.length=ds.length by lia,bX];exact rF p (.refl _) (pw_1 (by lia))
  .rw[if_neg c];refine#[_,rfl,λi hi=>?_,?_];.have:=UG.mp ((dG _ (by lia)).1.mem_iff.mp hi);lia
   .rw[show g.length=ds.length by lia];exact tK p (by lia)
 rw[e1];let[e,he]:=sortedAll_at s.heap g (ls.map λi=>g.getD i .none).toArray;have hln:(ls.map λi=>ys.getD i V.non).length<64:=by have:=congrArg List.length J;rw[length_map,(lL ds).length_eq]at this;rw[length_map];lia
 refine#[.ref _,_,I.laid (t':=s.toks) (λb o q=>sortedAll_old q) (Nat.le_succ _) (o:=.lst (ls.map λi=>ys.getD i V.non)) #[?_,ls.map λi=>g.getD i .none,e,dP rv .non .none λi hi=>by have:=e2 i hi;lia,by simpa using he],rfl,q _ ls (I.hok.fresh (Nat.le_succ _)) e2 J];have:(64:Nat)<=sizeLine:=by decide
 lia
def Bx(hr:Room k X.A)(hg:Gl X "sorted")(hm:X.mg "sorted"=none)(ha:PX X [a] fa)(g:starEach [a] X.env=[(false,eval a X.env)]):PF X (.Call (.Name "sorted" p) [a] [] pos) λY=>(fa Y).bind tH:=λO Y=>(nj (vL hr) hg hm vF (ha O Y) (!2) (!2) (by rw[g];rfl) rfl).imp λσ H Q#[E,ds,q,k]=>by
 let[as,e1,q]:=UK q;refine#[E,as,e1,λvs H1 C il=>?_];let[c,rfl,U]:=bA q;let[xs,T,J]:=UK U;let[[o,g],I]:=aj J;subst I;let[v,rfl,h]:=uS il;let[l,ys,rfl,t,r]:=b8 T h;refine#[l,xs,ys,rfl,msk_le.seq t,r.full,o,g,λb ls hb j e=>k b _ H1 C hb ?_];rw[<-e];exact IsL.of (dP r.paired .non .non j)
def  c7(ds:Uh):T7:=match kK ds with
|some r=>!r|none=>tH ds
def kN(h:kK ds=!r):c7 ds=!r:=by unfold c7;rw[h]
def Fg(h:kK ds=none)(g:tH ds=!r):c7 ds=!r:=by unfold c7;rw[h];exact g
def By(t:Room k X.A)(l:Gl X "sorted")(j:X.mg "sorted"=none)(o:PX X [a] fa)(g:starEach [a] X.env=[(false,eval a X.env)]):PF X (.Call (.Name "sorted" p) [a] [] pos) λY=>(fa Y).bind c7:=λO Y=>by
 have h1:=Fe (p:=p) (pos:=pos) l j o g O Y;have h2:=Bx (p:=p) (pos:=pos) t l j o g O Y;dsimp only at h1 h2⊢;cases e:fa Y with
|none=>rw[e]at h1;exact h1|some ds=>rw[e]at h1 h2;cases C:kK ds with
|some r=>
   have z:(!ds).bind c7=(!ds).bind kK:=by show c7 ds=kK ds;rw[kN C,C]
   rw[z];exact h1|none=>
   have z:(!ds).bind c7=(!ds).bind tH:=by show c7 ds=tH ds;unfold c7;rw[C]
   rw[z];exact h2
end
section
variable{X:Cx}{a:Expr}{p p2 pos pos2:Pos}
def j5:∀(l:T9)(k:Int),(∀(i:Nat)(v:Value),l[i]?=!v->∃t,v=Value.int (k+(i:Int)) t)->Vals ((List.range l.length).map λ(i:Nat)=>V.int (k+(i:Int))) l
|[],_,_=>.nil|v::l,k,h=>by
  rw[length_cons,List.range_succ_eq_map,List.map_cons,List.map_map];let[t,e]:=h 0 v rfl;refine .cons #[t,by simpa using e] ?_;have:=j5 l (k+1) λi w q=>by let[t,e]:=h (i+1) w (by simpa using q);exact#[t,by rw[e];congr 1;omega]
  have e2:((List.range l.length).map λ(i:Nat)=>V.int (k+1+(i:Int)))=(List.range l.length).map ((λ(i:Nat)=>V.int (k+(i:Int)))∘Nat.succ):=by apply List.map_congr_left;intro i _;show V.int _=V.int _;congr 1;simp;omega
  rw[<-e2];exact this
def  Td(ta:TA):TE:=λσ H Q=>ta σ H λvs H1=>∃j:Int,vs=[.int j]/\vh j/\j<1000000/\∀q,H1 q=none->Q (.ref q) (upd H1 q (.lst ((List.range j.toNat).map λ(i:Nat)=>V.int (i:Int))))
def Fh(hc:X.calm=true)(hg:Gl X "list")(hm:X.mg "list"=none)(U:Gl X "range")(J:X.mg "range"=none)(ha:PA X [a] ta)(hs:starEach [a] X.env=[(false,eval a X.env)]):PE X (.Call (.Name "list" p) [.Call (.Name "range" p2) [a] [] pos2] [] pos) (Td ta):=by
 intro pins s σ H Q I h;refine wpAny_Call_Name_kw (cz I hg hm He (PyProof.Rows.callWith_type1 ?_ rfl rfl));show wpAny _ _ (spliced ((false,eval (.Call (.Name "range" p2) [a] [] pos2) X.env)::[])) _ _ s;refine Calls.spliced_cons (wpAny_Call_Name_kw (cz I U J boot_range (PyProof.Rows.callWith_type1 (bG (ha pos2 pins s σ H _ I h) λus l#[vs,H1,I1,r1,q1]=>?_) (by rw[hs];rfl) rfl)));let[j,rfl,hj,hj2,q]:=q1;let[u,rfl,ru]:=fw r1;let[t,rfl]:=ru;have r:=hj;refine call_range_1 (Calls.spliced_nil ?_);have up:∀d o,l.heap.get? d=!o->(l.heap.push {cls:=.type "range",data:=.fields #[ .int 0 l.toks,.int j t,.int 1 (l.toks+1)]}).get? d=!o:=λd o e=>Um _ e;have I2:Inv X pins σ H1 {l with heap:=l.heap.push {cls:=.type "range",data:=.fields #[ .int 0 l.toks,.int j t,.int 1 _]},toks:=l.toks+1+1}:=I1.kept up;have hn:Builtin.Range.rangeSize 0 j 1=(j.toNat:Nat):=by rw[rangeSize_one];split<;>lia
 refine call_list_range (I1.ok.hd hc) (IsRange.new ..) (small_one (by lia) (by lia) r.1 r.2) hn (by lia) λg tk C c k T hi=>?_;have fr:H1 (l.heap.push {cls:=.type "range",data:=.fields #[ .int 0 l.toks,.int j t,.int 1 _]}).objs.size=none:=I2.hok.fresh (UI _);refine#[.ref _,_,I2.laid (o:=.lst ((List.range j.toNat).map λ(i:Nat)=>V.int (i:Int))) k (UI _) #[?_,C.toList,c,?_,by simpa using T],rfl,q _ fr];.rw[length_map,length_range,sizeLine_eq];lia
 .have:=j5 C.toList 0 λi v e=>by let[t,z]:=hi.2 i v (by rw[<-Array.getElem?_toList];exact e);exact#[t,by rw[z];congr 1;lia]
  rw[Array.length_toList,hi.1]at this;simpa using this
def  P3:Uh->T7:=uR λd=>(j4 d).bind λj=>if vh j/\j<1000000 then !gx 0 j.toNat else none
def Fi(hc:X.calm=true)(U:Gl X "list")(T:X.mg "list"=none)(l:Gl X "range")(g:X.mg "range"=none)(ha:PX X [a] fa)(J:starEach [a] X.env=[(false,eval a X.env)]):PF X (.Call (.Name "list" p) [.Call (.Name "range" p2) [a] [] pos2] [] pos) λY=>(fa Y).bind P3:=λO Y=>(Fh hc U T l g (ha O Y) J).imp λσ H Q#[E,ds,q,k]=>by
 let[as,e1,q]:=UK q;refine#[E,as,e1,λvs H1 o I=>?_];let[c,rfl,C]:=bA q;let[j,t,r]:=UK C;let[h1,h2]:=aj r;subst h2;let[v,rfl,h]:=uS I;cases intD_some t;refine#[j,by rw[show v=.int j from h],h1.1,h1.2,λb hb=>k b _ H1 o hb ?_];have e:gx 0 j.toNat=((List.range j.toNat).map λ(i:Nat)=>(i:Int)).map D.int:=by unfold gx;rw[List.map_map];apply List.map_congr_left;intro i _;simp
 have e2:((List.range j.toNat).map λ(i:Nat)=>V.int (i:Int))=((List.range j.toNat).map λ(i:Nat)=>(i:Int)).map V.int:=by rw[List.map_map];rfl
 rw[e,e2];exact kL _
end
section
variable{X:Cx}{a b:Expr}{p p2 pos pos2:Pos}
def  Jt:Uh->T7:=Et λc d=>(j4 c).bind λi=>(j4 d).bind λj=>if vh i/\vh j/\(j-i).toNat<1000 then !gx i (j-i).toNat else none
def Bz(hc:X.calm=true)(hg:Gl X "list")(hm:X.mg "list"=none)(hg2:Gl X "range")(hm2:X.mg "range"=none)(ha:PX X [a,b] fa)(hs:starEach [a,b] X.env=[(false,eval a X.env),(false,eval b X.env)])(r:starEach [b] X.env=[(false,eval b X.env)]):PF X (.Call (.Name "list" p) [.Call (.Name "range" p2) [a,b] [] pos2] [] pos) λY=>(fa Y).bind Jt:=by
 intro O Y pins s σ H Q I#[E,ds,q,k];let[as,e1,q]:=UK q;refine wpAny_Call_Name_kw (cz I hg hm He (PyProof.Rows.callWith_type1 ?_ rfl rfl));show wpAny _ _ (spliced ((false,eval (.Call (.Name "range" p2) [a,b] [] pos2) X.env)::[])) _ _ s;refine Calls.spliced_cons (wpAny_Call_Name_kw (cz I hg2 hm2 boot_range (PyProof.Rows.callWith_type1 (bG (ha O Y pos2 pins s σ H (λU H1=>Same H H1/\IsL X.K _ as U) I #[E,as,e1,λU H1 l il=>#[l,il]]) λus l#[U,H1,I1,r1,sm,il]=>?_) (by rw[hs,r]) (by rw[r];rfl))));let[c,d,rfl,q2]:=iB q;let[i,q3,q4]:=UK q2;let[j,q5,q6]:=UK q4;let[[hi,hj,hl],h2]:=aj q6;subst h2;cases intD_some q3;cases intD_some q5;let[x,y,rfl,ix,iy]:=KZ il;cases ix;cases iy;let[u,w',rfl,[t,rfl],[t',rfl]]:=sM r1;have J:=hi;have C:=hj;refine call_range_2 (Calls.spliced_nil ?_);have up:∀d o,l.heap.get? d=!o->(l.heap.push {cls:=.type "range",data:=.fields #[ .int i t,.int j t',.int 1 l.toks]}).get? d=!o:=λd o e=>Um _ e;have I2:Inv X pins σ H1 {l with heap:=l.heap.push {cls:=.type "range",data:=.fields #[ .int i t,.int j t',.int 1 l.toks]},toks:=l.toks+1}:=I1.kept up;have hn:Builtin.Range.rangeSize i j 1=((j-i).toNat:Nat):=by rw[rangeSize_one];split<;>lia
 refine call_list_range (I1.ok.hd hc) (IsRange.new ..) (small_one J.1 J.2 C.1 C.2) hn (by lia) λg tk T c k' hgS hi=>?_;have fr:H1 (l.heap.push {cls:=.type "range",data:=.fields #[ .int i t,.int j t',.int 1 l.toks]}).objs.size=none:=I2.hok.fresh (UI _);refine#[.ref _,_,I2.laid (o:=.lst ((List.range (j-i).toNat).map λ(n:Nat)=>V.int (i+(n:Int)))) k' (UI _) #[?_,T.toList,c,?_,by simpa using hgS],rfl,k _ _ _ sm fr ?_];.rw[length_map,length_range,sizeLine_eq];lia
 .have:=j5 T.toList i λn v e=>by let[t,z]:=hi.2 n v (by rw[<-Array.getElem?_toList];exact e);exact#[t,by rw[z];congr 1;lia]
  rw[Array.length_toList,hi.1]at this;exact this
 .have e:gx i (j-i).toNat=((List.range (j-i).toNat).map λ(n:Nat)=>i+(n:Int)).map D.int:=by unfold gx;rw[List.map_map];rfl
  have e2:((List.range (j-i).toNat).map λ(n:Nat)=>V.int (i+(n:Int)))=((List.range (j-i).toNat).map λ(n:Nat)=>i+(n:Int)).map V.int:=by rw[List.map_map];rfl
  rw[e,e2];exact kL _
end
noncomputable def  Mv(k:Nat){α:Type}(l:List α)(x:α):List α:=l.take k++x::l.drop k
def Vals.ins(k:Nat)(r:Vals xs g)(j:RelV y u):Vals (Mv k xs y) (Mv k g u):=(r.take k).append (.cons j (r.drop k))
noncomputable def  Fj(n:Nat)(d:D):Option Nat:=match d with
|.int i=>if 0<=i/\i<=(n:Int)then !i.toNat else none|_=>none
def y9(h:Fj n d=!k):d=.int (k:Int)/\k<=n:=by
 unfold Fj at h;split at h
 .split at h;.cases h;rename_i i c;exact#[by rw[Int.toNat_of_nonneg c.1],by lia]
  .cases h
 .cases h
def PS.ex{X:Cx}{e}{g:Type}{t:g->TS}(h:∀z,PS X e (t z)):PS X e λD σ H=>∃z,t z D σ H:=λpins s σ H D I#[z,q]=>h z pins s σ H D I q
def BA{X:Cx}{st}(is:Ub)(h:PR X st F):PR X st λY=>F (frzS is Y):=λB O Y=>(PS.ex λg=>h B g _).imp λl σ H#[E,out,q,k]=>by let[g,j,le]:=E.frzS is;exact#[g,j,out,q,k.mono le]
noncomputable def  BB(k:Nat){α:Type}(l:List α)(_:α):List α:=l.eraseIdx k
def DeepL.del{K:Frag}{M H:Hp}:∀{ds:Uh}{xs:List V}{A:List Addr}(k:Nat),DeepL K M H ds xs A->∃A',A'.Sublist A/\DeepL K M H (ds.eraseIdx k) (xs.eraseIdx k) A'
|[],xs,A,k,h=>by let[rfl,rfl]:=h;exact#[[],List.Sublist.refl _,#[rfl,rfl]]|d::ds,xs,A,0,#[x,r,A1,A2,e1,e2,g1,g2]=>by subst e1 e2;exact#[A2,List.sublist_append_right _ _,g2]|d::ds,xs,A,k+1,#[x,r,A1,A2,e1,e2,g1,g2]=>by subst e1 e2;let[B,s,q]:=DeepL.del k g2;exact#[A1++B,List.Sublist.append_left s _,#[x,_,A1,B,rfl,rfl,g1,q]]
def IsL.del{K:Frag}{M:Hp}:∀{ds:Uh}{xs:List V}(k:Nat),IsL K M ds xs->IsL K M (ds.eraseIdx k) (xs.eraseIdx k)
|[],xs,k,h=>by cases show xs=[]from h;exact rfl|d::ds,xs,0,#[x,r,e,g1,g2]=>by subst e;exact g2|d::ds,xs,k+1,#[x,r,e,g1,g2]=>by subst e;exact#[x,_,rfl,g1,IsL.del k g2]
def Mw(k:Nat):Op (BB k):=λ{K M H ds xs A p d v}h q j=>by let[o,s,g]:=DeepL.del k h;exact#[o,g,(List.nodup_append.mp j).1.sublist s,λb l=>.inl (s.subset l)]
def DeepL.subT{K}(f:{α:Type}->List α->α->List α)(hf:Ot f)(lc:lfD c=true)(lf:lfD d=true)(hi:Is K M d v):∀{ds:Uh}{xs:List V}{A:List Addr}{j:Nat},DeepL K M H ds xs A->A.Nodup->ds[j]?=!.tup [c,.lst ds2]->∃b u a ys,xs[j]?=!.ref b/\M b=!.tup [u,.ref a]/\a∈A/\H a=!.lst ys/\ds2.length=ys.length/\DeepL K M (upd H a (.lst (f ys v))) (ds.set j (.tup [c,.lst (f ds2 d)])) xs A
|[],xs,A,j,h,nd,e=>by simp at e|d0::ds,xs,A,0,#[x,r,A1,A2,e1,e2,h1,h2],nd,e=>by
  simp at e;subst e;let[b,ts,z1,z2,l]:=h1;let[u,r2,B1,B2,y1,y2,l1,l2]:=l;have hB1:B1=[]:=Deep.lf c u B1 lc l1;let[x3,r3,C1,C2,w1,w2,l3,l4]:=l2;let[l5,l6]:=l4;subst l5 l6 hB1;let[a,ys,A',g1,g2,g3,l]:=l3;subst z1 e1 g1 w1 y1;have z3:M b=!.tup [u,.ref a]:=by
   rcases z2 with z2|⟨z2,_⟩;.exact z2
   .have:(lfD c&&(lfD (.lst ds2)&&true))=true:=z2;rw[and_eq_true]at this;exact absurd this.2 (by show¬(false&&true)=true;decide)
  have hA1:A1=a::A':=by rw[y2,w2,g3];simp
  subst e2 hA1;have n1:a∉A'/\a∉A2:=by have:=(List.nodup_cons.mp (show(a::(A'++A2)).Nodup from nd)).1;simp at this;exact this
  have fr:∀(L:List Addr),a∉L->∀b∈L,∀o,H b=!o->upd H a (.lst (f ys v)) b=!o:=λL n b hb o q=>by rw[af (show b≠a fromλz=>n (z▸hb))];exact q
  refine#[b,u,a,ys,rfl,z3,by simp,g2,DeepL.len l,_,_,a::A',A2,rfl,rfl,#[b,_,rfl,.inl z3,u,[.ref a],[],a::A',rfl,rfl,Deep.frame (NL.of (Same.refl _)) _ _ _ (!28) l1,.ref a,[],a::A',[],rfl,by simp,#[a,f ys v,A',rfl,ah,rfl,?_],rfl,rfl],DeepL.frame (NL.of (Same.refl _)) _ _ _ (fr A2 n1.2) h2];exact hf (DeepL.frame (NL.of (Same.refl _)) _ _ _ (fr A' n1.1) l) (Is.deep d v lf hi)|d0::ds,xs,A,j+1,#[x,r,A1,A2,e1,e2,h1,h2],nd,e=>by subst e1 e2;let[n1,n2,n3]:=List.nodup_append.mp nd;let[b,u,a,ys,f0,f1,f2,f3,f4,f5]:=DeepL.subT f hf lc lf hi h2 n2 (show ds[j]?=some (.tup [c,.lst ds2])by simpa using e);have na:a∉A1:=λz=>n3 a z a f2 rfl;refine#[b,u,a,ys,by simpa using f0,f1,UD _ f2,f3,f4,x,r,A1,A2,rfl,rfl,Deep.frame (NL.of (Same.refl _)) _ _ _ (λb hb o q=>?_) h1,f5];rw[af (show b≠a fromλz=>na (z▸hb))];exact q
def EnvOk.changeT{K:Frag}{B:Bs}{O:Ue}{σ:St}{H:Hp}{Y:Ev}(E:EnvOk K B O σ H Y)(f:{α:Type}->List α->α->List α)(hf:Ot f){i j:Nat}(h:Y[i]?=!!(.deep,.lst ds))(hj:ds[j]?=!.tup [c,.lst r])(lc:lfD c=true)(lf:lfD d=true)(hi:Is K (msk O H) d v):∃a xs b u g ys,σ[i]?=!!33/\H a=!.lst xs/\ds.length=xs.length/\xs[j]?=!.ref b/\H b=!.tup [u,.ref g]/\H g=!.lst ys/\r.length=ys.length/\EnvOk K B O σ (upd H g (.lst (f ys v))) (Y.set i !(.deep,.lst (ds.set j (.tup [c,.lst (f r d)]))))/\Same (msk O H) (msk O (upd H g (.lst (f ys v)))):=by
 let[F,h1,h2,h3,h4]:=E.fp;let[v0,e0,o0]:=h1 i _ h;let[a,xs,A',z1,t,C,l]:=o0;subst z1;have U:=h2 i;rw[C]at U;let[nA,J]:=List.nodup_cons.mp U;let[b,u,g,ys,f0,f1,f2,f3,f4,f5]:=DeepL.subT f hf lc lf hi l J hj;have p:g∈F i:=by rw[C];exact Uu _ f2
 let[o2,b2]:=h4 i g p;have me:msk O (upd H g (.lst (f ys v)))=msk O H:=fy o2;have le:Same (msk O H) (msk O (upd H g (.lst (f ys v)))):=by rw[me];exact Same.refl _
 have ne:a≠g:=λz=>nA (z▸f2);refine#[a,xs,b,u,g,ys,e0,t,DeepL.len l,f0,msk_le _ _ f1,f3,f4,#[λb o q=>?_,E.bdom,E.sub,λb T=>?_,by rw[List.length_set];exact E.len,F,λk s q=>?_,h2,h3,h4],le];.rw[af (aq q b2)];exact E.same b o q
 .by_cases e:b=g;.subst e;exact .inl #[_,ah]
  .rw[af e];exact E.lis b T
 .rcases get_set_some q with⟨e,I⟩|⟨e,I⟩;.cases I;subst e;refine#[.ref a,e0,a,xs,A',rfl,by rw[af ne];exact t,C,?_];rw[me];exact f5
  .let[w,e1,o1]:=h1 k s I;refine#[w,e1,o1.frame le λb T o z=>?_];have:b≠g:=λt=>e (h3 k i g (t▸T) p);rw[af this];exact z
def  tM(ds:Uh):Option (Nat×D×List D):=if ds.isEmpty=true then none else match ds[ds.length-1]?with
|some (.tup [c,.lst ds2])=>if lfD c=true then !(ds.length-1,c,ds2)else none|_=>none
def vM{ds:Uh}{m:Nat}{c:D}{g:Uh}(h:tM ds=!(m,c,g)):ds.length=m+1/\ds[m]?=!.tup [c,.lst g]/\lfD c=true:=by
 unfold tM at h;split at h;.cases h
 .rename_i ne;split at h;.rename_i I j r;let[C,z]:=aj h;have t:(ds.length-1,I,j)=(m,c,g):=z;injection t with p l;injection l with l o;subst p l o;refine#[?_,r,C];cases ds with
|nil=>exact absurd rfl ne|cons _ _=>simp
  .cases h
def  zc(i j:Nat)(R:TY):TZ:=λY=>(nO Y i).bind λds=>(tM ds).bind λw=>(nO Y j).bind λes=>(R (vw Y)).bind λy=>(Fj es.length y).bind λk=>(es[k]?).bind λd=>if i≠j/\lfD d=true/\es.length<big/\w.2.2.length+1<big then !.nx ((Y.set j !(.deep,.lst (es.eraseIdx k))).set i !(.deep,.lst (ds.set w.1 (.tup [w.2.1,.lst (w.2.2++[d])]))))else none
def n5(h:nO Y i=!ds):Y[i]?=!!(.deep,.lst ds):=by let[[c,o],l,p2]:=UK h;let[j,g]:=aj p2;subst j g;exact(cK l).1
def Ju{X:Cx}{e:Expr}{pos:Pos}(i j:Nat){x y:Str}{px py sp1 sp2 apos cpos r p:Pos}{k1 k2:Expr}{R}(h:PP X e R)(hk1:PP X k1 λ_=>!.int (-1))(hk2:PP X k2 λ_=>!.int 1)(hx1:cU k1)(hx2:cU k2)(hN:X.N[i]?=!x)(hv:oQ X.env.scope x)(hd:(!5)=false)(hcd:(!15)=false)(hN2:X.N[j]?=!y)(hv2:oQ X.env.scope y)(hd2:(y==("__debug__":Str))=false)(hcd2:(y==("__classdict__":Str))=false)(U:starEach [e] X.env=(false,eval e X.env)::starEach [] X.env)(hline:(apos.endLine==cpos.line)=true)(t:(r.endLine==p.line)=true):PR X (.Expr (.Call (.Attribute (.Subscript (.Subscript (.Name x px) k1 sp1) k2 sp2) "append" apos) [.Call (.Attribute (.Name y py) "pop" r) [e] [] p] [] cpos) pos) (zc i j R):=λB O Y=>(fu (kl PySem.F.plainAttrs_list PySem.F.slot_list_append PySem.F.type_list_append jb (pQ ix_tup (pQ ix_list (bH hN hv hd hcd) (hk1 ku (vw Y)) hx1) (hk2 ku (vw Y)) hx2) (bi (kl PySem.F.plainAttrs_list PySem.F.slot_list_pop PySem.F.type_list_pop Ao (bH hN2 hv2 hd2 hcd2) (bi (h ku (vw Y)) pa_nil U) rfl (by rw[U];rfl) t U rfl) pa_nil rfl) rfl rfl hline rfl rfl)).imp λEn σ H#[E,o,q,k]=>by
 let[ds,q1,q]:=UK q;let[[m,c,ds2],q2,q]:=UK q;let[es,q3,q]:=UK q;let[yd,q4,q]:=UK q;let[n,q5,q]:=UK q;let[d,q6,q]:=UK q;let[[nij,ld,hz1,T],q]:=aj q;subst q;have h0:=n5 q1;have C:=n5 q3;let[hm,hjm,lc]:=vM q2;let[ey,hn]:=y9 q5;subst ey;have T:ds2.length+1<big:=T;have hne:j≠i:=λz=>nij z.symm;let[a,xs,b,u,a2,ys,g1,g2,g3,g4,g5,g6,g7,_]:=E.changeT iG Bj (d:=.non) (v:=.non) h0 hjm lc rfl rfl;refine#[.ref a,g1,E.view,_,rfl,λyv H1 s1 iy=>?_];cases show yv=.int (-1)from iy;have E1:=E.grow s1;refine#[a,xs,-1,.ref b,rfl,rfl,SqL.of (s1 _ _ g2),?_,E1.view,_,rfl,λyv2 H2 s2 iy2=>?_]
 .have e:yE xs.length (-1)=!m:=by
   unfold yE;rw[if_neg !2,<-g3,hm,if_pos (by lia)];congr 1;lia
  unfold oR;rw[e];exact g4
 cases show yv2=.int 1 from iy2;have E2:=E1.grow s2;have J:=s1.trans s2;refine#[b,[u,.ref a2],1,.ref a2,rfl,rfl,SqT.of (J _ _ g5),rfl,.inl #[rfl,_,SqL.of (J _ _ g6)],?_];let[l,zs,e1,e2,hl,ol,bl]:=E2.ownAt C !2;refine#[.ref l,e1,.inl #[rfl,_,SqL.of e2],E2.view,_,q4,λyv3 H3 s3 iy3=>?_];cases show yv3=.int (n:Int)from iy3;have E3:=E2.grow s3;have I:=J.trans s3;have E4:=E3.moreS (d:=.int (n:Int)) (v:=.int (n:Int)) rfl;have ex:extS (.int (n:Int))=(.deep,.int (n:Int)):=rfl;rw[ex]at E4;let[l',g,f1,f2,f3,O5,E5,s5]:=E4.change (BB n) (Mw n) ((λk=>λh _=>IsL.del k h) n) C !2;rw[e1]at f1;cases f1;have hb:big<2^63:=by rw[<-eQ];decide
 have hn1:n<g.length:=by rw[<-f3];exact(Us.mp q6).1
 have hn2:g.length<big:=by rw[<-f3];exact hz1
 have iv:Is X.K H3 d g[n]:=by
  let[F,h1,_]:=E3.fp;let[w,w1,a',xs',A',z1,z2,z3,lD]:=h1 j _ C;rw[e1]at w1;cases w1;cases z1;rw[f2]at z2;cases z2;let[x',x1,x2]:=(DeepL.is (M':=H3) (NL.of msk_le) es g A' (λ_ _ _ h=>h) lD).get q6;rw[getElem?_eq_getElem hn1]at x1;cases x1;exact x2
 have nc:newCat Cat.deep (Cat.deep,D.int (n:Int))=.deep:=rfl;rw[nc]at E5;have hi5:(Y.set j !(Cat.deep,D.lst (BB n es (.int (n:Int)))))[i]?=!!(.deep,.lst ds):=by rw[List.getElem?_set_ne hne];exact h0
 have iv5:Is X.K (msk O5 (upd H3 l (.lst (BB n g (.int (n:Int)))))) d g[n]:=by
  refine Is.nl (NL.trans (λc o hc hh=>?_) E5.nl) d _ ld iv;have:c≠l:=λz=>by
   subst z;rw[f2]at hc;cases hc;exact hh (.inl #[_,rfl])
  rw[af this];exact hc
 let[a',xs',b',u',a2',ys',k1,k2,k3,k4,k5,k6,k7,k8,k9]:=E5.changeT iG Bj hi5 hjm lc ld iv5;rw[g1]at k1;cases k1;have nal:a≠l:=λz=>by
  subst z;let[F,h1,_,h3,_]:=E.fp;let[w,w1,a',xs',A',z1,z2,z3,_]:=h1 i _ h0;let[w',w1',a'',xs'',A'',z1',z2',z3',_]:=h1 j _ C;rw[g1]at w1;cases w1;cases z1;rw[e1]at w1';cases w1';cases z1';exact hne (h3 j i a (by rw[z3'];exact Ut) (by rw[z3];exact Ut))
 have e5:∀c o,c≠l->H c=!o->upd H3 l (.lst (BB n g (.int (n:Int)))) c=!o:=λc o hc q=>by rw[af hc];exact I _ _ q
 have x1:=e5 a _ nal g2;rw[x1]at k2;cases k2;rw[g4]at k4;cases k4;have nbl:b≠l:=λz=>by subst z;have:=I _ _ g5;rw[f2]at this;cases this
 rw[(e5 b _ nbl g5)]at k5;cases k5;refine#[l,g,_,n,g[n],rfl,rfl,f2,by lia,by lia,PySem.StrLaws.seqIndex_nonneg (by lia) (by lia),getElem?_eq_getElem hn1,?_];exact#[a2,ys',g[n],rfl,rfl,k6,by rw[eQ,<-k7];exact Nat.lt_of_succ_lt T,k σ _ O5 (I.msk.trans (s5.trans k9)) k8]
end L2
namespace L2
open PySem PySem.Spec PyProof.Rows
section
variable{K:Frag}{M H:Hp}
def Hg{d:D}(n:lfD d=false):∀{ds:Uh}{j:Nat},ds[j]?=!d->dS ds=false:=by intro ds;induction ds with
|nil=>intro j h;simp at h|cons x r g=>intro j h;show(lfD x&&dS r)=false;cases j with
|zero=>simp at h;subst h;rw[n,Bool.false_and]|succ j=>rw[g (show r[j]?=some d by simpa using h),Bool.and_false]
def DeepL.zoomX{d:D}:∀{ds:Uh}{xs:List V}{A:List Addr}{j:Nat},DeepL K M H ds xs A->A.Nodup->ds[j]?=!d->∃v A1,xs[j]?=!v/\Deep K M H d v A1/\(∀c∈A1,c∈A)/\A1.Nodup/\∀(H':Hp)d' A1' Z,(∀c∈A,c∉A1->H' c=H c)->A1'.Perm (A1++Z)->Deep K M H' d' v A1'->∃A',A'.Perm (A++Z)/\DeepL K M H' (ds.set j d') xs A'
|[],xs,A,j,h,nd,e=>by simp at e|d0::ds,xs,A,0,#[x,r,A1,A2,e1,e2,h1,h2],nd,e=>by
  simp at e;subst e e1 e2;let[n1,n2,n3]:=List.nodup_append.mp nd;refine#[x,A1,rfl,h1,λc h=>UC _ h,n1,λH' d' A1' Z fr p q=>#[A1'++A2,?_,x,r,A1',A2,rfl,rfl,q,DeepL.frame (NL.of (Same.refl _)) _ _ _ (λb hb o z=>?_) h2]];.refine(p.append_right _).trans ?_;rw[List.append_assoc,List.append_assoc];exact(List.perm_append_comm).append_left _
  .rw[fr b (mem_append_right _ hb) λz2=>n3 b z2 b hb rfl];exact z|d0::ds,xs,A,j+1,#[x,r,A1,A2,e1,e2,h1,h2],nd,e=>by subst e1 e2;let[n1,n2,n3]:=List.nodup_append.mp nd;let[v,B1,f1,f2,f3,f4,f5]:=DeepL.zoomX h2 n2 (show ds[j]?=some d by simpa using e);refine#[v,B1,by simpa using f1,f2,λc h=>UD _ (f3 c h),f4,λH' d' A1' Z fr p q=>?_];let[A',p',q']:=f5 H' d' A1' Z (λc hc=>fr c (UD _ hc)) p q;refine#[A1++A',by rw[List.append_assoc];exact p'.append_left _,x,r,A1,A',rfl,rfl,Deep.frame (NL.of (Same.refl _)) _ _ _ (λb hb o z=>?_) h1,q'];rw[fr b (mem_append_left _ hb) λz2=>n3 b hb b (f3 b z2) rfl];exact z
def  Zx(K:Frag)(M H:Hp)(v:V)(A:List Addr)(d2:D)(v2:V)(A2:List Addr)(put:D->D):Prop:=Deep K M H d2 v2 A2/\(∀c∈A2,c∈A)/\A2.Nodup/\∀(H':Hp)d' A' Z,(∀c∈A,c∉A2->H' c=H c)->A'.Perm (A2++Z)->Deep K M H' d' v2 A'->∃A'',A''.Perm (A++Z)/\Deep K M H' (put d') v A''
def Zx.trans{v t r:V}{A U T:List Addr}{d2 C:D}{p q:D->D}(h1:Zx K M H v A d2 t U p)(h2:Zx K M H t U C r T q):Zx K M H v A C r T λy=>p (q y):=by let[_,J,c1,k1]:=h1;let[a2,I,c2,k2]:=h2;refine#[a2,λc h=>J c (I c h),c2,λH' d' A' Z fr p q=>?_];let[o,j,g]:=k2 H' d' A' Z (λc l=>fr c (J c l)) p q;exact k1 H' _ o Z (λc l hn=>fr c l λz=>hn (I c z)) j g
def Zx.lst{v:V}{A:List Addr}{ds:Uh}{j:Nat}{J:D}(h:Deep K M H (.lst ds) v A)(nd:A.Nodup)(hj:ds[j]?=!J):∃a xs o r,v=.ref a/\H a=!.lst xs/\ds.length=xs.length/\xs[j]?=!o/\a∉r/\Zx K M H v A J o r λy=>.lst (ds.set j y):=by
 let[a,xs,A',e1,I,e3,l]:=h;subst e1 e3;let[C,n2]:=List.nodup_cons.mp nd;let[o,r,f1,f2,t,f4,f5]:=DeepL.zoomX l n2 hj;refine#[a,xs,o,r,rfl,I,DeepL.len l,f1,λz=>C (t a z),f2,λc h=>Uu _ (t c h),f4,λH' d' A1 Z fr p q=>?_];let[g,U,T]:=f5 H' d' A1 Z (λc hc=>fr c (Uu _ hc)) p q;exact#[a::g,U.cons _,a,xs,g,rfl,(fr a (Ut ..) λz=>C (t a z)).trans I,rfl,T]
def Zx.tup{v:V}{A:List Addr}{ds:Uh}{j:Nat}{o:D}(le:Same M H)(h:Deep K M H (.tup ds) v A)(U:A.Nodup)(C:ds[j]?=!o)(nl:lfD o=false):∃a xs g r,v=.ref a/\H a=!.tup xs/\ds.length=xs.length/\xs[j]?=!g/\Zx K M H v A o g r λy=>.tup (ds.set j y):=by
 let[a,xs,e1,e2,l]:=h;subst e1;have I:M a=!.tup xs:=by
  rcases e2 with e|e;.exact e
  .rw[Hg nl C]at e;cases e.1
 let[g,r,f1,f2,f3,f4,f5]:=DeepL.zoomX l U C;refine#[a,xs,g,r,rfl,le _ _ I,DeepL.len l,f1,f2,f3,f4,λH' d' A1 Z fr p q=>?_];let[t,T,J]:=f5 H' d' A1 Z fr p q;exact#[t,T,a,xs,rfl,.inl I,J]
def Zx.push{v t:V}{A A2 Z:List Addr}{cs:Uh}{put:D->D}(z:Zx K M H v A (.lst cs) t A2 put){d:D}{u:V}(hd:Deep K M H d u Z)(T:∀c∈A,c∉Z):∃g ys,t=.ref g/\H g=!.lst ys/\cs.length=ys.length/\g∈A/\∃j,j.Perm (A++Z)/\Deep K M (upd H g (.lst (ys++[u]))) (put (.lst (cs++[d]))) v j:=by
 let[[g,ys,I,e1,e2,e3,l],J,U,k]:=z;subst e1 e3;let[n1,n2]:=List.nodup_cons.mp U;have C:=J _ (Ut ..);refine#[g,ys,rfl,e2,DeepL.len l,C,k _ _ (g::(I++Z)) Z (λc _ hc=>af λz=>hc (z▸Ut ..)) (List.Perm.refl _) #[g,ys++[u],I++Z,rfl,ah,rfl,DeepL.snoc (Deep.frame (NL.of (Same.refl _)) _ _ _ (λb r o z=>?_) hd) (DeepL.frame (NL.of (Same.refl _)) _ _ _ (λb r o z=>?_) l)]];.rw[af (show b≠g fromλp=>T g C (p▸r))];exact z
 .rw[af (show b≠g fromλp=>n1 (p▸r))];exact z
end
section
variable{K:Frag}{B:Bs}{O:Ue}{σ:St}{H:Hp}{Y:Ev}
def EnvOk.handA(E:EnvOk K B O σ H Y){j:Nat}{s:Sl}(h:Y[j]?=!!s):∃v A,σ[j]?=!!v/\OwnC K O H s.1 s.2 v A/\A.Nodup/\∀(t:Sl)(r:V)(l:List Addr),OwnC K O H t.1 t.2 r l->l.Nodup->(∀a∈l,a∈A)->EnvOk K B O (σ++[!r]) H (Y.set j none++[!t]):=by
 let[F,h1,h2,C,h4]:=E.fp;let[v,e,o]:=h1 j s h;have hl:=E.len;refine#[v,F j,e,o,h2 j,λt r l o2 nd U=>#[E.same,E.bdom,E.sub,E.lis,by rw[length_append,length_append,List.length_set,hl];rfl,λi=>if i=Y.length then l else if i=j then[]else F i,λi s' q=>?_,λi=>?_,λi k a g hb=>?_,λi a g=>?_]]
 .by_cases c:i=Y.length;.subst c;dsimp only;rw[if_pos rfl];rw[getElem?_append_right (by rw[List.length_set];exact UI _),List.length_set,Nat.sub_self]at q;cases q;exact#[r,by rw[<-hl,getElem?_append_right (le_refl _),Nat.sub_self];rfl,o2]
  .have hi:i<Y.length:=by
    rcases Nat.lt_or_ge i (Y.length+1)with c'|c';.lia
    .rw[List.getElem?_eq_none (by rw[length_append,List.length_set];exact c')]at q;cases q
   rw[getElem?_append_left (by rw[List.length_set];exact hi)]at q;by_cases I:i=j;.subst I;rw[List.getElem?_set_self hi]at q;cases q
   .rw[List.getElem?_set_ne λz=>I z.symm]at q;let[w,e1,o1]:=h1 i s' q;dsimp only;rw[if_neg c,if_neg I];exact#[w,by rw[getElem?_append_left (by lia)];exact e1,o1]
 .show(if _ then _ else _:List Addr).Nodup;split;.exact nd
  .split;.exact List.nodup_nil
   .exact h2 i
 .have key:∀n,a∈(if n=Y.length then l else if n=j then[]else F n)->n=Y.length/\a∈F j\/n≠j/\n≠Y.length/\a∈F n:=λn p=>by
   split at p;.rename_i c;exact .inl #[c,U a p]
   .rename_i c;split at p;.cases p
    .rename_i c2;exact .inr #[c2,c,p]
  rcases key i g with⟨T,a2⟩|⟨T,a2,a3⟩<;>rcases key k hb with⟨J,b2⟩|⟨J,b2,b3⟩;.rw[T,J]
  .exact absurd (C k j a b3 a2) J
  .exact absurd (C i j a a3 b2) T
  .exact C i k a a3 b3
 .dsimp only at g;split at g;.exact h4 j a (U a g)
  .split at g;.cases g
   .exact h4 i a g
def EnvOk.tup3{v0 v1 g:V}{J I d2:D}(E:EnvOk K B O (σ++[!v1]++[!g]) H (Y++[!(.deep,I)]++[!(.deep,d2)]))(lf:lfD J=true)(i0:Is K (msk O H) J v0){p:Addr}(T:H p=none):EnvOk K B O (σ++[!.ref p]) (upd H p (.tup [v0,v1,g])) (Y++[!(.deep,.tup [J,I,d2])])/\Same (msk O H) (msk O (upd H p (.tup [v0,v1,g]))):=by
 let[F,h1,h2,h3,h4]:=E.fp;have C:σ.length=Y.length:=by have:=E.len;simp at this;omega
 have hO:O p=false:=E.fresh T;have sn:Same H (upd H p (.tup [v0,v1,g])):=Same.new T;have le:Same (msk O H) (msk O (upd H p (.tup [v0,v1,g]))):=by rw[ko hO];exact Same.new (by rw[aH hO];exact T)
 let[w1,e1,o1]:=h1 Y.length (.deep,I) (by rw[List.append_assoc,getElem?_append_right (le_refl _),Nat.sub_self];rfl);let[w2,e2,o2]:=h1 (Y.length+1) (.deep,d2) (by rw[getElem?_append_right (by simp),show Y.length+1-(Y++[!(Cat.deep,I)]).length=0 by simp];rfl);rw[<-C,List.append_assoc,getElem?_append_right (le_refl _),Nat.sub_self]at e1;rw[<-C,getElem?_append_right (by simp),show σ.length+1-(σ++[!v1]).length=0 by simp]at e2;cases e1;cases e2;refine#[#[E.same.trans sn,E.bdom,E.sub,λb t=>(E.lis b t).same sn,by rw[length_append,length_append,C];rfl,λk=>if k=Y.length then F Y.length++F (Y.length+1)else if k=Y.length+1 then[]else F k,λk s q=>?_,λk=>?_,λj k a l t=>?_,λk a l=>?_],le]
 .by_cases c:k=Y.length;.subst c;rw[getElem?_append_right (le_refl _),Nat.sub_self]at q;cases q;dsimp only;rw[if_pos rfl];refine#[.ref p,by rw[<-C,getElem?_append_right (le_refl _),Nat.sub_self];rfl,?_];have fr:∀{d:D}{v:V}{A:List Addr},Deep K (msk O H) H d v A->Deep K (msk O (upd H p (.tup [v0,v1,g]))) (upd H p (.tup [v0,v1,g])) d v A:=λh=>Deep.frame (NL.of le) _ _ _ (λa _ o z=>sn _ _ z) h;refine#[p,[v0,v1,g],rfl,.inl (by rw[aH hO,ah]),v0,[v1,g],[],F Y.length++F (Y.length+1),rfl,rfl,fr (Is.deep J v0 lf i0),v1,[g],F Y.length,F (Y.length+1),rfl,rfl,fr o1,g,[],F (Y.length+1),[],rfl,(List.append_nil _).symm,fr o2,rfl,rfl]
  .have hi:k<Y.length:=by
    rcases Nat.lt_or_ge k (Y.length+1)with c'|c';.lia
    .rw[List.getElem?_eq_none (by rw[length_append];exact c')]at q;cases q
   rw[getElem?_append_left hi]at q;let[w,e3,o3]:=h1 k s (by rw[List.append_assoc,getElem?_append_left hi];exact q);rw[List.append_assoc,getElem?_append_left (by lia)]at e3;dsimp only;rw[if_neg c,if_neg (by lia)];exact#[w,by rw[getElem?_append_left (by lia)];exact e3,o3.frame le λa _ o z=>sn _ _ z]
 .show(if _ then _ else _:List Addr).Nodup;split;.exact List.nodup_append.mpr #[h2 _,h2 _,λa l b t z=>absurd (h3 _ _ a l (z▸t)) (by lia)]
  .split;.exact List.nodup_nil
   .exact h2 k
 .have key:∀n,a∈(if n=Y.length then F Y.length++F (Y.length+1)else if n=Y.length+1 then[]else F n)->∃m,a∈F m/\(m=n\/n=Y.length/\m=Y.length+1)/\n≠Y.length+1:=λn r=>by
   split at r
   .rename_i c;rcases mem_append.mp r with z|z;.exact#[_,z,.inl c.symm,by lia]
    .exact#[_,z,.inr #[c,rfl],by lia]
   .split at r;.cases r
    .exact#[_,r,.inl rfl,by assumption]
  let[m,hm,c1,c3]:=key j l;let[m',U,c2,c4]:=key k t;have:=h3 m m' a hm U;lia
 .dsimp only at l;split at l
  .rcases mem_append.mp l with z|z;.exact h4 _ a z
   .exact h4 _ a z
  .split at l;.cases l
   .exact h4 k a l
def EnvOk.zoomX{u:V}{d:D}(E:EnvOk K B O (σ++[!u]) H (Y++[!(.deep,d)])){i:Nat}{d0:D}(h:Y[i]?=!!(.deep,d0)):∃v A Z,σ[i]?=!!v/\Deep K (msk O H) H d0 v A/\Deep K (msk O H) H d u Z/\A.Nodup/\(∀c∈A,c∉Z)/\∀r g d' T,r∈A->T.Perm (A++Z)->Deep K (msk O H) (upd H r (.lst g)) d' v T->EnvOk K B O σ (upd H r (.lst g)) (Y.set i !(.deep,d'))/\Same (msk O H) (msk O (upd H r (.lst g))):=by
 let[F,h1,h2,h3,h4]:=E.fp;have hl:σ.length=Y.length:=by have:=E.len;simp at this;exact this
 have hil:i<Y.length:=(Us.mp h).1;let[v,e0,o0]:=h1 i _ (by rw[getElem?_append_left hil];exact h);let[w,e1,o1]:=h1 Y.length _ (getElem?_last _ _);rw[<-hl,getElem?_last]at e1;cases e1;have J:σ[i]?=!!v:=cJ (by lia) e0;have dj:∀c∈F i,c∉F Y.length:=λc hc z=>absurd (h3 _ _ c hc z) (by lia);refine#[v,F i,F Y.length,J,o0,o1,h2 i,dj,λr g d' T I p q=>?_];let[o2,b2]:=h4 i r I;have me:msk O (upd H r (.lst g))=msk O H:=fy o2;have le:Same (msk O H) (msk O (upd H r (.lst g))):=by rw[me];exact Same.refl _
 have t:∀k a,a∈(if k=i then T else if k=Y.length then[]else F k)->∃m,a∈F m/\(m=k\/k=i/\m=Y.length)/\k≠Y.length:=λk a l=>by
  split at l
  .rename_i c;rcases mem_append.mp (p.mem_iff.mp l)with z|z;.exact#[_,z,.inl c.symm,by lia]
   .exact#[_,z,.inr #[c,rfl],by lia]
  .split at l;.cases l
   .exact#[_,l,.inl rfl,by assumption]
 refine#[#[λc o q=>?_,E.bdom,E.sub,λc C=>?_,by rw[List.length_set];exact hl,λk=>if k=i then T else if k=Y.length then[]else F k,λk s q'=>?_,λk=>?_,λj k a hj l=>?_,λk a l=>?_],le];.rw[af (aq q b2)];exact E.same c o q
 .by_cases e:c=r;.subst e;exact .inl #[_,ah]
  .rw[af e];exact E.lis c C
 .rcases get_set_some q' with⟨e,U⟩|⟨e,U⟩;.cases U;subst e;refine#[v,J,?_];dsimp only;rw[if_pos rfl];show Deep K _ _ _ _ _;rw[me];exact q
  .have l:k<Y.length:=(Us.mp U).1;let[w,e1,o1]:=h1 k s (by rw[getElem?_append_left l];exact U);refine#[w,cJ (by lia) e1,?_];dsimp only;rw[if_neg e,if_neg (by lia)];refine o1.frame le λc C o z=>?_;have:c≠r:=λz2=>e (h3 k i r (z2▸C) I);rw[af this];exact z
 .dsimp only;split;.exact p.nodup_iff.mpr (List.nodup_append.mpr #[h2 _,h2 _,λa ha b C z=>dj a ha (z▸C)])
  .split;.exact List.nodup_nil
   .exact h2 k
 .let[m,hm,c1,c3]:=t j a hj;let[m',hm',c2,c4]:=t k a l;have:=h3 m m' a hm hm';lia
 .let[m,hm,_]:=t k a l;exact h4 m a hm
def EnvOk.forget(E:EnvOk K B O σ H Y)(i:Nat):EnvOk K B O σ H (Y.set i none)where
 same:=E.same;bdom:=E.bdom;sub:=E.sub;lis:=E.lis;len:=by rw[List.length_set];exact E.len
 fp:=by
  let[F,h1,h2,o,l]:=E.fp;refine#[F,λj s q=>?_,h2,o,l];rcases get_set_some q with⟨e,g⟩|⟨e,g⟩;.cases g
  .exact h1 j s g
end
noncomputable def  BC(k:Nat):Sl->Uj
|(.deep,.tup ds)=>(ds[k]?).bind λd=>if lfD d=false then !d else none|_=>none
def vN{k:Nat}{s:Sl}{d:D}(h:BC k s=!d):∃ds,s=(.deep,.tup ds)/\ds[k]?=!d/\lfD d=false:=by
 unfold BC at h;split at h;.let[l,h1,h2]:=UK h;let[j,g]:=aj h2;subst g;exact#[_,rfl,h1,j]
 .cases h
def  zd(j k:Nat):T2:=λY=>(d8 Y j).bind λs=>(BC k s).bind λd=>!((.deep,d),Y.set j none)
def vO{α:Type}{xs:List α}{k:Nat}{v:α}(h:xs[k]?=!v):oR xs (k:Int)=!v:=by have g:=(Us.mp h).1;unfold oR yE;rw[if_pos (by lia),if_pos (by lia),Option.bind_some,Int.toNat_natCast];exact h
def Mx{X:Cx}(j k:Nat){y:Str}{py sp:Pos}{o:Expr}(hk:PP X o λ_=>!.int (k:Int))(hx:cU o)(hN:X.N[j]?=!y)(hv:oQ X.env.scope y)(hd:(y==("__debug__":Str))=false)(p:(y==("__classdict__":Str))=false):qc X (.Subscript (.Name y py) o sp) (zd j k):=λB O Y=>PE.pu ((pQ ix_tup (bH hN hv hd p) (hk ku (vw Y)) hx).imp λσ H Q#[E,s,Y',q,kk]=>by
 let[s0,T,q]:=UK q;let[d,J,q]:=UK q;cases q;let[ds,rfl,h1,nl]:=vN J;let[v,A,e0,U,nd,mk]:=E.handA (slAt_some T);let[a,xs,g,A2,rfl,f1,f2,f3,C,t,r,_]:=Zx.tup msk_le (show Deep X.K (msk O H) H (.tup ds) v A from U) nd h1 nl;refine#[.ref a,e0,E.view,_,rfl,λI H1 l iy=>?_];cases show I=.int (k:Int)from iy;exact#[a,xs,(k:Int),g,rfl,rfl,SqT.of (l _ _ f1),vO f3,kk g H1 O l.msk ((mk (.deep,d) g A2 C r t).grow l)]) rfl
def  BD(Y:Ev)(j:Nat):Uj:=(d8 Y j).bind λs=>match s with
|(.deep,d)=>!d|_=>none
def ownD_some{Y:Ev}{j:Nat}{d:D}(h:BD Y j=!d):Y[j]?=!!(.deep,d):=by
 let[s,h1,h2]:=UK h;split at h2;.cases h2;exact slAt_some h1
 .cases h2
def  ze(R:TY)(g:T2)(j:Nat):T2:=λY=>(nJ (R (vw Y))).bind λd0=>(g Y).bind λz=>(BD z.2 j).bind λd2=>if z.1.1=.deep/\j<z.2.length then !((.deep,.tup [d0,z.1.2,d2]),z.2.set j none)else none
def My{X:Cx}{pos:Pos}{J r:Expr}{z:Str}{t:Pos}{x1:Nat}{R g}(j:Nat)(h0:PP X J R)(h1:qc X r g)(hN:X.N[j]?=!z)(hv:oQ X.env.scope z)(hd:(z==("__debug__":Str))=false)(hcd:(z==("__classdict__":Str))=false)(s0:starEach [J,r,.Name z t] X.env=(false,eval J X.env)::starEach [r,.Name z t] X.env)(s1:starEach [r,.Name z t] X.env=(false,eval r X.env)::starEach [.Name z t] X.env):qc X (.Tuple [J,r,.Name z t] x1 pos) (ze R g j):=λB O Y=>PE.pu ((qJ (bi (h0 ku (vw Y)) (bi (h1 B O Y).1 (bi (bH hN hv hd hcd) pa_nil rfl) s1) s0)).imp λσ H Q#[E,s,Y',q,kk]=>by
 let[d0,q0,q]:=UK q;let[[[c1,d1],l],q1,q]:=UK q;let[d2,q2,q]:=UK q;let[[hc,I],q]:=aj q;cases q;cases show c1=.deep from hc;have I:j<l.length:=I;let[o,q00,q01]:=UK q0;let[lf,U]:=aj q01;subst U;refine#[E.view,o,q00,λv0 H0 T i0=>#[E.grow T,_,l,q1,λv1 H1 O1 C E1=>?_]];let[v2,A,f1,f2,f3,mk]:=E1.handA (j:=j) (s:=(.deep,d2)) (by rw[getElem?_append_left I];exact ownD_some q2);have hl:σ.length=l.length:=by have:=E1.len;simp at this;exact this
 have E2:=mk (.deep,d2) v2 A f2 f3 λ_ h=>h;rw[List.set_append_left _ _ I]at E2;refine#[v2,by rw[getElem?_append_left (by lia)]at f1;exact f1,by show 3<=sizeLine;rw[eQ];decide,λp hp=>?_];have i1:Is X.K (msk O1 H1) o v0:=by rw[kx]at i0;exact Is.mono C _ _ (Is.nl (E.grow T).nl o v0 lf i0)
 let[E3,le3]:=E2.tup3 lf i1 hp;exact kk _ _ O1 ((T.msk.trans C).trans le3) E3) rfl
section
variable{X:Cx}{e tg:Expr}{pos:Pos}
noncomputable def  qg(ds:Uh)(k:Nat):T7:=match ds[k]?with
|some (.lst cs)=>!cs|_=>none
def n6{ds cs:Uh}{k:Nat}(h:qg ds k=!cs):ds[k]?=!.lst cs:=by
 unfold qg at h;split at h;.rename_i h1;cases h;exact h1
 .cases h
def  BE(Y:Ev)(i:Nat):T7:=(BD Y i).bind λd=>match d with
|.tup ds=>!ds|_=>none
def qh{Y:Ev}{i:Nat}{ds:Uh}(h:BE Y i=!ds):Y[i]?=!!(.deep,.tup ds):=by
 let[d,h1,h2]:=UK h;split at h2;.cases h2;exact ownD_some h1
 .cases h2
def  zf(i k:Nat)(f:TY):TZ:=λY=>(BE Y i).bind λds=>(qg ds k).bind λcs=>(f (vw Y)).bind λd=>if cs.length+1<big then !.nx (Y.set i !(.deep,.tup (ds.set k (.lst (cs++[d])))))else none
def Jv(i k:Nat){y:Str}{py sp ap cp:Pos}{T:Expr}{f}(he:vn X e f)(hk:PP X T λ_=>!.int (k:Int))(hx:cU T)(hN:X.N[i]?=!y)(hv:oQ X.env.scope y)(hd:(y==("__debug__":Str))=false)(U:(y==("__classdict__":Str))=false)(g:starEach [e] X.env=(false,eval e X.env)::starEach [] X.env)(j:(ap.endLine==cp.line)=true):PR X (.Expr (.Call (.Attribute (.Subscript (.Name y py) T sp) "append" ap) [e] [] cp) pos) (zf i k f):=λB O Y=>(fu (kl PySem.F.plainAttrs_list PySem.F.slot_list_append PySem.F.type_list_append jb (pQ ix_tup (bH hN hv hd U) (hk ku (vw Y)) hx) (bi (AW he B O Y).1 pa_nil g) rfl (by rw[g];rfl) j g rfl)).imp λEn σ H#[E,o,q,kk]=>by
 let[ds,q1,q]:=UK q;let[cs,q2,q]:=UK q;let[d,q3,q]:=UK q;let[hz,q]:=aj q;subst q;have h0:=qh q1;have l:=n6 q2;let[v,A,e0,o0,nd,_]:=E.handA h0;let[a,xs,v2,A2,rfl,f1,f2,f3,z]:=Zx.tup msk_le (show Deep X.K (msk O H) H (.tup ds) v A from o0) nd l rfl;let[[a2,ys,A3,rfl,g2,_],_]:=z;refine#[.ref a,e0,E.view,_,rfl,λyv H1 p iy=>?_];cases show yv=.int (k:Int)from iy;refine#[a,xs,(k:Int),.ref a2,rfl,rfl,SqT.of (p _ _ f1),vO f3,.inl #[rfl,_,SqL.of (p _ _ g2)],E.grow p,(.deep,d),Y,by unfold gy;rw[q3];rfl,λu H3 O3 s3 E3=>?_];let[v',A',Z,r,C,oz,I,dj,mk]:=E3.zoomX h0;rw[e0]at r;cases r;let[b,xs',v3,A4,w1,w2,w3,w4,z']:=Zx.tup msk_le C I l rfl;cases w1;let[a5,t,r1,r2,r3,r4,A5,r5,r6]:=z'.push oz dj;subst r1;have hs:H3 a=!.tup xs:=by
  have m1:msk O H a=!.tup xs:=by
   let[b',xs2,x1,x2,_]:=show Deep X.K (msk O H) H (.tup ds) (.ref a) A from o0;cases x1;rcases x2 with x2|x2;.have:=msk_le _ _ x2;rw[f1]at this;cases this;exact x2
   .rw[Hg (d:=.lst cs) rfl l]at x2;cases x2.1
  exact msk_le _ _ (s3 _ _ (p.msk _ _ m1))
 rw[hs]at w2;cases w2;rw[f3]at w4;cases w4;let[E4,J]:=mk a2 _ _ A5 r4 r5 r6;exact#[a2,t,u,rfl,rfl,r2,by rw[eQ,<-r3];exact Nat.lt_of_succ_lt hz,kk σ _ O3 ((p.msk.trans s3).trans J) E4]
def BF{Y:Ev}{i:Nat}(h:Y[i]?=!none):Y.set i none=Y:=by
 apply List.ext_getElem?;intro j;by_cases g:j=i;.subst g;rw[List.getElem?_set_self (List.getElem?_eq_some_iff.mp h).1,h]
 .rw[List.getElem?_set_ne (Ne.symm g)]
def Fk{Y:Ev}{i j:Nat}{x y:T6}(h:i≠j):(Y.set i x).set j y=(Y.set j y).set i x:=List.set_comm _ _ h
def EnvOk.tsub{K:Frag}{B:Bs}{O:Ue}{σ:St}{H:Hp}{Y:Ev}{u:V}{d:D}(E:EnvOk K B O (σ++[!u]) H (Y++[!(.deep,d)])){i j k:Nat}{ds cs r:Uh}(h:Y[i]?=!!(.deep,.tup ds))(hk:ds[k]?=!.lst cs)(hj:cs[j]?=!.lst r):∃a xs al ls g l,σ[i]?=!!33/\H a=!.tup xs/\xs[k]?=!.ref al/\H al=!.lst ls/\cs.length=ls.length/\ls[j]?=!.ref g/\H g=!.lst l/\r.length=l.length/\EnvOk K B O σ (upd H g (.lst (l++[u]))) (Y.set i !(.deep,.tup (ds.set k (.lst (cs.set j (.lst (r++[d])))))))/\Same (msk O H) (msk O (upd H g (.lst (l++[u])))):=by
 let[v,A,Z,e0,o0,oz,nd,dj,mk]:=E.zoomX h;let[a,xs,v2,A2,rfl,T,w3,J,z]:=Zx.tup msk_le o0 nd hk rfl;let[al,ls,v3,A3,rfl,I,C,t,y5,p]:=Zx.lst z.1 z.2.2.1 hj;let[g,l,rfl,r2,r3,r4,A5,r5,U]:=(z.trans p).push oz dj;let[E4,o]:=mk g _ _ A5 r4 r5 U;exact#[a,xs,al,ls,g,l,e0,T,J,I,C,t,r2,r3,E4,o]
section
variable{K:Frag}{B:Bs}{O:Ue}{σ:St}{H:Hp}{Y:Ev}{i k:Nat}{ds cs:Uh}{a al:Addr}{xs:List V}
def EnvOk.tsubK{u:V}{d:D}(E:EnvOk K B O (σ++[!u]) H (Y++[!(.deep,d)])){j:Nat}{r:Uh}(h:Y[i]?=!!(.deep,.tup ds))(hk:ds[k]?=!.lst cs)(hj:cs[j]?=!.lst r)(e3:σ[i]?=!!33)(ha:H a=!.tup xs)(f3:xs[k]?=!.ref al):∃ls a3 zs,H al=!.lst ls/\ls[j]?=!.ref a3/\H a3=!.lst zs/\r.length=zs.length/\EnvOk K B O σ (upd H a3 (.lst (zs++[u]))) (Y.set i !(.deep,.tup (ds.set k (.lst (cs.set j (.lst (r++[d])))))))/\Same (msk O H) (msk O (upd H a3 (.lst (zs++[u])))):=by
 let[a',xs',al',ls,a3,zs,t0,t1,t2,t3,_,t]:=E.tsub h hk hj;cases e3.symm.trans t0;cases ha.symm.trans t1;cases f3.symm.trans t2;exact#[ls,a3,zs,t3,t]
def EnvOk.tlst(E:EnvOk K B O σ H Y)(h:Y[i]?=!!(.deep,.tup ds))(hk:ds[k]?=!.lst cs)(e3:σ[i]?=!!33)(ha:H a=!.tup xs)(f3:xs[k]?=!.ref al):∃ls,H al=!.lst ls/\cs.length=ls.length:=by let[v1,A1,u0,u1,u2,_]:=E.handA h;cases e3.symm.trans u0;let[b0,xs0,v3,A4,w0,w1,w2,w3,zz]:=Zx.tup msk_le (show Deep K (msk O H) H (.tup ds) (.ref a) A1 from u1) u2 hk rfl;cases w0;cases ha.symm.trans w1;cases f3.symm.trans w3;let[[al0,ls0,A5,y0,y1,_,y3],_]:=zz;cases y0;exact#[ls0,y1,DeepL.len y3]
end
def  Mz(d:D):T7:=match d with
|.lst r=>if r.length+1<big then !r else none|_=>none
def BG{d:D}{r:Uh}(h:Mz d=!r):d=.lst r/\r.length+1<big:=by
 unfold Mz at h;split at h;.let[c,e]:=aj h;cases e;exact#[rfl,c]
 .cases h
def  apD(v:D):Uh->T7
|[]=>![]|d::ds=>(Mz d).bind λr=>(apD v ds).bind λy=>!.lst (r++[v])::y
def BH{v d:D}{ds z:Uh}(h:apD v (d::ds)=!z):∃r g,d=.lst r/\r.length+1<big/\apD v ds=!g/\z=.lst (r++[v])::g:=by unfold apD at h;let[r,h0,h]:=UK h;let[y,h2,h]:=UK h;cases h;let[e,b]:=BG h0;exact#[r,y,e,b,h2,rfl]
def  vP(ih k ip:Nat)(R:TY):TZ:=λY=>(BE Y ih).bind λds=>(qg ds k).bind λcs=>(nJ (R (vw ((Y.set ih none).set ip none)))).bind λv=>(apD v cs).bind λy=>if ip<Y.length/\ih≠ip then !.nx (((Y.set ih none).set ip none).set ih !(.deep,.tup (ds.set k (.lst y))))else none
def Jw{ih ip k:Nat}{y p:Str}{R}{ik:Expr}{p1 py sp p4 a2' c2 s2:Pos}(hp:PassesOwn (!3) X.A X.env X.xe)(hc:X.calm=true)(hN:X.N.Nodup)(hk:PP X ik λ_=>!.int (k:Int))(hx:cU ik)(ih1:X.N[ih]?=!y)(ih2:oQ X.env.scope y)(ih3:(y==("__debug__":Str))=false)(ih4:(y==("__classdict__":Str))=false)(ip1:X.N[ip]?=!p)(ip2:D3 X.env.scope p)(ip3:(p==("__debug__":Str))=false)(ip4:(p==("__classdict__":Str))=false)(ip5:X.fn p=true)(he:PP X e R)(hst:starEach [e] X.env=(false,eval e X.env)::starEach [] X.env)(hl2:(a2'.endLine==c2.line)=true):PR X (.For (.Name p p1) (.Subscript (.Name y py) ik sp) [.Expr (.Call (.Attribute (.Name p p4) "append" a2') [e] [] c2) s2] [] pos) (vP ih k ip R):=λB O Y=>by
 have vp:oQ X.env.scope p:=ip2.elim .inl λz=>.inr (.inl z);cases hY:vP ih k ip R Y with
|none=>exact tB B O Y|some out=>
 let[ds,q1,q]:=UK hY;let[cs,q2,q]:=UK q;let[v',q3,q]:=UK q;let[cs',q4,q]:=UK q;let[[hl,n1],qz]:=aj q;let[v'',hv1,hv2]:=UK q3;let[lv,hv3]:=aj hv2;subst hv3;have hsl:=qh q1;have hkc:=n6 q2;obtain⟨Y0,hY0⟩:∃Y0,Y0=(Y.set ih none).set ip none:=#[_,rfl];have hlh:ih<Y.length:=(Us.mp hsl).1;have h1:Y0[ih]?=!none:=by rw[hY0,List.getElem?_set_ne n1.symm,List.getElem?_set_self hlh]
 have h2:Y0[ip]?=!none:=by rw[hY0,List.getElem?_set_self (by rw[List.length_set];exact hl)]
 have hl1:ih<Y0.length:=(Us.mp h1).1;have e1:Y0.set ih (!(Cat.deep,.tup ds))=Y.set ip none:=by
  have e0:Y.set ih (!(Cat.deep,.tup ds))=Y:=by
   apply List.ext_getElem?;intro j;by_cases hj:j=ih;.rw[hj,List.getElem?_set_self hlh,hsl]
   .rw[List.getElem?_set_ne (Ne.symm hj)]
  rw[hY0,Fk n1.symm,List.set_set,e0]
 have hkl:k<ds.length:=(Us.mp hkc).1;have e2:ds.set k (.lst cs)=ds:=by
  apply List.ext_getElem?;intro j;by_cases hj:j=k;.rw[hj,List.getElem?_set_self hkl,hkc]
  .rw[List.getElem?_set_ne (Ne.symm hj)]
 rw[<-hY0]at hv1 qz;clear hY;subst qz;refine(uY hp hc (AB (pQ ix_tup (bH ih1 ih2 ih3 ih4) (hk ku (vw Y)) hx)) (qF hN ip1 ip2 (.inl ip5)) (ij (fu (kl PySem.F.plainAttrs_list PySem.F.slot_list_append PySem.F.type_list_append jb (bH ip1 vp ip3 ip4) (bi (PE.ex λz:Vv=>he ku z) pa_nil hst) rfl (by rw[hst];rfl) hl2 hst rfl)) pss_nil) (by intro x;rfl)).imp λEn σ H#[E,out,q,kk]=>?_;cases q;let[v0,A,e0,o0,nd,_]:=E.handA hsl;let[a,xs,v2,A2,rfl,f1,f2,f3,z]:=Zx.tup msk_le (show Deep X.K (msk O H) H (.tup ds) v0 A from o0) nd hkc rfl;let[[al,ls,A3,rfl,g2,_],_]:=z;refine#[.ref a,e0,E.view,_,rfl,λyv H1 s1 iy=>?_];cases show yv=.int (k:Int)from iy;refine#[a,xs,(k:Int),.ref al,rfl,rfl,SqT.of (s1 _ _ f1),vO f3,al,rfl,.inl #[#[ls,SqL.of (s1 _ _ g2)],λi m σ2 H2=>i<=cs.length/\m=cs.length-i/\∃(dn rs:Uh),dn.length=i/\Same (msk O H1) (msk O H2)/\EnvOk X.K B O σ2 H2 (Y0.set ih !(.deep,.tup (ds.set k (.lst (dn++cs.drop i)))))/\apD v'' (cs.drop i)=!rs/\dn++rs=cs'/\σ2[ih]?=!!33/\H2 a=!.tup xs,?_,?_]];.refine#[cs.length,Nat.zero_le _,rfl,[],cs',rfl,Same.refl _,?_,q4,rfl,e0,s1 _ _ f1];show EnvOk X.K B O σ H1 (Y0.set ih !(Cat.deep,.tup (ds.set k (.lst cs))));rw[e2,e1];exact(E.forget ip).grow s1
 .rintro i m σ2 H2⟨hi,rfl,dn,rs,hdn,sm,E2,hal,hds,e3,ha⟩;have hat:(Y0.set ih !(.deep,.tup (ds.set k (.lst (dn++cs.drop i)))))[ih]?=!!(.deep,.tup (ds.set k (.lst (dn++cs.drop i)))):=by rw[List.getElem?_set_self hl1]
  have hkk:(ds.set k (.lst (dn++cs.drop i)))[k]?=!.lst (dn++cs.drop i):=List.getElem?_set_self hkl;have hlen:(dn++cs.drop i).length=cs.length:=by rw[length_append,hdn,List.length_drop];omega
  by_cases hlt:i<cs.length
  .refine .inr ?_;rw[List.drop_eq_getElem_cons hlt]at hal;let[r,rs',hdi,hb,hal',hz]:=BH hal;have hj:(dn++cs.drop i)[i]?=!.lst r:=by rw[getElem?_append_right !6,hdn,Nat.sub_self,List.drop_eq_getElem_cons hlt];exact congrArg some hdi
   have E2':=E2.moreS (d:=.non) (v:=.non) rfl;let[ls0,a3,zs,t3,t5,t6,t7,_,_]:=(show EnvOk X.K B O (σ2++[some .non]) H2 (_++[!(.deep,.non)])from E2').tsubK hat hkk hj e3 ha f3;refine#[#[ls0,.ref a3,SqL.of t3,t5],λσ' H'=>i+1<=cs.length/\∃(dn rs:Uh),dn.length=i+1/\Same (msk O H1) (msk O H')/\EnvOk X.K B O σ' H' (Y0.set ih !(.deep,.tup (ds.set k (.lst (dn++cs.drop (i+1))))))/\apD v'' (cs.drop (i+1))=!rs/\dn++rs=cs'/\σ'[ih]?=!!33/\H' a=!.tup xs,λσ' H'#[z1,z2]=>#[cs.length-(i+1),by omega,z1,rfl,z2],λxx H' hy=>?_];let[rfl,hx']:=hy;have hx':=hx' ls0 (SqL.of t3);rw[t5]at hx';cases hx';have hip:ip<σ2.length:=by rw[E2.len,List.length_set];exact(Us.mp h2).1
   have E3:=E2.setSh (i:=ip) (d:=.adr a3) (v:=.ref a3) rfl;obtain⟨σ3,hσ3⟩:∃σ3,σ3=σ2.set ip !.ref a3:=#[_,rfl];have e7:σ3[ip]?=!!.ref a3:=by rw[hσ3,List.getElem?_set_self hip]
   have e8:σ3[ih]?=!!33:=by rw[hσ3,List.getElem?_set_ne n1.symm];exact e3
   rw[<-hσ3]at E3;show Li _ _ _ (σ2.set ip !.ref a3) _;rw[<-hσ3];have gh3:((Y0.set ih !(Cat.deep,.tup (ds.set k (.lst (dn++cs.drop i))))).set ip !(.sh,.adr a3))[ih]?=!!(.deep,.tup (ds.set k (.lst (dn++cs.drop i)))):=by rw[List.getElem?_set_ne n1.symm,List.getElem?_set_self hl1]
   have E5:=(E3.forget ih).forget ip;rw[Fk n1.symm,List.set_set,List.set_set,BF h1,BF h2]at E5;refine#[.ref a3,e7,.inl #[rfl,_,SqL.of t6],_,E5.view,v'',hv1,λvv H5 s5 iv=>?_];have E6:=E3.grow s5;rw[kx]at iv;have iv':=Is.nl E6.nl v'' vv lv iv;have E6':=E6.moreS iv';rw[show extS v''=(.deep,v'')by unfold extS;rw[lv];rfl]at E6';let[ls1,b3,zs1,k3,k5,k6,k7,E7,s7]:=E6'.tsubK gh3 hkk hj e8 (s5 _ _ ha) f3;cases(s5 _ _ t3).symm.trans k3;cases t5.symm.trans k5;have na:a≠a3:=λz=>by rw[z,t6]at ha;cases ha
   have es:(dn++cs.drop i).set i (.lst (r++[v'']))=dn++[.lst (r++[v''])]++cs.drop (i+1):=by rw[List.drop_eq_getElem_cons hlt,List.set_append_right _ _ !6,hdn,Nat.sub_self,set_cons_zero,List.append_assoc];rfl
   have E8:=E7.forget ip;rw[Fk n1.symm,List.set_set,List.set_set,Fk n1,BF h2,List.set_set,es]at E8;exact#[a3,zs1,vv,rfl,rfl,k6,by rw[eQ,<-k7];exact Nat.lt_of_succ_lt hb,hlt,dn++[D.lst (r++[v''])],rs',by rw[length_append,hdn];rfl,sm.trans (s5.msk.trans s7),E8,hal',by rw[<-hds,hz,List.append_assoc];rfl,e8,by rw[af na];exact s5 _ _ ha]
  .have hie:i=cs.length:=by omega
   subst hie;let[ls0,y1,y3]:=E2.tlst hat hkk e3 ha f3;refine .inl #[#[ls0,SqL.of y1,by rw[<-y3,hlen];exact UI _],?_];rw[List.drop_of_length_le (le_refl _)]at hal E2;cases hal;rw[List.append_nil]at hds E2;subst hds;exact kk σ2 H2 O (s1.msk.trans sm) E2
end
def  Ov(c:Str)(i:Nat):TZ:=λY=>(d8 Y i).bind λs=>match s with
|(.deep,d)=>!.rt (.deep,.tup [.str c,d])|_=>none
def vQ{X:Cx}{pos:Pos}(i:Nat)(c:Str){j x1}(hN:X.N[i]?=!x)(hv:oQ X.env.scope x)(hd:(!5)=false)(C:(!15)=false):PR X (.Return (!.Tuple [.Constant (.str c) j p1,.Name x px] x1 p2) pos) (Ov c i):=λB O Y=>(uV (qJ (bi pe_str (bi (bH hN hv hd C) pa_nil)))).imp λEn σ H#[E,o,q,k]=>by let[[ct,d],q1,r]:=UK q;cases ct with
|sh=>cases r|top=>cases r|deep=>
  cases r;let[F,h1,h2,h3,h4]:=E.fp;let[v,e,ow]:=h1 i _ (slAt_some q1);refine#[v,e,show 2<=sizeLine by decide,λp I=>k _ _ ?_];have l:∀b o,H b=!o->(upd H p (.tup [.str c,v])) b=!o:=λb o g=>by rw[af λz=>by rw[z,I]at g;cases g];exact g
  have T:∀b,O b=true->b≠p:=λb g z=>by have J:=E.lis b g;rw[z,I]at J;rcases J with⟨_,w⟩|⟨_,_,_,w⟩|⟨_,w⟩<;>cases w
  have U:Same (msk O H) (msk O (upd H p (.tup [.str c,v]))):=λb o g=>by let[m1,m2]:=a8 g;rw[aH m1];exact l b o m2
  refine#[O,F i,λb o g=>l b o (E.same b o g),E.sub,λb g=>by rw[af (T b g)];exact E.lis b g,h2 i,h4 i,?_];have t:(msk O (upd H p (.tup [.str c,v]))) p=!.tup [.str c,v]:=by rw[aH (by cases hq:O p with
|false=>rfl|true=>exact absurd rfl (T p hq)),ah]
  exact#[p,[.str c,v],rfl,.inl t,.str c,[v],[],F i,rfl,rfl,#[rfl,rfl],v,[],F i,[],rfl,(List.append_nil _).symm,OwnC.frame U (λa _ o ha=>l a o ha) ow,rfl,rfl]
def EnvOk.lastSh{K}(E:EnvOk K B O (σ++[!v]) H (Y++[!s])):∃j,EnvOk K B j σ H Y/\Same (msk O H) (msk j H)/\Is K (msk j H) s.2 v:=by
 have g:σ.length=Y.length:=by have:=E.len;rw[length_append,length_append]at this;exact Nat.add_right_cancel this
 let[j,l,le]:=E.frz1 Y.length;have e:L2.frz1 Y.length (Y++[!s])=Y++[!(.sh,s.2)]:=by unfold L2.frz1;rw[getElem?_append_right (le_refl _),Nat.sub_self];show(Y++[!s]).set Y.length (!(.sh,s.2))=_;rw[List.set_append_right _ _ (le_refl _),Nat.sub_self];rfl
 rw[e]at l;refine#[j,l.drop,le,?_];let[r,o,p]:=l.viewS.sh Y.length s.2 (by unfold bV;rw[List.map_append,getElem?_append_right (by rw[length_map];exact UI _),length_map,Nat.sub_self];rfl);rw[getElem?_append_right (by rw[g];exact UI _),g,Nat.sub_self]at o;cases o;exact p
def  Jx(i:Nat)(g:T2):TZ:=λY=>(ownL Y i).bind λ_=>(g Y).bind λz=>(ownL z.2 i).bind λw=>(j3 z.1.2).bind λes=>if w.2.length+es.length<big then !.nx (z.2.set i !(extC w.1 es,.lst (w.2++es)))else none
def vR(i:Nat)(h:qc X e g)(hN:X.N[i]?=!x)(hv:oQ X.env.scope x)(hd:(!5)=false)(r:(!15)=false)(j:starEach [e] X.env=(false,eval e X.env)::starEach [] X.env)(p:(apos.endLine==cpos.line)=true):PR X (.Expr (.Call (.Attribute (.Name x px) "extend" apos) [e] [] cpos) pos) (Jx i g):=λB O Y=>(fu (kl PySem.F.plainAttrs_list PySem.F.slot_list_extend PySem.F.type_list_extend rp (bH hN hv hd r) (bi (h B O Y).1 pa_nil j) rfl (by rw[j];rfl) p j rfl)).imp λEn σ H#[E,o,q,k]=>by let[[c0,ds0],q1,q]:=UK q;let[[s,Y'],q2,q]:=UK q;let[[c,ds],q3,q]:=UK q;let[es,q4,q]:=UK q;let[hz,q]:=aj q;subst q;let[h0,I]:=cK q1;let[h1,C]:=cK q3;let[a,T,J,r3,_]:=E.ownAt h0 I;refine#[.ref a,J,.inl #[rfl,_,SqL.of r3],E,s,Y',q2,λv H1 O1 s1 E1=>?_];let[O2,E2,le,is]:=E1.lastSh;let[m,zs,rfl,t,l]:=b8 q4 is;let[a',xs,e2,r4,hl,O3,E3,U]:=E2.extend h1 C l;rw[J]at e2;cases e2;exact#[a,m,xs,zs,rfl,rfl,r4,msk_le.seq t,by rw[<-hl,<-l.len,eQ];exact UF hz,k σ _ O3 ((s1.trans le).trans U) E3]
section
variable{X:Cx}{a b:Expr}{pos:Pos}
def  BJ(K:Frag):R2:=λx y H Q=>∃a b ys,x=.ref a/\y=.ref b/\SqT K H a []/\SqT K H b ys/\Q (.ref b) H
def BK:OpR X (binaryOp .Add) (BJ X.K):=by intro pins s σ H x y v u Q I rx T h;let[a,b,ys,rfl,rfl,ha,hb,q]:=h;cases rx;cases T;let[its,U,p1,_]:=I.tuple ha;let[r,r2,p2,_]:=I.tuple hb;have hn:=U.nil_iff.mpr rfl;subst hn;let[[cls,dd,data,J],t,hc,n,hd]:=id p1;let[[C,p,data2,j],g,o,n2,l]:=id p2;subst hc hd o l;exact concat_meets #[_,t,rfl] #[_,g,rfl] noFill_tuple_add seq_tuple_add PySem.F.slot_tuple_add PySem.F.entry_tuple_add (PySem.F.args_tuple_add_2 _ _) (tuple_addW0 a b _ _ n n2 dd p J j rfl) #[t,g,.ref b,H,I,rfl,q]
def  RN(K:Frag):R2:=λx y H Q=>GS K x y H Q\/BJ K x y H Q
def MA:OpR X (binaryOp .Add) (RN X.K):=λpins s σ H x y v u Q I rx g h=>h.elim (Ee pins s σ H x y v u Q I rx g) (BK pins s σ H x y v u Q I rx g)
def  P4:D->D->Uj
|.tup a,.tup b=>if a.length+b.length<big then !.tup (a++b)else none|_,_=>none
def P5{K}:kb K (RN K) P4:=λO H x y dx dy d Q hd ix iy e k=>by cases dx with
|tup as=>cases dy with
  |tup bs=>let[hz,e]:=aj e;subst e;let[p,l,rfl,t,I]:=ix;let[q,j,rfl,r,C]:=iy;have g:=I.len;have o:=C.len;cases as with
   |nil=>have J:=List.length_eq_zero_iff.mp (by rw[<-g];rfl);subst J;exact .inr #[p,q,j,rfl,rfl,msk_le.seqT t,msk_le.seqT r,k _ H (Same.refl _) #[q,j,rfl,r,C]]|cons a as=>
    refine .inl #[p,q,l,j,rfl,rfl,msk_le.seqT t,msk_le.seqT r,(λz=>by rw[z]at g;cases g),by rw[<-g,<-o];exact UF hz,λz=>?_,λz c T=>?_];.subst z;have hb:=List.length_eq_zero_iff.mp (by rw[o];rfl);subst hb;rw[List.append_nil]at k;exact k _ H (Same.refl _) #[p,l,rfl,t,I]
    .have U:=fX hd T;exact k _ _ (Same.new T) #[c,l++j,rfl,.of (by rw[aH U,ah]),IsL.mono (by rw[ko U];exact Same.new (by rw[aH U];exact T)) _ _ (I.app C)]
  |_=>cases e
|_=>cases e
def  aG:D->D->Uj
|.int i,.int j=>!.int (i+j)|.tup a,.tup b=>if a.length+b.length<big then !.tup (a++b)else none|_,_=>none
def Jy(p:PP X a fa)(o:PP X b j):PP X (.BinOp a .Add b pos) (aa aG fa j):=λO Y=>(Er p o O Y).by2 (mr MA P5 p o O Y) λσ H Q#[E,d,q,k]=>by
 let[x,r,q]:=UK q;let[y,t,q]:=UK q;have l:∀g:D->D->Uj,aa g fa j Y=g x y:=λg=>by show(fa Y).bind _=_;rw[r];show(j Y).bind _=_;rw[t];rfl
 cases x<;>cases y<;>first
|exact .inl #[E,d,by rw[l];exact q,k]|exact .inr #[E,d,by rw[l];exact q,k]
end
section
variable{X:Cx}{pins:T5}{σ:St}{H:Hp}{s:Shared}
def xq(I:Inv X pins σ H s)(hu:X.A.units+60<cLine)(l:IsL X.K H ds xs)(r:Vals xs its)(ok:jF ds=true)(hd:bF ds<=50)(oe:lG d=true)(ix:Is X.K H d x)(rx:RelV x u):∃e:Value->Bool,(∀y∈its,SeqAt.EqAt X.A.in1 s y u (e y))/\∀(i:Nat)(d':D)(v:Value),ds[i]?=!d'->its[i]?=!v->e v=iD d' d:=by classical
 have at_:∀(i:Nat)(d':D)(v:Value),ds[i]?=!d'->its[i]?=!v->∃y,Is X.K H d' y/\RelV y v:=λi d' v h1 h2=>by let[y,e1,i1]:=l.get h1;let[w,e2,r2]:=r.get e1;rw[h2]at e2;cases e2;exact#[y,i1,r2]
 have one:∀(i j:Nat)(d1 d2:D)(v:Value),ds[i]?=!d1->ds[j]?=!d2->its[i]?=!v->its[j]?=!v->d1=d2:=λi j d1 d2 v h1 h2 h3 h4=>by let[y1,i1,r1]:=at_ i d1 v h1 h3;let[y2,i2,r2]:=at_ j d2 v h2 h4;cases r1.inj r2;exact Is.inj I d1 d2 y1 (fK ok h1) (fK ok h2) i1 i2
 have ev:∀(i:Nat)(d':D)(v:Value),ds[i]?=!d'->its[i]?=!v->decide (∃(j:Nat)(d2:D),ds[j]?=!d2/\its[j]?=!v/\iD d2 d=true)=iD d' d:=λi d' v h1 h2=>by rw[Bool.eq_iff_iff,decide_eq_true_iff];exact#[λ#[j,d2,a,b,c]=>one i j d' d2 v h1 a h2 b▸c,λc=>#[i,d',h1,h2,c]]
 refine#[λv=>decide (∃(j:Nat)(d2:D),ds[j]?=!d2/\its[j]?=!v/\iD d2 d=true),λy hy=>?_,ev];let[i,hi]:=List.mem_iff_getElem?.mp hy;have hl:i<ds.length:=by rw[l.len,r.length];exact(Us.mp hi).1
 have h1:=getElem?_eq_getElem hl;let[z,iz,rz]:=at_ i _ y h1 hi;show SeqAt.EqAt X.A.in1 s y u (decide _);rw[ev i _ y h1 hi];exact vj I 50 X.A.in1 _ d z x y u (Uy (kt h1) hd) (by rw[jd];omega) (fK ok h1) oe iz ix rz rx
def  Jz(d e:D):Uj:=(j3 e).bind λds=>if lG d&&jF ds&&decide (bF ds<=50)then !.bl (ds.any λc=>iD c d)else none
def  MB(K:Frag):R2:=λx y H Q=>∃p xs ds d,y=.ref p/\SqL K H p xs/\IsL K H ds xs/\Is K H d x/\lG d=true/\jF ds=true/\bF ds<=50/\Q (.bl (ds.any λc=>iD c d)) H
def JA(U:X.A.units+60<cLine):OpR X (compareOp .In) (MB X.K):=by
 intro pins s σ H x y v u Q I rx o h;let[p,xs,ds,d,rfl,hq,l,C,t,ok,hd,q]:=h;cases o;let[g,r,pl,hz]:=I.list hq;let[e,e1,e2]:=xq I U l r ok hd t C rx;refine SeqAt.in_listAt e pl.isList (λw T=>e1 w (by simpa using T)) #[.bl _,H,I,rfl,?_];have:g.toArray.any e=ds.any λc=>iD c d:=by
  have j:ds.length=g.length:=by rw[l.len,r.length]
  rw[List.any_toArray,Bool.eq_iff_iff,List.any_eq_true,List.any_eq_true];constructor
  .rintro⟨y,J,ey⟩;let[i,hi]:=List.mem_iff_getElem?.mp J;have h1:i<ds.length:=by rw[j];exact(Us.mp hi).1
   exact#[_,List.getElem_mem h1,e2 i _ y (getElem?_eq_getElem h1) hi▸ey]
  .rintro⟨c,hc,ec⟩;let[i,hi]:=List.mem_iff_getElem?.mp hc;have h1:i<g.length:=by rw[<-j];exact(Us.mp hi).1
   exact#[_,List.getElem_mem h1,(e2 i c _ hi (getElem?_eq_getElem h1)).trans ec]
 rw[this];exact q
def MC{K}:kb K (MB K) Jz:=λO H x y dx C d Q hd o l e k=>by let[ds,j,g]:=UK e;let[h1,h2]:=aj g;subst h2;rw[and_eq_true,and_eq_true]at h1;let[p,xs,rfl,t,r]:=b8 j l;exact#[p,xs,ds,dx,rfl,msk_le.seq t,IsL.mono msk_le _ _ r,Is.mono msk_le _ _ o,h1.1.1,h1.1.2,Uv h1.2,k _ H (Same.refl _) rfl]
def  MD(K:Frag):V->List V->Hp->VK->Prop:=λx vs H Q=>∃(l:Addr)(xs:List V)(ds:Uh)(d:D)(v:V)(j:Nat),x=.ref l/\vs=[v]/\SqL K H l xs/\IsL K H ds xs/\Is K H d v/\lG d=true/\jF ds=true/\bF ds<=50/\ds.findIdx? (λc=>iD c d)=!j/\Q (.int (j:Int)) H
def zg(hu:X.A.units+60<cLine):Ol X "list.index" (MD X.K):=by
 intro pins s σ H x vs v us Q I rx rv h;let[l,xs,ds,d,y,j,rfl,rfl,hx,J,iy,od,ok,hd,hj,q]:=h;cases rx;let[u,rfl,ru]:=rv.one;let[g,r,pl,hz]:=I.list hx;let[e,e1,e2]:=xq I hu J r ok hd od iy ru;let[[c1,d1,t1,s1],n1,T,k1,_,U]:=pl;subst k1 U;let[hjl,hit,t]:=List.findIdx?_eq_some_iff_getElem.mp hj;have hl:ds.length=g.length:=by rw[J.len,r.length]
 have get:∀i(hi:i<g.length),e g[i]=iD (ds[i]'(by lia)) d:=λi hi=>e2 i _ _ (getElem?_eq_getElem (by lia)) (getElem?_eq_getElem hi);have hs:(j:Int)<2^63-1:=by
  have:sizeLine<2^62:=by decide
  have:=r.length;lia
 refine call_meets F.slot_list_index #[_,T,rfl] F.entry_list_index (F.args_list_index_2 _ _) (PySem.SeqAt.list_indexAt l g.toArray n1 d1 s1 u e j (by rw[size_toArray];lia) hs ?_ ?_) #[T,λz p=>e1 z (by simpa using p),#[.int (j:Int),H,I.kept λb o ho=>ho,#[_,rfl],q]];.simp only[List.getElem_toArray];rw[get];exact hit
 .intro m hm C;have hm':m<g.length:=by simpa using hm
  simp only[List.getElem_toArray];rw[get];simpa using t m C
def  zh(ds:Uh)(d:D):Option Nat:=if lG d&&jF ds&&decide (bF ds<=50)then ds.findIdx? λc=>iD c d else none
def  ph(fo fk:TY):TY:=λY=>(fo Y).bind λl=>(j3 l).bind λds=>(fk Y).bind λy=>(zh ds y).bind λj=>!.int (j:Int)
def zi(hu:X.A.units+60<cLine)(ho:PP X (.Name x px) fo)(hk:PP X e fk)(g:starEach [e] X.env=(false,eval e X.env)::starEach [] X.env)(hl:(ap.endLine==cp.line)=true):PP X (.Call (.Attribute (.Name x px) "index" ap) [e] [] cp) (ph fo fk):=λO Y=>(kl PySem.F.plainAttrs_list PySem.F.slot_list_index PySem.F.type_list_index (zg hu) (ho O Y) (bi (hk O Y) pa_nil g) rfl (by rw[g];rfl) hl g rfl).imp λσ H Q#[E,d,q,k]=>by
 let[l,q1,qa]:=UK q;let[ds,q2,U]:=UK qa;let[y,q4,T]:=UK U;let[j,o,J]:=UK T;cases J;let[h1,h2]:=show(lG y&&jF ds&&decide (bF ds<=50))=true/\ds.findIdx? (λc=>iD c y)=some j by
  unfold zh at o;split at o;.exact#[by assumption,o]
  .cases o 
 rw[and_eq_true,and_eq_true]at h1;refine#[E,l,q1,λv H1 C i1=>?_];let[p,xs,rfl,t,il]:=b8 q2 i1;exact#[.inl #[rfl,xs,msk_le.seq t],E.grow C,_,q4,λI H2 r iy=>#[p,xs,ds,y,I,j,rfl,rfl,r.seq (msk_le.seq t),IsL.mono (msk_le.trans r) _ _ il,Is.mono msk_le _ _ iy,h1.1.1,h1.1.2,Uv h1.2,h2,k _ H2 (C.trans r) rfl]]
end
end L2
namespace PySem
section
variable{prog:Program}{w:World}{A:Around}{R:Result->Shared->Prop}{I S:Addr}{fp wr:List Addr}{n:Nat}{P:Nat->Value->Prop}{St:Nat->Heap->Prop}{bt:Nat->Nat->Bool}{h0:Heap}{kw:List (Str×Value)}
def  jI(h0:Heap)(wr:List Addr)(S:Addr)(h:Heap):Prop:=∀b o,b∉wr->b≠S->h0.get? b=!o->h.get? b=!o
def  BL(prog:Program)(w:World)(A:Around)(P:Nat->Value->Prop)(bt:Nat->Nat->Bool)(ok:Heap->Prop):Prop:=∀i j x y(t:Shared)(Q:T8)(E:T8),P i x->P j y->ok t.heap->Q (.bool (bt i j)) t->wpAny (!7) A (richCompare .Gt x y) Q E t
def Fl(W:Walks prog w A.in1 I fp wr n P St)(hc:BL prog w A.in1 P bt (jI h0 wr S))(nS:S∉fp):∀(m i:Nat)(t:Shared)(x:Value)(z:Nat),n-(i+1)=m->i+1<=n->St (i+1) t.heap->P (argBest bt i) x->t.heap.get? S=some {cls:=.type "list",dict:=none,data:=.seq #[ x,x] z,slots:=#[ ]}->jI h0 wr S t.heap->(∀y h' tk,P (argBest bt (n-1)) y->jI h0 wr S h'->R (.ok (.ret y)) {t with heap:=h',toks:=tk})->codeAny (!7) A (.builtin "max.loop" #[[.ref I,.none,.ref S],kw]) R t:=λm=>by
 have nW:S∉wr:=λq=>nS (W.sub _ q);induction m with
|zero=>
  intro i t x z em le st px cs kp fin;have en:i+1=n:=by lia
  refine codeAny_builtin F.entry_max_loop ((Around.under_plainId F.plain_max_loop _).symm▸Ul (wpAny_seqItems cs rfl (Ul (wpAny_tryCatch (W.done t _ _ (en▸st) λh' tk U=>Ul ?_)))));exact wpAny_updateSeq (U S _ nW cs) rfl (Ul (wpAny_letGo (Uo (fin x _ tk (by rw[<-en];exact px) λb o J C e=>(Heap.get?_update_other _ _ (Ne.symm C)).trans (U b o J (kp b o J C e))))))|succ m ih=>
  intro i t x z em le st px cs kp fin;have lt:i+1<n:=by lia
  refine codeAny_builtin F.entry_max_loop ((Around.under_plainId F.plain_max_loop _).symm▸Ul (wpAny_seqItems cs rfl (Ul (wpAny_tryCatch (W.item (i+1) t _ _ lt st λy h' tk py T U=>?_)))));have r:=U S _ nW cs;have j:jI h0 wr S h':=λb o J C e=>U b o J (kp b o J C e);show wpAny _ A.in1 (tryCatch (holding [y,y] (richCompare .Gt y x>>=_)) _>>=_) _ _ _;refine Ul (wpAny_tryCatch (wpAny_holding (Ul (hc (i+1) _ y x _ _ _ py px j (Ul (wpAny_holding (wpAny_truthy_bool (Ul (wpAny_letGo (Uo ?_))))))))));by_cases q:bt (i+1) (argBest bt i)=true
  .rw[q];refine Ul (wpAny_updateSeq r rfl (Ul (wpAny_letGo (Uo #[plainId_quiet F.plain_max_loop _,ih (i+1) _ y _ (by lia) lt (W.frame _ _ _ T λb hb o e=>?_) (by rw[argBest,if_pos q];exact py) (Heap.get?_update_self _ r rfl) (λb o J C e=>?_) λy' p g p' l=>fin y' p g p' l]))));.exact(Heap.get?_update_other _ _ λz:S=b=>nS (z▸hb)).trans e
   .exact(Heap.get?_update_other _ _ (Ne.symm C)).trans (j b o J C e)
  .rw[show bt (i+1) (argBest bt i)=false by simpa using q];exact Ul (wpAny_letGo (Uo #[plainId_quiet F.plain_max_loop _,ih (i+1) _ x z (by lia) lt T (by rw[argBest,if_neg q];exact px) r j λy' p g p' l=>fin y' p g p' l]))
def tN(W:Walks prog w A.in1 I fp wr n P St)(hc:BL prog w A.in1 P bt (jI h0 wr S))(p:S∉fp)(U:0<n)(st:St 0 t.heap)(cs:t.heap.get? S=some {cls:=.type "list",dict:=none,data:=.seq #[ ] z,slots:=#[ ]})(kp:jI h0 wr S t.heap)(fin:∀y h' J,P (argBest bt (n-1)) y->jI h0 wr S h'->R (.ok (.ret y)) {t with heap:=h',toks:=J}):codeAny (!7) A (.builtin "max.loop" #[[.ref I,.none,.ref S],kw]) R t:=by
 have nW:S∉wr:=λq=>p (W.sub _ q);refine codeAny_builtin F.entry_max_loop ((Around.under_plainId F.plain_max_loop _).symm▸Ul (wpAny_seqItems cs rfl (Ul (wpAny_tryCatch (W.item 0 t _ _ U st λy h' J py l T=>?_)))));have j:=T S _ nW cs;show wpAny _ A.in1 (updateSeq S (λ_=>#[ y,y])>>=_) _ _ _;refine Ul (wpAny_updateSeq j rfl (Uo #[plainId_quiet F.plain_max_loop _,Fl W hc p _ 0 _ y _ rfl U (W.frame _ _ _ l λb hb o e=>?_) py (Heap.get?_update_self _ j rfl) (λb o b1 b2 e=>?_) λy' C g p' r=>fin y' C g p' r]));.exact(Heap.get?_update_other _ _ λz:S=b=>p (z▸hb)).trans e
 .exact(Heap.get?_update_other _ _ (Ne.symm b2)).trans (T b o b1 (kp b o b1 b2 e))
end
def tO(h:wpAny (!7) A.in1 (pyIter x) (λit t=>∃I fp wr n P St bt,it=.ref I/\Walks prog w A.in1 I fp wr n P St/\St 0 t.heap/\(∀b∈fp,b<t.heap.objs.size)/\0<n/\BL prog w A.in1 P bt (jI t.heap wr t.heap.objs.size)/\∀v h' tk,P (argBest bt (n-1)) v->(∀b o,b∉wr->t.heap.get? b=!o->h'.get? b=!o)->Q v {t with heap:=h',toks:=tk}) E s):wpAny (!7) A (call (.builtin "max") [x]) Q E s:=by
 refine call_function_tree F.kind_max F.plain_max F.entry_max (F.args_max1 _) (Ul (UB (show Builtin.Builtins.bindParams "max" ["key","default"] 0 #[[],[]]=pure [none,none]from rfl) (Ul (Uo (Ul (UJ h (λit t g=>?_) λ_ _ e=>e))))));let[I,fp,wr,n,P,St,bt,rfl,W,st,lo,hn,hc,fin]:=g;refine Ul (wpAny_newObj_type (Uo #[plainId_quiet F.plain_max_loop _,tN W hc (λq=>UE _ (lo _ q)) hn (W.frame _ _ _ st λb _ o e=>Um _ e) (Uq _ rfl) (λb o _ _ e=>Um _ e) λv h' tk p kk=>?_]));exact fin v h' tk p λb o b1 e=>kk b o b1 (Uz (Up e)) e
def BM{prog:Program}{w:World}{A:Around}{E:T8}{s:Shared}(h:wpAny (!7) A.in1 (pyIter x) (λit t=>∃I fp wr n P St bt,it=.ref I/\Walks prog w A.in1 I fp wr n P St/\St 0 t.heap/\(∀b∈fp,b<t.heap.objs.size)/\BL prog w A.in1 P bt (jI t.heap wr t.heap.objs.size)/\∀v h' tk,(if n=0 then v=d else P (argBest bt (n-1)) v)->(∀b o,b∉wr->t.heap.get? b=!o->h'.get? b=!o)->Q v {t with heap:=h',toks:=tk}) E s):wpAny (!7) A (call (.builtin "max") [x] [(Str.ofString "default",d)]) Q E s:=by
 refine wpAny_call (codeAny_call_builtin F.plain_max F.entry_max (Uo (Ul (UB rfl (Ul (Uo (Ul (UJ h (λit t g=>?_) λ_ _ e=>e))))))));let[I,fp,wr,n,P,St,bt,rfl,W,st,lo,hc,fin]:=g;have nS:t.heap.objs.size∉fp:=λq=>UE _ (lo _ q);refine Ul (wpAny_newObj_type ?_);have fin':∀v h' tk,(if n=0 then v=d else P _ v)->jI t.heap wr t.heap.objs.size h'->Q v {t with heap:=h',toks:=tk}:=λv h' tk p kk=>fin v h' tk p λb o b1 e=>kk b o b1 (Uz (Up e)) e;by_cases hn:n=0;.subst hn;refine Uo #[plainId_quiet F.plain_max_loop _,codeAny_builtin F.entry_max_loop ((Around.under_plainId F.plain_max_loop _).symm▸Ul (wpAny_seqItems (Uq _ rfl) rfl (Ul (wpAny_tryCatch (W.done _ _ _ (W.frame _ _ _ st λb _ o e=>Um _ e) λh' tk kk=>?_)))))];exact Ul (wpAny_rule (Uo (fin' d h' tk (by rw[if_pos rfl]) λb o b1 b2 e=>kk b o b1 (Um _ e))))
 .refine Uo #[plainId_quiet F.plain_max_loop _,tN W hc nS (by lia) (W.frame _ _ _ st λb _ o e=>Um _ e) (Uq _ rfl) (λb o _ _ e=>Um _ e) λv h' tk p kk=>?_];exact fin' v h' tk (by rw[if_neg hn];exact p) kk
end PySem
namespace L2
open PySem PySem.Spec PyProof.Rows
section
variable{X:Cx}
def  zj(nss:List Ud)(i j:Nat):Bool:=HT.lexLt (nss.getD j []) (nss.getD i [])
def  JB(K:Frag):List V->Hp->VK->Prop:=λxs H Q=>∃l vs nss,xs=[.ref l]/\SqL K H l vs/\vs.length=nss.length/\nss≠[]/\(∀i v,vs[i]?=!v->∃a,v=.ref a/\SqT K H a ((nss.getD i []).map V.int))/\∀v,vs[argBest (zj nss) (nss.length-1)]?=!v->Q v H
def xt(r:Vals xs g):∀{i:Nat}{u:Value},g[i]?=!u->∃x,xs[i]?=!x/\RelV x u:=by induction r with
|nil=>intro i u h;simp at h|cons h _ j=>intro i u e;cases i with
|zero=>simp at e;subst e;exact#[_,rfl,h]|succ i=>exact j (by simpa using e)
def zk(hc:X.calm=true)(hu:X.A.units+1<cLine):eJ X (.builtin "max") (JB X.K):=by
 intro pins s σ H xs us Q I r h;let[l,vs,p,rfl,hl,U,hn,hat,q]:=h;let[u,rfl,ru]:=fw r;cases ru;let[C,rv,pl,hz]:=I.list hl;have len:C.length=p.length:=by rw[<-rv.length,U]
 have T:l<s.heap.objs.size:=by let[_,e,_]:=pl.isList;exact Up e
 have hp:=List.length_pos_iff.mpr hn;have tup:∀i u,C[i]?=!u->∃a g,u=.ref a/\IsTup s.heap a g/\IntsAre g.toList (p.getD i []):=λi u e=>by let[x,e1,rx]:=xt rv e;let[a,rfl,ht]:=hat i x e1;cases rx;let[g,r1,p1,_]:=I.tuple ht;exact#[a,g.toArray,rfl,p1,eL r1]
 refine tO (wpAny_pyIter_list pl.isList #[_,_,_,_,_,_,zj p,rfl,Walks.list (A:=X.A.in1) (I.ok.hd hc) s.heap.objs.size l (Uz T) C.toArray,#[#[_,Uq _ rfl,rfl,rfl],pl.isList.push _],λb hb=>?_,by rw[size_toArray,len];exact hp,?_,λv h' tk hP kp=>?_])
 .rw[Heap.size_push];rcases mem_cons.mp hb with rfl|hb;.exact Nat.lt_succ_self _
  .rw[mem_singleton.mp hb];exact Nat.lt_succ_of_lt T
 .intro i j x y t Q' E' hx hy ok fin;rw[List.getElem?_toArray]at hx hy;let[a,ia,rfl,[oa,ha,ra],za]:=tup i x hx;let[b,ib,rfl,[ob,hb,rb],zb]:=tup j y hy;have up:∀c o,s.heap.get? c=!o->t.heap.get? c=!o:=λc o e=>by
   have J:=Up e;refine ok c o (λz=>?_) (λz=>?_) (Um _ e);.rw[mem_singleton.mp z]at J;exact UE _ J
   .rw[(z.trans (Heap.size_push ..))]at J;exact absurd J (Nat.not_lt.mpr (Nat.le_succ _))
  exact HT.gt_tupInts #[oa,up _ _ ha,ra] #[ob,up _ _ hb,rb] za zb (by show X.A.in1.units<cLine;exact Ux (UI _) hu) fin
 .rw[List.getElem?_toArray,size_toArray,len]at hP;let[x,e1,rx]:=xt rv hP;refine#[x,H,I.kept λb o e=>kp b o (λz=>?_) (Um _ e),rx,q x e1];have J:=Up e;rw[mem_singleton.mp z]at J;exact UE _ J
def  JC:D->Option Ud
|.tup ds=>aX ds|_=>none
def  tR:Uh->Option (List Ud)
|[]=>![]|d::ds=>(JC d).bind λns=>(tR ds).bind λr=>!ns::r
def tT:∀{ds:Uh}{nss:List Ud},tR ds=!nss->ds.length=nss.length/\∀i d,ds[i]?=!d->JC d=!nss.getD i []
|[],nss,h=>by cases h;exact#[rfl,λi d e=>by simp at e]|d0::ds,nss,h=>by let[ns,e1,h]:=UK h;let[r,e2,h]:=UK h;cases h;let[l,at_]:=tT e2;refine#[by rw[length_cons,length_cons,l],λi d e=>?_];cases i with
|zero=>simp at e;subst e;exact e1|succ i=>exact at_ i d (by simpa using e)
def  tU:Uh->Uj
|[.lst ds]=>(tR ds).bind λnss=>if nss.isEmpty then none else ds[argBest (zj nss) (nss.length-1)]?|_=>none
def Fm:Pw X.K (JB X.K) tU:=λO H xs ds d Q hd l e k=>by
 unfold tU at e;split at e
 .let[g,e1,e2]:=UK e;let[u,rfl,p,ys,rfl,U,j]:=uS l;split at e2;.cases e2
  .rename_i hn;let[J,r]:=tT e1;refine#[p,ys,g,rfl,msk_le.seq U,by rw[<-j.len,J],λz=>hn (by rw[z];rfl),λi v o=>?_,λv o=>?_];.let[t,g1,g2]:=j.get' o;have g3:=r i t g1;cases t with
|tup ds'=>let[a,C,rfl,I,T]:=g2;have:=asInts_is g3 T;subst this;exact#[a,rfl,msk_le.seqT I]|_=>cases g3
   .let[v',g1,g2]:=j.get e2;rw[o]at g1;cases g1;exact k _ H (Same.refl _) g2
 .cases e
end
noncomputable def  P6(ns:Ud)(i j:Nat):Bool:=decide (ns.getD j 0<ns.getD i 0)
def  BO(ns:Ud):Int:=ns.getD (argBest (P6 ns) (ns.length-1)) 0
def BQ(h:ns≠[]):BO ns∈ns/\∀y∈ns,y<=BO ns:=by
 have r:=List.length_pos_iff.mpr h;have g:∀i,(h:i<ns.length)->ns.getD i 0=ns[i]:=λi h=>by rw[List.getD_eq_getElem?_getD,getElem?_eq_getElem h];rfl
 let[p,o]:=argBest_gt (λi=>ns.getD i 0) (ns.length-1);unfold BO;refine#[?_,λy l=>?_];.rw[(g (argBest (P6 ns) _) (lt_of_le_of_lt p !6))];exact List.getElem_mem _
 .let[j,t,rfl]:=List.getElem_of_mem l;have:=o j (by lia);rw[g]at this;exact this
section
variable{X:Cx}
def n9:∀{ns:Ud}{us:T9},Vals (ns.map V.int) us->us.length=ns.length/\∀i,(h:i<ns.length)->∃t,us[i]?=!.int ns[i] t
|[],us,r=>by cases r;exact#[rfl,λi h=>by cases h]|n::ns,us,r=>by cases r with|cons r1 r2=>let[t,rfl]:=r1;let[l,h]:=n9 r2;refine#[by rw[length_cons,length_cons,l],λi hi=>?_];cases i with
|zero=>exact#[t,rfl]|succ i=>exact h i (by rw[length_cons]at hi;omega)
def Hh{h:Heap}{a b:Addr}(g:a<h.objs.size)(j:b∈[h.objs.size,a]):b<(h.push o).objs.size:=by
 rw[Heap.size_push];rcases mem_cons.mp j with rfl|j;.exact Nat.lt_succ_self _
 .rw[mem_singleton.mp j];exact Nat.lt_succ_of_lt g
def vS{g:Ud}{j:T9}(len:j.length=g.length)(l:∀i,(h:i<g.length)->∃t,j[i]?=!.int g[i] t){v:Value}(h:j[i]?=!v):∃t,v=.int (g.getD i 0) t:=by
 have hi:i<g.length:=by rw[<-len];exact(Us.mp h).1
 let[t,e]:=l i hi;rw[h]at e;cases e;exact#[t,by rw[List.getD_eq_getElem?_getD,getElem?_eq_getElem hi];rfl]
noncomputable def  tV{h h':Heap}(kp:∀b o,b∉[h.objs.size]->(h.push ob).get? b=!o->h'.get? b=!o)(e:h.get? b=!o):=kp b o (λhm=>by rw[mem_singleton.mp hm]at e;exact absurd (Up e) (UE _)) (Um _ e)
def tW{g:T9}(len:g.length=l.length)(o:∀i,(h:i<l.length)->∃t,g[i]?=!.int l[i] t):BL X.prog X.w A (λi v=>g.toArray[i]?=!v) (P6 l) ok:=λi j x y t Q E C r _ fin=>CmpOf.ints_gt (P:=λi v=>g.toArray[i]?=!v) (λi=>l.getD i 0) (λi v p=>by rw[List.getElem?_toArray]at p;exact vS len o p) i j x y t Q E C r fin
def  P7(K:Frag):List V->Hp->VK->Prop:=λxs H Q=>JB K xs H Q\/(∃i j,xs=[.int i,.int j]/\Q (.int (if j>i then j else i)) H)\/∃l ns,xs=[.ref l]/\SqL K H l (ns.map V.int)/\ns≠[]/\Q (.int (BO ns)) H
def call_maxA(J:X.calm=true)(hu:X.A.units+1<cLine):eJ X (.builtin "max") (P7 X.K):=by
 intro pins s σ H xs T Q I r h;rcases h with h|⟨i,j,rfl,q⟩|⟨l,ns,rfl,hl,hn,q⟩;.exact zk J hu pins s σ H _ T Q I r h
 .exact yz J pins s σ H _ T Q I r #[i,j,rfl,q]
 .let[u,rfl,ru]:=fw r;cases ru;let[C,rv,pl,hz]:=I.list hl;let[len,p]:=n9 rv;have g:l<s.heap.objs.size:=by let[_,e,_]:=pl.isList;exact Up e
  refine tO (wpAny_pyIter_list pl.isList #[_,_,_,_,_,_,_,rfl,Walks.list (A:=X.A.in1) (I.ok.hd J) s.heap.objs.size l (Uz g) C.toArray,#[#[_,Uq _ rfl,rfl,rfl],pl.isList.push _],λb hb=>Hh g hb,by rw[size_toArray,len];exact List.length_pos_iff.mpr hn,tW len p,λv h' tk U kp=>?_]);rw[List.getElem?_toArray,size_toArray,len]at U;let[t,e]:=vS len p U;exact#[.int _,H,I.kept λb o e=>tV kp e,#[t,e],q]
def  jJ:Uh->Uj
|[.int i,.int j]=>!.int (if j>i then j else i)|[.lst ds]=>match aX ds with
  |some ns=>if ns.isEmpty then none else !.int (BO ns)|none=>tU [.lst ds]
|_=>none
def  BR(n0:Int):Uh->Uj:=uR λd=>(j3 d).bind λds=>(aX ds).bind λns=>!.int (if ns.isEmpty then n0 else BO ns)
def Fo(hc:X.calm=true)(hg:Gl X "max")(hm:X.mg "max"=none)(ha:PX X [e] fa)(hs:starEach [e] X.env=[(false,eval e X.env)]):PP X (.Call (.Name "max" p) [e] [#[some "default",.Constant (.int n0) k2 p2,kp]] pos) λY=>(fa Y).bind (BR n0):=by
 intro O Y pins s σ H Q I#[E,d9,q,k'];let[as,e1,q]:=UK q;let[d,rfl,q2]:=bA q;let[ds,q3,q4]:=UK q2;let[ns,q5,q6]:=UK q4;refine wpAny_Call_Name_kw (cz I hg hm b_max (callWith_kw (bG (ha O Y pos pins s σ H (λU H1=>Same H H1/\IsL X.K _ [d] U) I #[E,[d],e1,λU H1 g il=>#[g,il]]) λus g h1=>?_) (by rw[hs];rfl) (by rw[hs];rfl)) (!2) !2);let[U,H1,j,r1,r,il]:=h1;let[v,rfl,h]:=uS il;let[l,ys,rfl,t,l2]:=b8 q3 h;cases asInts_is q5 l2;let[u,rfl,ru]:=fw r1;cases ru;refine kws_cons (wpAny_Constant_int (kws_nil ?_));have j:=j.tok (g.toks+1);generalize g.toks=tk0 at j⊢;generalize({g with toks:=tk0+1}:Shared)=g at j⊢;let[its,rv,pl,hz]:=j.list (msk_le.seq t);let[len,J]:=n9 rv;have C:l<g.heap.objs.size:=by let[_,e,_]:=pl.isList;exact Up e
 refine BM (wpAny_pyIter_list pl.isList #[_,_,_,_,_,_,_,rfl,Walks.list (A:=X.A.in1) (j.ok.hd hc) g.heap.objs.size l (Uz C) its.toArray,#[#[_,Uq _ rfl,rfl,rfl],pl.isList.push _],λb hb=>Hh C hb,tW len J,λv h' tk T kp=>?_]);rw[size_toArray,len]at T;have I2:Inv X pins σ H1 {g with heap:=h',toks:=tk}:=j.kept λb o e=>tV kp e;cases q6;cases ns with
|nil=>exact#[.int n0,H1,I2,#[_,T],k' _ H1 r rfl]|cons n ns=>rw[if_neg (by simp),List.getElem?_toArray]at T;let[t,e]:=vS len J T;exact#[.int (BO _),H1,I2,#[t,e],k' _ H1 r rfl]
end
structure Gb where
 fn:Str->Option (Nat×xx)cn:Str->Uj
 no:Str->Bool
 fl:Str->Str->Bool
 mt:Str->MT
 ini:Str->Option (Nat×(Uh->Option !39))
structure Sn where
 N:Uc
 nm:List (Str×NameKind)k:Nat
 G:Gb
structure GbOk(P:Program)(w:World)(K:Frag)(mg:Str->Ua)(base:Heap)(G:Gb):Prop where
 fn:∀x k f,G.fn x=!(k,f)->Df P w K mg base x k f
 cn:∀x d,G.cn x=!d->Cn K mg x d
 no:∀x,G.no x=true->mg x=none
 fl:∀C m Ca,G.fl C m=true->nsIn K mainGlobals C=!!24->Cls K Ca/\NoAttr K Ca m
 mt:∀m C k f,G.mt m C=!(k,f)->Mf P w K mg base C m k f
 ini:∀C k g,G.ini C=!(k,g)->Mkf P w K mg base C k g
structure SnOk(X:Cx)(S:Sn):Prop where
 g:GbOk X.prog X.w X.K X.mg X.base S.G
 N:X.N=S.N
 nd:S.N.Nodup
 calm:X.calm=true
 room:Room S.k X.A
 loc:∀x,S.nm.lookup x=some .local->X.env.scope.names.lookup x=some .local
 cel:∀x,S.nm.lookup x=some .cell->X.env.scope.names.lookup x=some .cell
 fre:∀x,S.nm.lookup x=some .free->X.env.scope.names.lookup x=some .cell\/X.env.scope.names.lookup x=some .free
 glo:∀x,S.nm.lookup x=some .globalImplicit->X.env.kindOf x=some .globalImplicit
def  bx(S:Sn)(x:Str):Option Nat:=if fM x&&A8 (S.nm.lookup x)then qZ S.N x else none
def  mN(S:Sn)(x:Str):Bool:=fM x&&decide (S.nm.lookup x=some .globalImplicit)
def  K4(S:Sn)(x:Str):TY:=match bx S x with
|some i=>λY=>aO Y i|none=>if mN S x then match S.G.cn x with
|some d=>λ_=>!d|none=>if S.G.no x then match xf x with|some n=>λ_=>!.ty n|none=>λ_=>none elseλ_=>none elseλ_=>none
def pp_no:PP X e λ_=>none:=λO Y=>(qW O Y).1
def a7(o:SnOk X S)(h:bx S x=!i):fM x=true/\oQ X.env.scope x/\X.N[i]?=!x/\A8 (S.nm.lookup x)=true:=by
 unfold bx at h;split at h;.rename_i c;rw[and_eq_true]at c;exact#[c.1,(λo h=>by cases e:S.nm.lookup x with
|none=>rw[e]at h;cases h|some k=>rw[e]at h;cases k with
|«local»=>exact .inl (o.loc x e)|cell=>exact .inr (.inl (o.cel x e))|free=>
     rcases o.fre x e with q|q;.exact .inr (.inl q)
     .exact .inr (.inr q)|globalExplicit=>cases h|globalImplicit=>cases h) o c.2,by rw[o.N];exact f6 h,c.2]
 .cases h
def aU(o:SnOk X S)(h:mN S x=true):fM x=true/\Gl X x:=by unfold mN at h;rw[and_eq_true]at h;exact#[h.1,o.glo x (Uv h.2)]
def rG{X:Cx}{S:Sn}{pos:Pos}(o:SnOk X S)(x:Str):PP X (.Name x pos) (K4 S x):=by
 unfold K4;split;.rename_i i e;let[h1,h2,p,_]:=a7 o e;let[a,b,c]:=dD h1;exact ny i p h2 a b
 .split
  .rename_i e;let[h1,h2]:=aU o e;let[a,b,c]:=dD h1;split;.rename_i d hd;exact AH (o.g.cn x d hd) h2 a
   .split
    .rename_i j;split;.rename_i n l;exact LP h2 (o.g.no x j) ((λh=>by
       unfold xf at h;split at h;.rename_i e;cases h;subst e;decide+kernel
       .split at h;.rename_i e;cases h;subst e;decide+kernel
        .split at h;.rename_i e;cases h;subst e;decide+kernel
         .split at h;.rename_i e;cases h;subst e;decide+kernel
          .split at h;.rename_i e;cases h;subst e;decide+kernel
           .split at h;.rename_i e;cases h;subst e;decide+kernel
            .cases h) l) c a
     .exact pp_no
    .exact pp_no
  .exact pp_no
noncomputable def  aD:Expr->Bool
|.Starred _ _=>false|_=>true
def star1(h:aD e=true):starEach (e::es) env=(false,eval e env)::starEach es env:=by cases e<;>first|rfl|cases h
def BS:∀{es:Ui},es.all aD=true->(backTo pos (starEach es env)).any (·.1)=false
|[],_=>rfl|e::es,h=>by rw[List.all_cons,and_eq_true]at h;rw[star1 h.1];show(false||(backTo pos (starEach es env)).any (·.1))=false;rw[BS h.2];rfl
def  P8:Operator->Option (D->D->Uj)
|.Add=>!aG|.Sub=>!cA|.Mult=>!aM|.FloorDiv=>!bv|.Mod=>!aJ|.Pow=>!dO|.LShift=>!td|_=>none
def  ME(op:Operator)(fa fb:TY):TY:=match P8 op with
|some g=>aa g fa fb|none=>λ_=>none
noncomputable def  iI:Expr->Bool
|.Set _ _ _=>false|_=>true
def noSet_mark(h:iI b=true):behindInMarks op b=false:=by cases b<;>first|rfl|cases h
def gz(h:iI iter=true):∀x,foldedSetIterable iter env x=pure x:=by intro x;cases iter<;>first|rfl|cases h
def  cmpG:CmpOp->Option (D->D->Uj)
|.Lt=>!GX|.LtE=>!nz|.Gt=>!mJ|.GtE=>!Ix|.Eq=>!aP false|.NotEq=>!aP true|.In=>!GZ|.NotIn=>!vm|.Is=>!fj false|.IsNot=>!fj true
def  zm(op:CmpOp)(b:Expr)(fa fb:TY):TY:=match cmpG op with
|some g=>if iI b then aa g fa fb elseλ_=>none|none=>λ_=>none
section
variable{X:Cx}{S:Sn}{a b c:Expr}{pos:Pos}
def MF(op:Operator){fa p}(o:PP X a fa)(l:PP X b p):PP X (.BinOp a op b pos) (ME op fa p):=by cases op<;>first
|exact Jy o l|exact(λj g=>mr Ie LQ j g) o l|exact(λj g=>mr Ig LR j g) o l|exact(λj g=>mr Ep LS j g) o l|exact(λj g=>mr Ih LU j g) o l|exact(λo l=>mr Ii LV o l) o l|exact(λo l=>mr Ij LW o l) o l|exact pp_no
def MG(o:SnOk X S)(op:CmpOp){fa C}(t:PP X a fa)(p:PP X b C):PP X (.Compare a [op] [b] pos) (zm op b fa C):=by unfold zm;cases op<;>dsimp only[cmpG]<;>(try split)<;>first
|exact pp_no|exact(λg l j=>pp_cmp (op_lt.or (Ak g)) LY l j (dW _)) (Ux (Nat.le_add_right _ _) (room60 o.room)) t p|exact(λj g=>pp_cmp pK yI j g (dW _)) t p|exact(λg l j=>pp_cmp (op_gt.or (As g)) LZ l j (dW _)) (Ux (Nat.le_add_right _ _) (room60 o.room)) t p|exact(λt p=>pp_cmp GP LX t p (dW _)) t p|exact(λr j g=>pp_cmp (AF (room60 r)) wX j g (dW _)) o.room t p|exact(λr j g=>pp_cmp (AG (room60 r)) wX j g (dW _)) o.room t p|(rename_i h;exact pp_cmp op_in_seq r_in t p (noSet_mark h))|(rename_i h;exact pp_cmp op_notIn_seq r_notIn t p (noSet_mark h))|(rename_i h;exact pp_cmp op_isN r_isN t p (noSet_mark h))|(rename_i h;exact pp_cmp op_notN r_notN t p (noSet_mark h))
def JD(o:SnOk X S)(op:CmpOp){fa fb}(ha:PP X a fa)(hb:PP X b fb):PQ X (.Compare a [op] [b] pos) (ag (zm op b fa fb)):=by
 have no:PQ X (.Compare a [op] [b] pos) (ag λ_=>none):=λO Y pins s σ H Q I#[_,_,q,_]=>by cases q
 unfold zm;cases op<;>dsimp only[cmpG]<;>(try split)<;>first
|exact no|exact L0 (Ux (Nat.le_add_right _ _) (room60 o.room)) ha hb|exact L4 ha hb|exact L5 (Ux (Nat.le_add_right _ _) (room60 o.room)) ha hb|exact L6 ha hb|exact L8 o.room ha hb|exact L9 o.room ha hb|(rename_i h;exact pq_cmp op_in_seq r_in ha hb (noSet_mark h))|(rename_i h;exact pq_cmp op_notIn_seq r_notIn ha hb (noSet_mark h))|(rename_i h;exact pq_cmp op_isN r_isN ha hb (noSet_mark h))|(rename_i h;exact pq_cmp op_notN r_notN ha hb (noSet_mark h))
end
def  BU(x:Str):Option (Uh->Uj):=if x=("len":Str)then !eZ else if x=("isinstance":Str)then !fg else if x=("all":Str)then !tm else if x=("tuple":Str)then !eS else if x=("max":Str)then !jJ else if x=("min":Str)then !ED else none
def  BV(S:Sn)(x:Str):Uh->Uj:=if mN S x then match S.G.fn x with
|some (k,g)=>if k<=S.k thenλds=>bw (g ds)elseλ_=>none|none=>match S.G.ini x with
|some (k,g)=>if k+1<=S.k thenλds=>ES x (g ds)elseλ_=>none|none=>if S.G.no x then match BU x with|some g=>g|none=>λ_=>none elseλ_=>none elseλ_=>none
def  BW(S:Sn)(x:Str):Uh->Uj:=if mN S x then match S.G.fn x with
|some (k,g)=>if k<=S.k thenλds=>fZ (g ds)elseλ_=>none|none=>λ_=>none elseλ_=>none
section
variable{X:Cx}{S:Sn}{e:Expr}{es:Ui}{p pos:Pos}
def xu{α g:Type}(o:Option α):(o.bind λ_=>(none:Option g))=none:=by cases o<;>rfl
def eU{fa:TX}:PP X e λY=>(fa Y).bind λ_=>none:=λO Y pins s σ H Q I#[_,_,q,_]=>by dsimp only at q;rw[xu]at q;cases q
def k_call(o:SnOk X S)(x:Str){fa}(U:PX X (e::es) fa)(hst:(e::es).all aD=true):PP X (!17) λY=>(fa Y).bind (BV S x):=by
 rw[List.all_cons,and_eq_true]at hst;have h1:starEach (e::es) X.env=(false,eval e X.env)::starEach es X.env:=star1 hst.1;have h2:∀pos,(!19).any (·.1)=false:=λpos=>BS hst.2;unfold BV;split
 .rename_i hg;let[ok,gl]:=aU o hg;let[J,n2,n3]:=dD ok;split
  .rename_i k g hf;split;.rename_i hk;exact EO (o.g.fn x k g hf) (o.room.mono hk) gl U J h1 (h2 _)
   .exact eU
  .split
   .rename_i k g hf;split;.rename_i hk;exact ET (o.g.ini x k g hf) (o.room.mono hk) gl U J h1 (h2 _)
    .exact eU
   .split
    .rename_i hn;have hm:=o.g.no x hn;split
     .rename_i g C;unfold BU at C;split at C;.rename_i q;cases C;subst q;exact pp_callB call_len_seq (λO H xs ds d Q hd l e k=>by let[c,rfl,e]:=bA e;let[es,j,I]:=UK e;cases I;let[v,rfl,h]:=uS l;let[p,ys,rfl,q,g]:=kr j h;exact#[p,ys,rfl,msk_le.both q,k _ H (Same.refl _) (by show V.int ys.length=.int es.length;rw[g.len])]) gl hm PySem.boot_len U n3 J h1 (h2 _)
      .split at C;.rename_i q;cases C;subst q;exact pp_callB call_isi (λO H xs ds d Q hd l e k=>by let[d0,c,rfl,e]:=iB e;let[T,p,I]:=UK e;let[g,o,j]:=UK I;cases j;exact#[d0,c,T,g,l.full,p,o,k _ H (Same.refl _) rfl]) gl hm (!16) U n3 J h1 (h2 _)
       .split at C;.rename_i q;cases C;subst q;exact pp_callB (call_all o.calm) (λO H xs ds d Q hd l e k=>by let[c,rfl,e]:=bA e;let[es,t,I]:=UK e;let[g,r,o]:=UK I;cases o;let[v,rfl,h]:=uS l;let[p,ys,rfl,q,j]:=b8 t h;rw[wU r j]at q;exact#[p,g,rfl,msk_le.seq q,k _ H (Same.refl _) rfl]) gl hm (!16) U n3 J h1 (h2 _)
        .split at C;.rename_i q;cases C;subst q;exact pp_callTy call_tuple_of (λO H xs ds d Q hd l e k=>by
             let[c,rfl,e]:=bA e;let[es,r,I]:=UK e;cases I;let[v,rfl,h]:=uS l;let[p,ys,rfl,q,o]:=kr r h;refine#[p,ys,rfl,?_];rcases q with q|q;.refine .inl #[msk_le.seq q,λc g=>?_];have j:=fX hd g;exact k _ _ (Same.new g) #[c,ys,rfl,.of (by rw[aH j,ah]),IsL.mono (by rw[ko j];exact Same.new (by rw[aH j];exact g)) _ _ o]
             .exact .inr #[msk_le.seqT q,k _ H (Same.refl _) #[p,ys,rfl,q,o]]) gl hm (!16) U n3 J h1 (h2 _)
         .split at C;.rename_i q;cases C;subst q;exact pp_callB (call_maxA o.calm (Ux (Nat.add_le_add_left (!2) _) (room60 o.room))) (λO H xs ds d Q hd l e k=>by
              unfold jJ at e;split at e;.cases e;let[u,v,rfl,iu,iv]:=KZ l;cases iu;cases iv;exact .inr (.inl #[_,_,rfl,k _ H (Same.refl _) rfl])
              .split at e
               .rename_i ns e1;let[u,rfl,p,ys,rfl,hq,il]:=uS l;split at e;.cases e
                .rename_i hn;cases e;have z:=asInts_is e1 il;subst z;exact .inr (.inr #[p,ns,rfl,msk_le.seq hq,λz=>hn (by rw[z];rfl),k _ H (Same.refl _) rfl])
               .exact .inl (Fm O H xs _ d Q hd l e k)
              .cases e) gl hm b_max U n3 J h1 (h2 _)
          .split at C;.rename_i q;cases C;subst q;exact pp_callB (call_min2 o.calm) (λO H xs ds d Q hd l e k=>by let[c,r,rfl,e]:=iB e;let[i,p,e]:=UK e;let[j,I,e]:=UK e;cases e;let[u,v,rfl,o,g]:=KZ l;cases intD_some p;cases intD_some I;exact#[i,j,by rw[show u=.int i from o,show v=.int j from g],k _ H (Same.refl _) rfl]) gl hm (!16) U n3 J h1 (h2 _)
           .cases C
     .exact eU
    .exact eU
 .exact eU
def k_callR(o:SnOk X S)(x:Str)(I:PX X (e::es) fa)(j:(e::es).all aD=true):vn X (!17) λY=>(fa Y).bind (BW S x):=by
 rw[List.all_cons,and_eq_true]at j;have no:vn X (!17) λY=>(fa Y).bind λ_=>none:=λY=>by dsimp only;rw[xu];exact tz Y
 unfold BW;split
 .rename_i t;let[ok,J]:=aU o t;let[l,U,T]:=dD ok;split
  .rename_i k g C;split;.rename_i r;exact EQ (o.g.fn x k g C) (o.room.mono r) J I l (star1 j.1) ((λpos=>BS j.2) _)
   .exact no
  .exact no
 .exact no
end
def tX(e a:Expr)(f:Str)(p:Pos)(l:Nat)(env:Env):swapsWith e (!.Attribute a f p) l env=pure false:=by cases e<;>rfl
def tY{K}:∀{fd:List (Str×D)}{fs:List (Str×V)},fs.map (·.1)=fd.map (·.1)->IsL K M (fd.map (·.2)) (fs.map (·.2))->fd.lookup h=!d->∃v,fs.lookup h=!v/\Is K M d v
|[],_,_,_,q=>by cases q|_::_,[],e,_,_=>by simp at e|(g,c)::fd,(g',u)::fs,e,#[x,r,z,i,l],q=>by
  have e1:g'=g:=by simp at e;exact e.1
  have e2:fs.map (·.1)=fd.map (·.1):=by simp at e;simpa using e.2
  subst e1;have z':u::fs.map (·.2)=x::r:=z;cases z';rw[List.lookup_cons]at q;cases hb:h==g' with
|true=>rw[hb]at q;cases q;exact#[u,by rw[List.lookup_cons,hb],i]|false=>rw[hb]at q;let[v,h1,h2]:=tY e2 l q;exact#[v,by rw[List.lookup_cons,hb];exact h1,h2]
def  BX(x:Addr)(i:Nat)(g h:Str)(ff:xx)(G:uT):uT:=λY fs=>match d8 Y i with
|some (.sh,.adr a)=>if a=x/\fs.length<900 then(fs.lookup h).bind λd=>(ff [d]).bind λs=>G Y (nM g s.2 fs)else none|_=>none
section
variable{X:Cx}{Ca x:Addr}{rest:List Stmt}{pos:Pos}
def Fp(i:Nat)(F:Df X.prog X.w X.K X.mg X.base fn k ff)(hr:Room k X.A)(hg:Gl X fn)(T:(fn==("__debug__":Str))=false)(h2:DV X Ca x rest G)(hN:X.N[i]?=!self)(l:oQ X.env.scope self)(hd:(self==("__debug__":Str))=false)(t:(self==("__classdict__":Str))=false)(c:Cls X.K Ca)(na:NoAttr X.K Ca g)(nb:NoAttr X.K Ca h):DV X Ca x (.Assign [.Attribute (.Name self px) g pos'] (.Call (.Name fn p) [.Attribute (.Name self px2) h apos] [] cpos) pos::rest) (BX x i g h ff G):=λB O Y dx fd=>by
 let[fa,fdt,ps,hm,hk,I,Gf]:=F.ex;refine(ij (Ad (bH hN l hd t) (qK Gf hr hg hm hk I .nil sT (bi (Ac (bH hN l hd t) rfl) pa_nil) T rfl rfl) (tX _ _ _ _ _ _)) (PSs.ex λz:Bs×Ue×Ev×List _=>h2 z.1 z.2.1 z.2.2.1 dx z.2.2.2)).imp λEn σ H#[E,hx,#[fs,a1,U,a3],C,q,k]=>?_;have j:(match d8 Y i with|some (.sh,.adr a)=>if a=x/\fd.length<900 then(fd.lookup h).bind λd=>(ff [d]).bind λs=>G Y _ else none|_=>none)=!C:=q;split at j
 .rename_i a ha;split at j
  .rename_i hc;let[rfl,hl]:=hc;let[d,q1,j]:=UK j;let[s,q2,j]:=UK j;let[v,hv,iv]:=tY U a3 q1;let[F1,f1,_]:=E.fp;let[w,ew,ow]:=f1 i _ (slAt_some ha);cases ow.2;refine#[.ref a,ew,a,Ca,dx,fs,v,rfl,E.same a _ a1,c,nb,hv,#[O,[d],s,E.lis,#[v,[],rfl,iv,rfl],q2,λy H1 r=>?_]];let[s1,iy]:=r.is E.lis;have E1:=E.grow s1;have hlen:fs.length=fd.length:=by have:=congrArg List.length U;simpa using this
   refine#[.ref a,ew,a,Ca,dx,fs,rfl,E1.same a _ a1,c,na,by lia,?_];let[E3,me]:=E1.store hx a1;let[b1,b2]:=rg iy U (IsL.mono s1.msk _ _ a3);refine#[#[#[upd B.H a (.ins Ca dx _),B.O],O,Y,nM g s.2 fd],E3,hx,#[_,ah,b1,by rw[me];exact b2],C,j,λJ H' O' fs' k1 k2 k3 k4 k5=>k J H' O' fs' (λb o I h=>k1 b o I (by show upd B.H a _ b=!o;rw[af I];exact h)) k2 k3 k4 k5]
  .cases j
 .cases j
end
def  vT(N:Uc)(nm:List (Str×NameKind)):Ub:=(List.range N.length).filter λi=>match N[i]?with|some x=>decide (nm.lookup x=some .local)|none=>false
def tZ(h:N[i]?=!x)(h2:g.lookup x=some .local):i∈vT N g:=by grind[vT]
def  BY(S:Sn)(x:Str):Option Nat:=if S.nm.lookup x=some .local then qZ S.N x else none
mutual
noncomputable def  MH(S:Sn):Nat->Expr->D->Vv->Option Vv
|0=>λ_ _ _=>none|n+1=>λe=>match e with
|.Name x _=>match BY S x with|some i=>bc i|none=>λ_ _=>none
|.Tuple ts _ _=>if ts.all aD then nE ts.length (Fq S n ts)elseλ_ _=>none|_=>λ_ _=>none
noncomputable def  Fq(S:Sn):Nat->Ui->Uh->Vv->Option Vv
|0=>λ_ _ _=>none|n+1=>λes=>match es with
|[]=>cv|t::ts=>if aD t then aC (MH S n t) (Fq S n ts)elseλ_ _=>none
end
def  rH(S:Sn)(x:Str):Option Nat:=if S.nm.lookup x=some .local\/S.nm.lookup x=some .cell then qZ S.N x else none
mutual
noncomputable def  zn(S:Sn):Nat->Expr->D->Ev->Option Ev
|0=>λ_ _ _=>none|n+1=>λe=>match e with
|.Name x _=>match rH S x with|some i=>br i|none=>λ_ _=>none
|.Tuple ts _ _=>if ts.all aD then yR ts.length (Fs S n ts)elseλ_ _=>none|_=>λ_ _=>none
noncomputable def  Fs(S:Sn):Nat->Ui->Uh->Ev->Option Ev
|0=>λ_ _ _=>none|n+1=>λes=>match es with
|[]=>mM|t::ts=>if aD t then cx (zn S n t) (Fs S n ts)elseλ_ _=>none
end
section
variable{X:Cx}{S:Sn}
def asg1(h:aD t=true):(assignEach (t::g) env).map (·.2)=assign t env::(assignEach g env).map (·.2):=by cases t<;>first|rfl|cases h
def asgLen:∀{ts:Ui},(assignEach ts env).length=ts.length
|[]=>rfl|t::ts=>by cases t<;>exact congrArg (·+1) (asgLen (ts:=ts))
def B0:∀{ts:Ui},ts.all aD=true->(assignEach ts env).findIdx? (·.1)=none
|[],_=>rfl|t::ts,h=>by
  rw[List.all_cons,and_eq_true]at h;have ih:=B0 (env:=env) h.2;have:assignEach (t::ts) env=(false,assign t env)::assignEach ts env:=by have h1:=h.1;cases t<;>first|rfl|cases h1
  rw[this,List.findIdx?_cons];simp[ih]
def xv:K1 X ks e λ_ _=>none:=λO Y d pins s σ H v u Q I r#[_,_,_,q,_]=>by cases q
def B3:AD X ks e λ_ _=>none:=λO Y d pins s σ H v u Q I r#[_,_,_,q,_]=>by cases q
def xw:EI X e λ_ _=>none:=λB O Y d pins s σ H v u Q I r#[_,_,_,q,_]=>by cases q
def B4:AZ X e λ_ _=>none:=λB O Y d pins s σ H v u Q I r#[_,_,_,q,_]=>by cases q
def vU(h:BY S x=!i):S.nm.lookup x=some .local/\S.N[i]?=!x:=by
 unfold BY at h;split at h;.exact#[by assumption,f6 h]
 .cases h
def t4(h:rH S x=!i):(S.nm.lookup x=some .local\/S.nm.lookup x=some .cell)/\S.N[i]?=!x:=by
 unfold rH at h;split at h;.exact#[by assumption,f6 h]
 .cases h
def Hi(o:SnOk X S):∀n,(∀e,K1 X (vT S.N S.nm) e (MH S n e))/\∀es,AD X (vT S.N S.nm) es (Fq S n es):=by intro n;induction n with
|zero=>exact#[λe=>xv,λes=>B3]|succ n g=>
  refine#[λe=>?_,λes=>?_]
  .unfold MH;split
   .split;.rename_i i hi;let[h1,h2]:=vU hi;exact Ez (by rw[o.N];exact o.nd) (by rw[o.N];exact h2) (.inl (o.loc _ h1)) (tZ h2 h1) (.inr (o.loc _ h1))
    .exact xv
   .split;.rename_i h;exact IG o.calm (g.2 _) asgLen (B0 h)
    .exact xv
   .exact xv
  .unfold Fq;split
   .exactλO Y ds=>pgs_nil.imp λj σ H Q#[E,g,Y',e,k]=>by cases ds with
 |nil=>cases e;exact#[g,k σ E rfl λ_ _ _ h=>h]|cons _ _=>cases e 
   .split;.rename_i h;exact gsd_cons (g.1 _) (g.2 _) (asg1 h)
    .exact B3
def xy(o:SnOk X S)(l:∀x,X.fn x=true):∀n,(∀e,EI X e (zn S n e))/\∀es,AZ X es (Fs S n es):=by intro n;induction n with
|zero=>exact#[λe=>xw,λes=>B4]|succ n g=>
  refine#[λe=>?_,λes=>?_]
  .unfold zn;split
   .split;.rename_i i hi;let[h1,h2]:=t4 hi;exact EJ (by rw[o.N];exact o.nd) (by rw[o.N];exact h2) (h1.elim (λh=>.inl (o.loc _ h)) λh=>.inr (o.cel _ h)) (.inl (l _))
    .exact xw
   .split;.rename_i h;exact IU o.calm (g.2 _) asgLen (B0 h)
    .exact xw
   .exact xw
  .unfold Fs;split
   .exactλB O Y ds=>pgs_nil.imp λj σ H Q#[E,g,Y',e,k]=>by cases ds with
 |nil=>cases e;exact#[g,k σ E]|cons _ _=>cases e 
   .split;.rename_i h;exact gse_cons (g.1 _) (g.2 _) (asg1 h)
    .exact B4
noncomputable def  kO(S:Sn)(sc:Scope):Bool:=decide (sc.kind=.function)&&sc.names.all λy=>not (decide (y.2=.cell))&&(not (decide (y.2=.local))||decide (sc.names.lookup y.1=some .local))&&(not (decide (y.2=.free))||decide (S.nm.lookup y.1=some .cell)||decide (S.nm.lookup y.1=some .free))
def vV(o:SnOk X S)(h:kO S l=true):CSc X l (vT S.N l.names):=by
 unfold kO at h;rw[and_eq_true]at h;have j:=List.all_eq_true.mp h.2;refine#[Uv h.1,λy g z=>?_,λy g z=>?_,λy g z=>?_,λi x p r=>tZ (by rw[<-o.N];exact p) r];.have:=j y g;simp[z]at this
 .have:=j y g;simp[z]at this;exact this
 .have:=j y g;simp[z]at this;rcases this with q|q;.exact .inl (o.cel _ q)
  .exact o.fre _ q
def mD{f:Str→NameKind→NameKind}:∀{l:List (Str×NameKind)},(l.map fun y=>(y.1,f y.1 y.2)).lookup x=(l.lookup x).map (f x)
|[]=>rfl|(n,k)::l=>by
    rw[List.map_cons,List.lookup_cons,List.lookup_cons];cases h:x==n with
    | true => have:x=n:=by simpa using h
              subst this;rfl|false=>exact mD
def gA:(relabel g env).names.lookup x=(g.names.lookup x).map λk=>if k==NameKind.free&&env.scope.kind==.function&&env.kindOf x==some .cell then NameKind.cell else k:=by
 have e:(relabel g env).names=g.names.map λy=>(y.1,if y.2==NameKind.free&&env.scope.kind==ScopeKind.function&&env.kindOf y.1==!NameKind.cell then NameKind.cell else y.2):=by apply List.map_congr_left;rintro⟨n,k⟩_;dsimp only;split<;>rfl
 rw[e];exact mD (f:=λn k=>if k==NameKind.free&&env.scope.kind==ScopeKind.function&&env.kindOf n==!NameKind.cell then NameKind.cell else k)
def t9(o:SnOk X S){j:Scope}(h:kO S j=true)(C:Addr)(s:Shared)(H:Hp)(fp:List Addr):SnOk (pU X j C s H fp) {S with nm:=j.names}where
 g:=o.g;N:=o.N;nd:=o.nd;calm:=o.calm;room:=o.room;loc:=λx q=>by show(relabel j X.env).names.lookup x=_;rw[gA,show j.names.lookup x=some .local from q];rfl
 cel:=λx q=>by exfalso;exact(vV o h).nocell _ (PySem.mem_of_lookup q) rfl
 fre:=λx q=>by
  show(relabel j X.env).names.lookup x=_\/(relabel j X.env).names.lookup x=_;rw[gA,show j.names.lookup x=some .free from q];dsimp only[Option.map];split;.exact .inl rfl
  .exact .inr rfl
 glo:=λx q=>by show(relabel j X.env).names.lookup x=_;rw[gA,show j.names.lookup x=some .globalImplicit from q];rfl
end
noncomputable def  B5:Const->TY
|.int i=>λ_=>!.int i|.bool b=>λ_=>!.bl b|.none=>λ_=>some .non|.str x=>λ_=>!.str x|_=>λ_=>none
noncomputable def  ac{α:Type}:Vv->Option α:=λ_=>none
noncomputable def  B6:Expr->Bool
|.UnaryOp .Not _ _=>false|.BoolOp _ _ _=>false|.IfExp _ _ _ _=>false|.Compare _ _ _ _=>false|_=>true
def plainT_ok(h:B6 e=true):∀whole,isTrue e env whole=(do let v<-whole;standAt e.pos;holding [v] (truthy v)):=by intro whole;cases e with
|UnaryOp op a pos=>cases op<;>first|rfl|cases h
|BoolOp _ _ _=>cases h|IfExp _ _ _ _=>cases h|Compare _ _ _ _=>cases h|_=>rfl
noncomputable def  B7:Expr->Bool
|.Slice _ _ _ _=>false|_=>true
def noSl_ok(h:B7 b=true):cU b:=by intro o i;cases b<;>first|rfl|cases h
noncomputable def  MI:Expr->Bool
|.BinOp _ _ _ _=>true|_=>false
def  Te:Expr->Bool
|.ListComp _ _ _ _=>true|.Subscript _ k _=>not (B7 k)|_=>false
def  Tf:Expr->Bool
|.BinOp _ op b _=>match op with
  |.Add=>Te b|_=>false
|_=>false
noncomputable def  MJ:Expr->Bool
|.Tuple _ _ _=>true|_=>false
def  Hj(S:Sn)(m:Str)(apos pos:Pos)(args:Ui):Bool:=args.all aD&&decide (args.length<30)&&apos.endLine==pos.line
def  P9:Expr->CmpOp->Expr->Bool
|.Constant .none _ _,.In,b=>iI b|_,_,_=>false
def B8(h:P9 a op b=true):op=.In/\iI b=true:=by
 unfold P9 at h;split at h;.exact#[rfl,h]
 .cases h
noncomputable def  B9:Expr->Option (Str×Expr)
|.Call f as ks _=>match f,as,ks with
  |.Name g _,[b],[]=>!(g,b)|_,_,_=>none
|_=>none
def vW(h:B9 e=!(g,b)):∃p q,e=.Call (.Name g p) [b] [] q:=by
 unfold B9 at h;split at h
 .split at h;.cases h;exact#[_,_,rfl]
  .cases h
 .cases h
def  JE(S:Sn)(f:Str):Ui->Option Expr
|[a]=>match B9 a with
  |some (g,b)=>if f=("tuple":Str)/\g=("reversed":Str)/\mN S f=true/\S.G.no f=true/\mN S g=true/\S.G.no g=true/\aD b=true then !b else none|none=>none
|_=>none
def zo(h:JE S f as=!b):∃p q,as=[.Call (.Name "reversed" p) [b] [] q]/\f=("tuple":Str)/\mN S "tuple"=true/\S.G.no "tuple"=true/\mN S "reversed"=true/\S.G.no "reversed"=true/\aD b=true:=by
 unfold JE at h;split at h
 .split at h
  .rename_i g l j;split at h;.rename_i k;cases h;let[p,q,rfl]:=vW j;let[rfl,rfl,k]:=k;exact#[p,q,rfl,rfl,k]
   .cases h
  .cases h
 .cases h
def  JF(S:Sn):Expr->Ui->List Keyword->Option (Expr×Int)
|.Name f _,[a],[k]=>match k.value with
  |.Constant (.int n) _ _=>if f=("max":Str)/\k.arg=!("default":Str)/\mN S f=true/\S.G.no f=true/\aD a=true then !(a,n)else none|_=>none
|_,_,_=>none
def zq{S:Sn}{f a:Expr}{n:Int}{as:Ui}{ks:List Keyword}(h:JF S f as ks=!(a,n)):∃p k2 p2 g,f=.Name "max" p/\as=[a]/\ks=[#[some "default",.Constant (.int n) k2 p2,g]]/\mN S "max"=true/\S.G.no "max"=true/\aD a=true:=by
 unfold JF at h;split at h
 .rename_i f p a k;let[k1,k2,k3]:=k;split at h;.rename_i j q e;let[[rfl,r,h1,h2,l],o]:=aj h;cases e;cases r;cases o;exact#[_,_,_,_,rfl,rfl,rfl,h1,h2,l]
  .cases h
 .cases h
mutual
noncomputable def  rd:Nat->Sn->Expr->TY
|0=>λ_ _=>ac|n+1=>λS e=>match e with
|.Constant c _ _=>B5 c|.Name x _=>K4 S x|.BinOp a op b _=>if Tf e thenλY=>(rf n S e Y).map D.lst else ME op (rd n S a) (rd n S b)|.UnaryOp op a _=>match op with
   |.Not=>Aw (rd n S a)|.USub=>λY=>(rd n S a Y).bind AN|_=>ac
|.BoolOp op vs p=>rl n S op vs p|.Compare a ops bs _=>match ops,bs with
   |[op],[b]=>zm op b (rd n S a) (rd n S b)|[.LtE,.LtE],[b,c]=>if iI c then dX nz nz (rd n S a) (rd n S b) (rd n S c)else ac|_,_=>ac
|.IfExp c a b _=>GY (rq n S c) (rd n S a) (rd n S b)|.Tuple es _ _=>λY=>(bT (rx n S es Y)).bind λds=>!.tup ds|.Attribute o m _=>match o with
   |.Name x _=>λY=>(K4 S x Y).bind (re S.G.fl m)|_=>ac
|.Subscript a b _=>match b with
   |.Slice lo hi none _=>aI (qU (rd n S a) (ro n S lo) (ro n S hi)) λY=>(nH (rd n S a) (ro n S lo) (ro n S hi) Y).map D.lst|b=>if B7 b then aa ax (rd n S a) (rd n S b)else ac
|.Call f as ks pos=>match ks with
   |[]=>match f with
    |.Name f _=>match as with
     |[]=>ac|a::as=>match JE S f (a::as)with
     |some b=>λY=>(rx n S [b] Y).bind Jm|none=>aI (if(a::as).all aD thenλY=>(rx n S (a::as) Y).bind (BV S f)else ac) λY=>(rf n S e Y).map D.lst 
    |.Attribute o m apos=>match o with
     |.Name x _=>match as with
      |[]=>if Hj S m apos pos []thenλY=>bw (kA (K4 S x) (λ_=>![]) (S.G.mt m) S.k m Y)else ac|a::as=>if m=("index":Str)/\(as.isEmpty&&aD a&&apos.endLine==pos.line)=true then ph (K4 S x) (rd n S a)else ac 
     |_=>ac 
    |_=>ac 
   |_=>match JF S f as ks with
   |some (a,n0)=>λY=>(rx n S [a] Y).bind (BR n0)|none=>ac
|_=>λY=>(rf n S e Y).map D.lst
noncomputable def  rl:Nat->Sn->BoolOp->Ui->Pos->TY
|0=>λ_ _ _ _=>ac|n+1=>λS op vs p=>match op,vs with
|_,[a]=>rd n S a|.And,a::b::r=>mK (rd n S a) (rl n S .And (b::r) p)|_,_=>ac
noncomputable def  rq:Nat->Sn->Expr->T1
|0=>λ_ _=>ac|n+1=>λS e=>match e with
|.UnaryOp op a _=>match op with
   |.Not=>bI (rq n S a)|_=>ac
|.BoolOp op vs p=>rb n S op vs p|.Compare a ops bs _=>match ops,bs with
   |[op],[b]=>if P9 a op b=true then ag (aa Jz (rd n S a) (rd n S b))else ag (zm op b (rd n S a) (rd n S b))|[.LtE,.LtE],[b,c]=>if iI c then ag (dX nz nz (rd n S a) (rd n S b) (rd n S c))else ac|_,_=>ac
|e=>if B6 e thenλY=>(rd n S e Y).bind yK else ac
noncomputable def  rb:Nat->Sn->BoolOp->Ui->Pos->T1
|0=>λ_ _ _ _=>ac|n+1=>λS op vs p=>match op,vs with
|.And,[a]=>rq n S a|.Or,[a]=>rq n S a|.And,a::b::r=>yJ (rq n S a) (rb n S .And (b::r) p)|.Or,a::b::r=>kc (rq n S a) (rb n S .Or (b::r) p)|_,_=>ac
noncomputable def  rx:Nat->Sn->Ui->TX
|0=>λ_ _=>ac|n+1=>λS es=>match es with
|[]=>λ_=>![]|a::as=>if aD a then ae (rd n S a) (rx n S as)else ac
noncomputable def  ro:Nat->Sn->Option Expr->Vv->Option Uk
|0=>λ_ _=>ac|n+1=>λS e=>match e with
|none=>λ_=>!none|some e=>partF (rd n S e)noncomputable def  rf:Nat->Sn->Expr->TX
|0=>λ_ _=>ac|n+1=>λS e=>match e with
|.List es _=>λY=>bT (rx n S es Y)|.ListComp elt gs sc _=>match gs with
   |[g]=>if kO S sc&&iI g.iter&&decide (g.is_async=0)then au (vT S.N sc.names) (rj n S g.target g.iter) (MH {S with nm:=sc.names} n g.target) (rqs n {S with nm:=sc.names} g.ifs) (rd n {S with nm:=sc.names} elt)else ac|_=>ac
|.Subscript a b _=>match b with
   |.Slice lo hi none _=>nH (rd n S a) (ro n S lo) (ro n S hi)|_=>ac
|.BinOp a op b _=>match op with
   |.Mult=>Bg (rf n S a) (rd n S b)|.Add=>fN (if MI a then aI (rd n S a) λY=>(rf n S a Y).map D.lst else rd n S a) (rd n S b)|_=>ac
|.Call f as ks _=>match ks with
   |[]=>match f with
    |.Name f _=>match as with
     |[a]=>if f=("list":Str)/\mN S f=true/\S.G.no f=true/\aD a=true then aI (rv n S a) λY=>(rx n S [a] Y).bind mw else if f=("sorted":Str)/\mN S f=true/\S.G.no f=true/\aD a=true thenλY=>(rx n S [a] Y).bind c7 else ac|_=>ac 
    |_=>ac 
   |_=>ac
|_=>ac
noncomputable def  rv:Nat->Sn->Expr->TX
|0=>λ_ _=>ac|n+1=>λS e=>match e with
|.Call (.Name f _) [a] [] _=>if f=("range":Str)/\mN S f=true/\S.G.no f=true/\mN S "list"=true/\S.G.no "list"=true/\aD a=true thenλY=>(rx n S [a] Y).bind P3 else ac|.Call (.Name f _) [a,b] [] _=>if f=("range":Str)/\mN S f=true/\S.G.no f=true/\mN S "list"=true/\S.G.no "list"=true/\aD a=true/\aD b=true thenλY=>(rx n S [a,b] Y).bind Jt else ac|_=>ac
noncomputable def  rqs:Nat->Sn->Ui->T1
|0=>λ_ _=>ac|n+1=>λS es=>match es with
|[]=>λ_=>!true|[c]=>rq n S c|_=>ac
noncomputable def  rj:Nat->Sn->Expr->Expr->TX
|0=>λ_ _ _=>ac|n+1=>λS tg e=>aI (match e with
|.Call (.Name f _) [a] [] _=>if f=("range":Str)/\mN S f=true/\S.G.no f=true/\aD a=true thenλY=>(rx n S [a] Y).bind nD else if f=("enumerate":Str)/\mN S f=true/\S.G.no f=true/\aD a=true/\MJ tg=true thenλY=>(rx n S [a] Y).bind xg else if f=("reversed":Str)/\mN S f=true/\S.G.no f=true/\aD a=true thenλY=>(rx n S [a] Y).bind Oq else ac|.Call (.Name f _) [a,b] [] _=>if f=("range":Str)/\mN S f=true/\S.G.no f=true/\aD a=true/\aD b=true thenλY=>(rx n S [a,b] Y).bind vi else if f=("zip":Str)/\mN S f=true/\S.G.no f=true/\aD a=true/\aD b=true/\MJ tg=true thenλY=>(rx n S [a,b] Y).bind vk else ac|_=>ac) λY=>(rd n S e Y).bind seqD
end
section
variable{X:Cx}{S:Sn}{e:Expr}{es:Ui}{pos:Pos}
def PP.u(h:PP X e f)(g:iF e=false):PPu X e f:=λO Y=>(h O Y).pu g
def PPu.p(h:PPu X e f):PP X e f:=λO Y=>(h O Y).1
def PF.u(h:PF X e f)(g:iF e=false):PFu X e f:=λO Y=>(h O Y).pu g
def ua:PQ X e ac:=λO Y pins s σ H Q I#[_,_,q,_]=>by cases q
def Cc:PWQ X e ac:=λO Y g pins s σ H Q I#[_,_,q,_]=>by cases q
def Hk:PX X es ac:=λO Y pos pins s σ H Q I#[_,_,q,_]=>by cases q
def Cd:K2 X es ac:=λO Y pins s σ H Q I#[_,_,q,_]=>by cases q
def xz:PJ X tg e ac:=λO Y pins s σ H R I#[_,_,q,_]=>by cases q
def JG{e}:EF X e ac:=λO Y pins s σ H Q I#[_,_,q,_]=>by cases q
def MK(h1:PJ X tg e f)(h2:PJ X tg e g):PJ X tg e (aI f g):=λO Y pins s σ H R I#[E,ds,q,k]=>by
 rcases or_some q with q|q;.exact h1 O Y pins s σ H R I #[E,ds,q,k]
 .exact h2 O Y pins s σ H R I #[E,ds,q,k]
def Ft{K}(h:tP K O Y (o.map D.lst) σ H Q):Om K O Y o σ H Q:=by let[E,d,e,k]:=h;cases o with
|none=>cases e|some ds=>cases e;exact#[E,ds,rfl,λp xs H' s g l=>k _ _ (s.trans (Same.new g)) #[p,xs,rfl,.of (by rw[aH ((E.grow s).fresh g),ah]),IsL.mono (Same.new g).msk _ _ l]]
def PFu.pp(h:PFu X e f):PPu X e λY=>(f Y).map D.lst:=λO Y=>(h O Y).imp λσ H Q q=>Ft q
def JH(h1:PFu X e f)(h2:PFu X e g):PFu X e (aI f g):=λO Y=>(h1 O Y).by2 (h2 O Y) λσ H Q#[E,ds,q,k]=>by rcases or_some q with q|q;all_goals grind
def Ce(r:X.calm=true)(C:CSc X scope ks)(hi:PJ X tg iter I)(o:∀C s H fp,K1 (!18) ks tg g)(j:∀C s H fp,K2 (!18) ifs t)(p:∀C s H fp,PP (!18) elt J)(l:∀x,foldedSetIterable iter X.env x=pure x):PFu X (!12) (au ks I g t J):=λO Y=>(w5 r C (hi O Y) (λC s H fp=>PG.ex λz:Ue×Vv×D=>o C s H fp z.1 z.2.1 z.2.2) (λC s H fp=>PTs.ex λz:Ue×Vv=>j C s H fp z.1 z.2) (λC s H fp=>PE.ex λz:Ue×Vv=>p C s H fp z.1 z.2) l).imp λσ H Q h=>AE h
def Fu(c:Const):PP X (.Constant c j pos) (B5 c):=by
 cases c<;>first|exact pp_int|exact(λO Y=>pe_bl.imp λσ H Q#[E,d,e,k]=>by cases e;exact k _ H (Same.refl _) rfl)|exact(λO Y=>pe_non.imp λσ H Q#[E,d,e,k]=>by cases e;exact k _ H (Same.refl _) rfl)|exact(λO Y=>pe_str.imp λσ H Q#[E,d,e,k]=>by cases e;exact k _ H (Same.refl _) rfl)|exact pp_no
structure Snd(n:Nat):Prop where
 rd:∀X S,SnOk X S->∀e,PPu X e (rd n S e)rl:∀X S,SnOk X S->∀op vs p,PP X (.BoolOp op vs p) (rl n S op vs p)rq:∀X S,SnOk X S->∀e,PQ X e (rq n S e)rb:∀X S,SnOk X S->∀op vs p,PWQ X (.BoolOp op vs p) (rb n S op vs p)rx:∀X S,SnOk X S->∀es,PX X es (rx n S es)ro:∀X S,SnOk X S->∀e,EF X e (ro n S e)rf:∀X S,SnOk X S->∀e,PFu X e (rf n S e)rv:∀X S,SnOk X S->∀e p q,PFu X (.Call (.Name "list" p) [e] [] q) (rv n S e)rqs:∀X S,SnOk X S->∀es,K2 X es (rqs n S es)rj:∀X S,SnOk X S->∀tg e,PJ X tg e (rj n S tg e)
def lastM(h:iI c=true):lastMarks [.LtE,.LtE] [b,c]=false:=noSet_mark h
def Qa(n:Nat)(I:Snd n)(o:SnOk X S)(e:Expr):PPu X e (rd (n+1) S e):=by
 have P:=λe=>(I.rd X S o e).p;have no:PPu X e ac:=qW;unfold L2.rd;split;.exact(Fu _).u rfl
 .exact(rG o _).u rfl
 .split;.exact(I.rf X S o _).pp
  .exact(MF _ (P _) (P _)).u rfl
 .split;.exact(IA (P _)).u rfl
  .exact(AO (P _)).u rfl
  .exact no
 .exact(I.rl X S o _ _ _).u rfl
 .split;.exact(MG o _ (P _) (P _)).u rfl
  .split;.rename_i h;exact(pp_lele (P _) (P _) (P _) (lastM h)).u rfl
   .exact no
  .exact no
 .exact(L7 (I.rq X S o _) (P _) (P _)).u rfl
 .exact(Ax (I.rx X S o _)).u rfl
 .split;.exact(Ja (rG o _) (λC Ca h1 h2=>o.g.fl C _ Ca h1 h2) rfl).u rfl
  .exact no
 .split;.exact vo ((IN (P _) (I.ro X S o _) (I.ro X S o _)).u rfl) ((AT (P _) (I.ro X S o _) (I.ro X S o _)).u rfl).pp
  .split;.rename_i h;exact(pp_ix (P _) (P _) (noSl_ok h)).u rfl
   .exact no
 .split
  .split
   .split;.exact no
    .split;.rename_i b U;let[_,_,T,rfl,h1,h2,j,h4,h5]:=zo U;cases T;let[ok,r]:=aU o h1;let[t,l]:=aU o j;exact(Jn o.calm r (o.g.no _ h2) l (o.g.no _ h4) (I.rx X S o _) (star1 h5)).u rfl
     .refine vo ?_ (I.rf X S o _).pp;split;.rename_i h;exact(k_call o _ (I.rx X S o _) h).u rfl
      .exact qW
   .split
    .split
     .split;.rename_i h;unfold Hj at h;rw[and_eq_true,and_eq_true]at h;exactλO Y=>(Jc (yT (rG o _) (λC k f q=>o.g.mt _ C k f q) o.room h.2 O Y)).pu rfl
      .exact no
     .rename_i as;split;.rename_i h;let[rfl,h]:=h;rw[and_eq_true,and_eq_true]at h;cases as with
|nil=>exact(zi (room60 o.room) (rG o _) (P _) (star1 h.1.2) h.2).u rfl|cons _ _=>cases h.1.1
      .exact no
    .exact no
   .exact no
  .split;.rename_i a n0 J;let[_,_,_,_,rfl,rfl,rfl,h1,h2,j]:=zq J;let[ok,r]:=aU o h1;exact(Fo o.calm r (o.g.no _ h2) (I.rx X S o _) (star1 j)).u rfl
   .exact no
 .exact(I.rf X S o _).pp
def Qb(n:Nat)(I:Snd n)(o:SnOk X S)(op:BoolOp)(g:Ui)(p:Pos):PP X (.BoolOp op g p) (rl (n+1) S op g p):=by
 have P:=λe=>(I.rd X S o e).p;unfold L2.rl;split;.exact Iy (P _)
 .exact Iz (P _) (I.rl X S o _ _ _)
 .exact pp_no
def Qc(n:Nat)(I:Snd n)(o:SnOk X S)(e:Expr):PQ X e (rq (n+1) S e):=by
 have P:=λe=>(I.rd X S o e).p;unfold L2.rq;split
 .split;.exact IB (I.rq X S o _)
  .exact ua
 .exact(I.rb X S o _ _ _).pq
 .split
  .split;.rename_i h;let[rfl,h2]:=B8 h;exact pq_cmp (JA (room60 o.room)) MC (P _) (P _) (noSet_mark h2)
   .exact JD o _ (P _) (P _)
  .split;.rename_i h;exact pq_lele (P _) (P _) (P _) (lastM h)
   .exact ua
  .exact ua
 .split;.rename_i h;exact pq_val (P _) (plainT_ok h)
  .exact ua
def Qd(n:Nat)(I:Snd n)(o:SnOk X S)(op:BoolOp)(g:Ui)(p:Pos):PWQ X (.BoolOp op g p) (rb (n+1) S op g p):=by
 unfold L2.rb;split;.exact pw_and1D (I.rq X S o _)
 .exact pw_or1D (I.rq X S o _)
 .exact pw_andD (I.rq X S o _) (I.rb X S o _ _ _)
 .exact pw_orD (I.rq X S o _) (I.rb X S o _ _ _)
 .exact Cc
def Qe(n:Nat)(I:Snd n)(o:SnOk X S)(es:Ui):PX X es (rx (n+1) S es):=by
 unfold L2.rx;split;.exact vg
 .split;.rename_i h;exact px_cons (I.rd X S o _).p (I.rx X S o _) (star1 h)
  .exact Hk
def Qf(n:Nat)(I:Snd n)(o:SnOk X S)(e:Option Expr):EF X e (ro (n+1) S e):=by
 unfold L2.ro;split;.exact AR
 .exact AS (I.rd X S o _).p
def ML(n:Nat)(I:Snd n)(o:SnOk X S)(es:Ui):K2 X es (rqs (n+1) S es):=by
 unfold L2.rqs;split;.exact EA
 .exact EB (I.rq X S o _)
 .exact Cd
def JI:bootBuiltins "list"=!.type "list":=by decide+kernel
def Qg(n:Nat)(I:Snd n)(o:SnOk X S)(e:Expr):PFu X e (rf (n+1) S e):=by
 have P:=λe=>(I.rd X S o e).p;unfold L2.rf;split;.exact(IC (I.rx X S o _)).u rfl
 .split
  .rename_i g;split;.rename_i h;rw[and_eq_true,and_eq_true]at h;let[tg,iter,ifs,as]:=g;have t:as=0:=Uv h.2;subst t;have j:=t9 o h.1.1;exact Ce o.calm (vV o h.1.1) (I.rj X S o _ _) (λC s H fp=>(Hi (j C s H fp) n).1 tg) (λC s H fp=>I.rqs _ _ (j C s H fp) _) (λC s H fp=>(I.rd _ _ (j C s H fp) _).p) (gz h.1.2)
   .exact cW
  .exact cW
 .split;.exact(AT (P _) (I.ro X S o _) (I.ro X S o _)).u rfl
  .exact cW
 .split;.exact(Jj (λO Y=>(I.rf X S o _ O Y).1) (P _)).u rfl
  .refine(Ji ?_ (P _)).u rfl;split;.exact(vo (I.rd X S o _) (I.rf X S o _).pp).p
   .exact P _
  .exact cW
 .split
  .split
   .split
    .split;.rename_i h;let[rfl,h1,h2,l]:=h;let[ok,r]:=aU o h1;exact JH (I.rv X S o _ _ _) ((Eu r (o.g.no _ h2) JI (I.rx X S o _) (star1 l)).u rfl)
     .split;.rename_i h;let[rfl,h1,h2,l]:=h;let[ok,r]:=aU o h1;exact(By o.room r (o.g.no _ h2) (I.rx X S o _) (star1 l)).u rfl
      .exact cW
    .exact cW
   .exact cW
  .exact cW
 .exact cW
def Qh(n:Nat)(I:Snd n)(o:SnOk X S)(e:Expr)(p q:Pos):PFu X (.Call (.Name "list" p) [e] [] q) (rv (n+1) S e):=by
 unfold L2.rv;split
 .split;.rename_i h;let[rfl,h1,h2,C,t,r]:=h;let[ok,J]:=aU o h1;let[l,j]:=aU o C;exact(Fi o.calm j (o.g.no _ t) J (o.g.no _ h2) (I.rx X S o _) (star1 r)).u rfl
  .exact cW
 .split;.rename_i h;let[rfl,h1,h2,C,t,r,T]:=h;let[ok,J]:=aU o h1;let[l,j]:=aU o C;exact(Bz o.calm j (o.g.no _ t) J (o.g.no _ h2) (I.rx X S o _) (by rw[star1 r,star1 T];rfl) (star1 T)).u rfl
  .exact cW
 .exact cW
def Qi(n:Nat)(I:Snd n)(o:SnOk X S)(tg e:Expr):PJ X tg e (rj (n+1) S tg e):=by
 unfold L2.rj;refine MK ?_ (IF (I.rd X S o _).p);split
 .split;.rename_i h;let[rfl,h1,h2,h3]:=h;let[ok,gl]:=aU o h1;exact yM gl (o.g.no _ h2) (I.rx X S o _) (star1 h3)
  .split;.rename_i h;let[rfl,h1,h2,h3,h4]:=h;let[ok,gl]:=aU o h1;cases tg<;>first
|exact Jh gl (o.g.no _ h2) (I.rx X S o _) (star1 h3)|cases h4
   .split;.rename_i h;let[rfl,h1,h2,h3]:=h;let[ok,gl]:=aU o h1;exact Mr gl (o.g.no _ h2) (I.rx X S o _) (star1 h3)
    .exact xz
 .split;.rename_i h;let[rfl,h1,h2,h3,h4]:=h;let[ok,gl]:=aU o h1;exact yN gl (o.g.no _ h2) (I.rx X S o _) (by rw[star1 h3,star1 h4];rfl) (star1 h4)
  .split;.rename_i h;let[rfl,h1,h2,h3,h4,h5]:=h;let[ok,gl]:=aU o h1;cases tg<;>first
|exact IL gl (o.g.no _ h2) (I.rx X S o _) (by rw[star1 h3,star1 h4];rfl) (star1 h4)|cases h5
   .exact xz
 .exact xz
def sound:∀n,Snd n
|0=>#[λ_ _ _ _=>qW,λ_ _ _ _ _ _=>pp_no,λ_ _ _ _=>ua,λ_ _ _ _ _ _=>Cc,λ_ _ _ _=>Hk,λ_ _ _ _=>JG,λ_ _ _ _=>cW,λ_ _ _ _ _ _=>cW,λ_ _ _ _=>Cd,λ_ _ _ _ _=>xz]|n+1=>#[λX S o e=>Qa n (sound n) o e,λX S o op vs p=>Qb n (sound n) o op vs p,λX S o e=>Qc n (sound n) o e,λX S o op vs p=>Qd n (sound n) o op vs p,λX S o es=>Qe n (sound n) o es,λX S o e=>Qf n (sound n) o e,λX S o e=>Qg n (sound n) o e,λX S o e p q=>Qh n (sound n) o e p q,λX S o es=>ML n (sound n) o es,λX S o tg e=>Qi n (sound n) o tg e]
end
mutual
noncomputable def  fr:Nat->Sn->Expr->TY
|0=>λ_ _=>ac|n+1=>λS e=>aI (λY=>nJ (rd n S e Y)) (aI (λY=>fL (rf n S e Y)) (match e with
|.List es _=>λY=>(bT (MM n S es Y)).bind λds=>!.lst ds|.Tuple es _ _=>λY=>(bT (MM n S es Y)).bind λds=>!.tup ds|.Dict [] [] _=>λ_=>!.dct [] []|.ListComp elt [g] sc _=>if kO S sc&&iI g.iter&&decide (g.is_async=0)thenλY=>(au (vT S.N sc.names) (rj n S g.target g.iter) (MH {S with nm:=sc.names} n g.target) (rqs n {S with nm:=sc.names} g.ifs) (fr n {S with nm:=sc.names} elt) Y).bind λds=>!.lst ds else ac|.Call (.Name f _) (a::as) [] _=>if(a::as).all aD thenλY=>(rx n S (a::as) Y).bind (BW S f)else ac|_=>ac))noncomputable def  MM:Nat->Sn->Ui->TX
|0=>λ_ _=>ac|n+1=>λS es=>match es with
|[]=>λ_=>![]|a::as=>if aD a then ae (fr n S a) (MM n S as)else ac
end
def Cf:yQ X es ac:=λY pos pins s σ H Q I#[_,_,q,_]=>by cases q
def MN:∀n,(∀X S,SnOk X S->∀e,vn X e (fr n S e))/\∀X S,SnOk X S->∀es,yQ X es (MM n S es):=by intro n;induction n with
|zero=>exact#[λX S o e=>tz,λX S o es=>Cf]|succ n j=>
  refine#[λX S o e=>?_,λX S o es=>?_]
  .unfold fr;refine Hb (Mg ((sound n).rd X S o e)) (Hb (AU ((sound n).rf X S o e)) ?_);split;.exact IQ (j.2 X S o _)
   .exact IR (j.2 X S o _)
   .exactλY=>PE.pu (pe_dnewK.imp λσ H Q#[E,d,q,k]=>by cases q;exactλp g=>k _ _ [p] (Same.new g) #[p,[],[],rfl,ah,rfl,rfl,rfl,rfl] (by simp) λa j=>by rw[mem_singleton.mp j];exact g) rfl 
   .rename_i elt g t p;split;.rename_i h;rw[and_eq_true,and_eq_true]at h;let[tg,iter,ifs,as]:=g;have r:=Uv h.2;subst r;have l:=t9 o h.1.1;exact(λr C hi o j p l=>λY=>(w5 r C (hi ku Y) (λC s H fp=>PG.ex λz:Ue×Vv×D=>o C s H fp z.1 z.2.1 z.2.2) (λC s H fp=>PTs.ex λz:Ue×Vv=>j C s H fp z.1 z.2) (λC s H fp=>PE.ex λz:Vv=>(p C s H fp z).1) l).imp λσ H Q h=>vq h) o.calm (vV o h.1.1) ((sound n).rj X S o _ _) (λC s H fp=>(Hi (l C s H fp) n).1 tg) (λC s H fp=>(sound n).rqs _ _ (l C s H fp) _) (λC s H fp=>j.1 _ _ (l C s H fp) _) (gz h.1.2)
    .exact tz
   .split;.rename_i h;exact k_callR o _ ((sound n).rx X S o _) h
    .exact tz
   .exact tz
  .unfold MM;split
   .exactλY=>pa_nil.imp λσ H Q#[E,ds,e,k]=>by cases e;exact k [] H [] (Same.refl _) #[rfl,rfl] List.nodup_nil λ_ q=>nomatch q  
   .split;.rename_i h;exact frs_cons (j.1 X S o _) (j.2 X S o _) (star1 h)
    .exact Cf
def  ev(n:Nat)(S:Sn)(e:Expr):T2:=aI (gy (fr n S e)) (aI (kz (rf n S e)) (aI (qX (rd n S e)) (AV (rd n S e))))
def s_ev(n:Nat)(o:SnOk X S)(e:Expr):qc X e (ev n S e):=w9 (AW ((MN n).1 X S o e)) (w9 (AX ((sound n).rf X S o e)) (w9 (Hc ((sound n).rd X S o e)) (Mh ((sound n).rd X S o e))))
structure TnOk(X:Cx)(S:Sn):Prop where
 s:SnOk X S
 fn:∀x,X.fn x=true
 nox:X.xe=λ_ _=>False
 nm:X.env.scope.names=S.nm
def  ub(S:Sn)(x:Str):Option Nat:=if fM x&&(decide (S.nm.lookup x=some .local)||decide (S.nm.lookup x=some .cell))then qZ S.N x else none
noncomputable def  noO':TZ:=λ_=>none
noncomputable def  Hl:Expr->Bool
|.Constant (.str _) _ _=>true|_=>false
noncomputable def  bC:Expr->Option Str
|.Name x _=>!x|_=>none
noncomputable def  vX:Expr->Bool
|.Call _ _ _ _=>true|.Name _ _=>true|.Subscript _ _ _=>true|_=>false
noncomputable def  JJ:Expr->Option Str
|.Constant c _ _=>match c with
  |.str s=>!s|_=>none
|_=>none
def  Hn:Ui->Option (Str×Str)
|[a,b]=>(JJ a).bind λc=>(bC b).bind λx=>!(c,x)|_=>none
def  xA:Expr->Option (Str×Str)
|.Tuple ts _ _=>Hn ts|_=>none
def aV(h:bC e=!x):∃p,e=.Name x p:=by cases e<;>first|(cases h;exact#[_,rfl])|cases h
def zr{e:Expr}{c:Str}(h:JJ e=!c):∃j p,e=.Constant (.str c) j p:=by
 unfold JJ at h;split at h
 .split at h;.cases h;exact#[_,_,rfl]
  .cases h
 .cases h
def vY{e:Expr}{c x:Str}(h:xA e=!(c,x)):∃j p1 px x1 p2,e=.Tuple [.Constant (.str c) j p1,.Name x px] x1 p2:=by
 unfold xA at h;split at h
 .unfold Hn at h;split at h;.let[c',h1,h]:=UK h;let[x',h2,h]:=UK h;cases h;let[_,_,rfl]:=zr h1;let[_,rfl]:=aV h2;exact#[_,_,_,_,_,rfl]
  .cases h
 .cases h
noncomputable def  vZ:Expr->Option Nat
|.Constant (.int i) _ _=>if 0<=i then !i.toNat else none|_=>none
def  Ow(S:Sn):Expr->Option (Nat×Nat)
|.Subscript o k _=>(bC o).bind λy=>if y=("told":Str)then(bx S y).bind λj=>(vZ k).bind λk=>!(j,k)else none|_=>none
def  Ox(n:Nat)(S:Sn)(e:Expr):T2:=match Ow S e with
|some (j,k)=>zd j k|none=>ev n S e
def  MO:Ui->Option (Expr×Expr×Str)
|[a,b,c]=>(bC c).bind λz=>!(a,b,z)|_=>none
def  JK:Expr->Option (Expr×Expr×Str)
|.Tuple ts _ _=>MO ts|_=>none
def  JL(n:Nat)(S:Sn)(e:Expr)(F:TZ):TZ:=match JK e with
|some (a,b,z)=>match bx S z with|some i=>if aD a&&aD b then aI (bW (ze (rd n S a) (Ox n S b) i)) F else F|none=>F
|none=>F
def  Qj(n:Nat)(S:Sn):Option Expr->TZ
|none=>λ_=>!.rt (.deep,.non)|some e=>match bC e with
|some x=>match bx S x with|some i=>λY=>(d8 Y i).bind λs=>!.rt s|none=>bW (ev n S e)
|none=>match xA e with
|some (c,x)=>match bx S x with|some i=>aI (Ov c i) (bW (ev n S e))|none=>bW (ev n S e)
|none=>JL n S e (bW (ev n S e))
def  Cg(n:Nat)(S:Sn)(t e:Expr):TZ:=match t with
|.Name x _=>match ub S x with|some i=>av i (ev n S e)|none=>noO'
|.Subscript o k _=>match bC o with
  |some x=>if B7 k&&not (iF e)then match bx S x with|some i=>aI (iH i (rd n S k) (ev n S e)) (Bo i (rd n S k) (rd n S e))|none=>noO' else noO'|none=>noO'
|.Tuple ts k p=>if vX e then aI (EL (rd n S e) (zn S n (.Tuple ts k p))) (IW (rd n S e) (zn S n (.Tuple ts k p)))else noO'|_=>noO'
def  RO(n:Nat)(S:Sn)(ts:Ui)(e:Expr):TZ:=match ts with
|[t]=>Cg n S t e|_=>noO'
def  pi(i j:Nat)(g:T2)(R:TY):TZ:=aI (cX i g) (cX i λY=>qX R (frzS [j] Y))
def  Fw:Expr->Option (Str×Expr)
|.Call (.Attribute o m ap) [e] [] cp=>if m=("pop":Str)/\aD e=true/\(ap.endLine==cp.line)=true then(bC o).bind λy=>!(y,e)else none|_=>none
noncomputable def  Tg:Expr->Bool
|.ListComp (.List _ _) _ _ _=>true|_=>false
def  JM(n:Nat)(S:Sn)(i:Nat)(m:Str)(e:Expr):TZ:=if m=("append":Str)then match(bC e).bind (bx S)with
|some j=>pi i j (ev n S e) (rd n S e)|none=>cX i (Ox n S e)else if m=("extend":Str)then if Tg e then aI (nN i (rd n S e)) (Jx i (ev n S e))else nN i (rd n S e)else noO'
noncomputable def  Qk:Expr->Bool
|.UnaryOp .USub (.Constant (.int i) _ _) _=>decide (i=1)|_=>false
noncomputable def  Ql:Expr->Bool
|.Constant (.int i) _ _=>decide (i=1)|_=>false
def  Fy:Expr->Option (Str×Expr)
|.Subscript o k _=>(bC o).bind λx=>!(x,k)|_=>none
def  Qm(n:Nat)(S:Sn)(o k:Expr)(m:Str)(e:Expr):TZ:=match Fy o with
|some (x,k1)=>if m=("append":Str)/\Qk k1=true/\Ql k=true then match bx S x with
|some i=>match Fw e with
   |some (y,e')=>match bx S y with|some j=>zc i j (rd n S e')|none=>noO' 
   |none=>noO'
|none=>noO' else noO'|none=>noO'
def  Oy(n:Nat)(S:Sn)(o:Expr)(m:Str)(e:Expr):TZ:=match o with
|.Name x _=>match bx S x with|some i=>JM n S i m e|none=>noO'
|.Subscript o k _=>match(bC o).bind (bx S)with|some i=>if m=("append":Str)then match vZ k with|some kk=>zf i kk (fr n S e)|none=>noO' else noO'|none=>Qm n S o k m e
|_=>noO'
noncomputable def  uc:Expr->Option (Expr×Str×Pos×Expr×Pos)
|.Call (.Attribute o m apos) [e] [] cpos=>!(o,m,apos,e,cpos)|_=>none
def  Qn(n:Nat)(S:Sn)(e:Expr):TZ:=if iF e then noO' else mB (rd n S e)
def  Qo(n:Nat)(S:Sn)(e:Expr):TZ:=if Hl e thenλY=>!.nx Y else match uc e with
|some (o,m,apos,a,cpos)=>if aD a&&apos.endLine==cpos.line then Oy n S o m a else noO'|none=>Qn n S e
noncomputable def  MP:List Stmt->Bool
|.Assign [.Name _ _] (.Subscript _ _ _) _::_=>true|[.Expr (.Call (.Attribute (.Name _ _) _ _) [_] [] _) _]=>true|[.For _ _ _ _ _]=>true|_=>false
def  Qp(S:Sn)(iter:Expr)(body:List Stmt):Option Nat:=if MP body then(bC iter).bind (bx S)else none
def  Qq(S:Sn):Expr->Option (Nat×Nat)
|.Call (.Name f _) [a,b] [] _=>if f=("zip":Str)then((bC a).bind (bx S)).bind λi=>((bC b).bind (bx S)).bind λj=>!(i,j)else none|_=>none
def  MQ:List Stmt->Option (Str×Str×Pos×Expr×Pos)
|[.Expr e _]=>(uc e).bind λz=>(bC z.1).bind λp=>!(p,z.2)|_=>none
def  MR:Expr->Option (Str×Expr)
|.Subscript o k _=>(bC o).bind λy=>!(y,k)|_=>none
def  Ch(S:Sn)(tg iter:Expr)(body:List Stmt):Option (Nat×Nat×Nat×Expr):=(bC tg).bind λp=>(MR iter).bind λz=>(MQ body).bind λb=>(bx S z.1).bind λih=>(vZ z.2).bind λk=>(ub S p).bind λip=>if b.1=p/\b.2.1=("append":Str)/\(b.2.2.1.endLine==b.2.2.2.2.line)=true/\aD b.2.2.2.1=true then !(ih,k,ip,b.2.2.2.1)else none
mutual
noncomputable def  ex:Nat->Sn->Stmt->TZ
|0=>λ_ _=>noO'|n+1=>λS st=>match st with
|.Return v _=>Qj n S v|.Assign ts e _=>RO n S ts e|.If c a b _=>cG (rq n S c) (xB n S a) (xB n S b)|.For tg iter body els _=>if els.isEmpty&&iI iter then match Ch S tg iter body with
|some z=>vP z.1 z.2.1 z.2.2.1 (rd n S z.2.2.2)|none=>match Qq S iter with
|some (i,j)=>aI (cE (rj n S tg iter) (zn S n tg) (xB n S body)) (aI (λY=>cE (rj n S tg iter) (zn S n tg) (xB n S body) (frzS [i,j] Y)) (vx (rj n S tg iter) (zn S n tg) (xB n S body)))|none=>match Qp S iter body with
|some i=>aI (cE (rj n S tg iter) (zn S n tg) (xB n S body)) (aI (λY=>cE (rj n S tg iter) (zn S n tg) (xB n S body) (frzS [i] Y)) (vx (rj n S tg iter) (zn S n tg) (xB n S body)))|none=>aI (cE (rj n S tg iter) (zn S n tg) (xB n S body)) (vx (rj n S tg iter) (zn S n tg) (xB n S body))else noO'|.Pass _=>λY=>!.nx Y|.Expr e _=>Qo n S e|_=>noO'
noncomputable def  xB:Nat->Sn->List Stmt->TZ
|0=>λ_ _=>noO'|n+1=>λS st=>match st with
|[]=>λY=>!.nx Y|s::r=>ab (ex n S s) (xB n S r)end
section
variable{X:Cx}{S:Sn}
def og(o:TnOk X S)(h:ub S x=!i):fM x=true/\D3 X.env.scope x/\X.N[i]?=!x:=by
 unfold ub at h;split at h
 .rename_i c;rw[and_eq_true,Bool.or_eq_true]at c;refine#[c.1,?_,by rw[o.s.N];exact f6 h];rcases c.2 with c|c;.exact .inl (o.s.loc _ (Uv c))
  .exact .inr (o.s.cel _ (Uv c))
 .cases h
def swaps_name(e:Expr)(x:Str)(p:Pos)(l:Nat)(env:Env):swapsWith e (!.Name x p) l env=pure false\/swapsWith e (!.Name x p) l env=pure true/\env.scope.names.lookup x=some .local:=by
 have key:∀(g o j:Bool),(pure (g&&env.kindOf x==some .local&&o&&j):Sem Bool)=pure false\/(pure (g&&env.kindOf x==some .local&&o&&j):Sem Bool)=pure true/\env.scope.names.lookup x=some .local:=λg o j=>by cases C:env.kindOf x==!NameKind.local with
|false=>left;cases g<;>rfl|true=>
   have t:env.scope.names.lookup x=some .local:=by
    have r:env.kindOf x=some .local:=by simpa using C
    exact r
   cases g<;>cases o<;>cases j<;>first|exact .inl rfl|exact .inr #[rfl,t]
 cases e<;>first
|exact .inl rfl|exact key _ _ _
def bY{st}:PR X st noO':=tB
def c8(h:fM x=true):(!5)=false/\(!15)=false:=#[(dD h).1,(dD h).2.1]
def Ci(h:B7 o=true):∀v,assign (.Subscript (.Name x p) o g) env v=(do
  let j<-holding [v] (eval (.Name x p) env)let l<-holding [v,j] (eval o env)standAt g
  holding [v,j,l] (setItem j l v)release [v,j,l] []):=by
 intro v;cases o<;>first|rfl|cases h
def mU(h:iF e=false):swapsWithSole [t] e l env=pure false:=by exact nI h _ _ _
def xC:swappedStores [.Subscript (.Name x j) l g] e env=pure none:=by cases e<;>rfl
def ud{t e:Expr}{env:Env}(h:vX e=true):swappedStores [t] e env=pure none:=by cases t<;>first|rfl|(cases e<;>first|rfl|cases h)
def oh(h:vX e=true):iF e=false:=by cases e<;>first|rfl|cases h
def wa(h:Hl e=true):∃x k p,e=.Constant (.str x) k p:=by cases e with
|Constant c k p=>cases c<;>first|exact#[_,_,_,rfl]|cases h
|_=>cases h
def methS_some(h:uc e=!(o,m,ap,a,g)):e=.Call (.Attribute o m ap) [a] [] g:=by
 unfold uc at h;split at h;.cases h;rfl
 .cases h
def jj{k:Expr}{n:Nat}(h:vZ k=!n):PP X k (λ_=>!.int (n:Int))/\cU k:=by
 unfold vZ at h;split at h;.let[h1,h2]:=aj h;subst h2;rename_i i _ _;rw[(Int.toNat_of_nonneg h1)];exact#[pp_int,λ_ _=>rfl]
 .cases h
def Cj{e:Expr}{j k:Nat}(h:Ow S e=!(j,k)):∃y p g sp,e=.Subscript (.Name y p) g sp/\bx S y=!j/\vZ g=!k:=by
 unfold Ow at h;split at h
 .let[y,h1,h2]:=UK h;let[p,rfl]:=aV h1;split at h2;.let[I,t,r]:=UK h2;let[C,o,l]:=UK r;cases l;exact#[_,_,_,_,rfl,t,o]
  .cases h2
 .cases h
def Ho(n:Nat)(o:TnOk X S)(e:Expr):qc X e (Ox n S e):=by unfold Ox;cases h:Ow S e with
|none=>exact s_ev n o.s e|some z=>let[j,k]:=z;let[y,p,t,sp,rfl,l,g]:=Cj h;let[h1,h2,r,_]:=a7 o.s l;let[a,b]:=c8 h1;exact Mx j k (jj g).1 (jj (X:=X) g).2 r h2 a b
def JN(n:Nat)(o:TnOk X S)(e:Expr){pos:Pos}{F:TZ}(g:PR X (.Return (!e) pos) F):PR X (.Return (!e) pos) (JL n S e F):=by unfold JL;cases h:JK e with
|none=>exact g|some w=>let[a,b,z]:=w;dsimp only;cases hi:bx S z with
|none=>exact g|some i=>
   dsimp only;split
   .rename_i j;rw[and_eq_true]at j;unfold JK at h;split at h
    .unfold MO at h;split at h;.let[l,h1,h2]:=UK h;cases h2;let[p,rfl]:=aV h1;let[g1,g2,g3,_]:=a7 o.s hi;let[c,d]:=c8 g1;exact gO (qY (My i ((sound n).rd X S o.s _).p (Ho n o _) g3 g2 c d (star1 j.1) (star1 j.2))) g
     .cases h
    .cases h
   .exact g
def MS(n:Nat)(o:TnOk X S)(v:Option Expr){pos:Pos}:PR X (.Return v pos) (Qj n S v):=by cases v with
|none=>exact EG|some e=>unfold Qj;dsimp only;cases h:bC e with
|none=>dsimp only;have R:=qY (pos:=pos) (s_ev n o.s e);cases j:xA e with
   |none=>exact JN n o e R|some z=>let[c,x]:=z;dsimp only;cases hi:bx S x with
   |none=>exact R|some i=>let[t,r,l,x1,p2,rfl]:=vY j;let[h1,h2,g,_]:=a7 o.s hi;let[a,b]:=c8 h1;exact gO (vQ i c g h2 a b) R
|some x=>let[p,rfl]:=aV h;dsimp only;cases hi:bx S x with
|none=>exact qY (s_ev n o.s _)|some i=>let[h1,h2,g,_]:=a7 o.s hi;let[a,b]:=c8 h1;exact vt i g h2 a b
def JO(n:Nat)(o:TnOk X S)(t e:Expr){pos:Pos}:PR X (.Assign [t] e pos) (Cg n S t e):=by have P:=λe=>((sound n).rd X S o.s e).p;cases t with
|Name x p=>unfold Cg;dsimp only;cases hi:ub S x with
  |none=>exact bY|some i=>let[h1,h2,g]:=og o hi;exact IT (by rw[o.s.N];exact o.s.nd) g h2 (s_ev n o.s _) (.inl (o.fn _)) (swaps_name _ _ _ _ _)
|Subscript j k p=>unfold Cg;dsimp only;cases l:bC j with
  |none=>exact bY|some x=>
   let[C,rfl]:=aV l;dsimp only;split;.rename_i h;rw[and_eq_true]at h;cases hi:bx S x with
|none=>exact bY|some i=>let[h1,h2,g,_]:=a7 o.s hi;let[a,b]:=c8 h1;exact gO (IY i (s_ev n o.s _) (P _) g h2 a b (Ci h.1) (mU (by simpa using h.2)) xC (asg1 rfl)) (Jp i (P _) (P _) g h2 a b (Ci h.1) (mU (by simpa using h.2)) xC (asg1 rfl))
   .exact bY
|Tuple r k p=>
  unfold Cg;dsimp only;split;.rename_i h;exact gO (EM (P _) ((xy o.s o.fn n).1 _) (mU (oh h)) (ud h) (asg1 rfl)) (EN (P _) ((xy o.s o.fn n).1 _) (mU (oh h)) (ud h) (asg1 rfl))
  .exact bY|_=>exact bY
def MU(n:Nat)(o:TnOk X S)(g:Ui)(e:Expr):PR X (.Assign g e pos) (RO n S g e):=by cases g with
|nil=>exact bY|cons t r=>cases r with
|nil=>exact JO n o t e|cons _ _=>exact bY
def zt{e a:Expr}{y:Str}(h:Fw e=!(y,a)):∃p ap g,e=.Call (.Attribute (.Name y p) "pop" ap) [a] [] g/\aD a=true/\(ap.endLine==g.line)=true:=by
 unfold Fw at h;split at h
 .split at h;.rename_i j;let[rfl,h2,o]:=j;let[z,h1,l]:=UK h;let[p,rfl]:=aV h1;cases l;exact#[_,_,_,rfl,h2,o]
  .cases h
 .cases h
def JP(n:Nat)(o:TnOk X S){i:Nat}{x:Str}{px ap t pos:Pos}(m:Str)(e:Expr)(hi:bx S x=!i)(g:aD e=true)(j:(ap.endLine==t.line)=true):PR X (.Expr (.Call (.Attribute (.Name x px) m ap) [e] [] t) pos) (JM n S i m e):=by
 let[h1,h2,l,_]:=a7 o.s hi;let[a,b]:=c8 h1;unfold JM;split
 .rename_i r;subst r;split;.exact gO (lK i (s_ev n o.s _) l h2 a b (star1 g) j) (lK i (Jo _ (Hc ((sound n).rd X S o.s e))) l h2 a b (star1 g) j)
  .exact lK i (Ho n o _) l h2 a b (star1 g) j
 .split
  .rename_i r;subst r;have F:=yX (pos:=pos) (px:=px) i ((sound n).rd X S o.s e).p l h2 a b (star1 g) j;split;.exact gO F (vR i (s_ev n o.s _) l h2 a b (star1 g) j)
   .exact F
  .exact bY
def Ck(h:Qk k=true):PP X k (λ_=>!.int (-1))/\cU k:=by
 unfold Qk at h;split at h;.obtain rfl:=Uv h;exact#[AO pp_int,λ_ _=>rfl]
 .cases h
def Cm(h:Ql k=true):PP X k (λ_=>!.int 1)/\cU k:=by
 unfold Ql at h;split at h;.obtain rfl:=Uv h;exact#[pp_int,λ_ _=>rfl]
 .cases h
def zu(h:Fy e=!(x,k)):∃p sp,e=.Subscript (.Name x p) k sp:=by
 unfold Fy at h;split at h;.let[y,h1,h2]:=UK h;let[p,rfl]:=aV h1;cases h2;exact#[_,_,rfl]
 .cases h
def MV(n:Nat)(o:TnOk X S){ap C pos sp:Pos}(g k:Expr)(m:Str)(e:Expr)(J:aD e=true)(U:(ap.endLine==C.line)=true):PR X (.Expr (.Call (.Attribute (.Subscript g k sp) m ap) [e] [] C) pos) (Qm n S g k m e):=by unfold Qm;cases h1:Fy g with
|none=>exact bY|some z=>
  let[x,k1]:=z;let[p1,I,rfl]:=zu h1;dsimp only;split;.rename_i h;let[rfl,r,t]:=h;cases hi:bx S x with
|none=>exact bY|some i=>let[g1,g2,g3,_]:=a7 o.s hi;let[c,d]:=c8 g1;dsimp only;cases h2:Fw e with
|none=>exact bY|some z=>let[y,a]:=z;let[p2,ap2,cp2,rfl,T,l]:=zt h2;dsimp only;cases hj:bx S y with
|none=>exact bY|some j=>let[f1,f2,f3,_]:=a7 o.s hj;let[c',d']:=c8 f1;exact Ju i j ((sound n).rd X S o.s _).p (Ck r).1 (Cm t).1 (Ck (X:=X) r).2 (Cm (X:=X) t).2 g3 g2 c d f3 f2 c' d' (star1 T) U l
  .exact bY
def MW(n:Nat)(o:TnOk X S){ap t pos:Pos}(g:Expr)(m:Str)(e:Expr)(j:aD e=true)(l:(ap.endLine==t.line)=true):PR X (.Expr (.Call (.Attribute g m ap) [e] [] t) pos) (Oy n S g m e):=by cases g with
|Name x p=>unfold Oy;dsimp only;cases hi:bx S x with
  |none=>exact bY|some i=>exact JP n o m e hi j l
|Subscript g k p=>unfold Oy;dsimp only;cases I:(bC g).bind (bx S)with
  |none=>exact MV n o g k m e j l|some i=>
   let[x,T,hi]:=UK I;let[U,rfl]:=aV T;dsimp only;let[h1,h2,J,_]:=a7 o.s hi;let[a,b]:=c8 h1;split;.rename_i h;subst h;cases r:vZ k with
|none=>exact bY|some C=>exact Jv i C ((MN n).1 X S o.s _) (jj r).1 (jj (X:=X) r).2 J h2 a b (star1 j) l
   .exact bY
|_=>exact bY
def MX(n:Nat)(o:TnOk X S)(e:Expr){pos:Pos}:PR X (.Expr e pos) (Qn n S e):=by
 unfold Qn;split;.exact bY
 .rename_i h;exact EH ((sound n).rd X S o.s e).p (nI (by simpa using h) _ _ _)
def MY(n:Nat)(o:TnOk X S)(e:Expr):PR X (.Expr e pos) (Qo n S e):=by
 unfold Qo;split;.rename_i h;let[x,k,p,rfl]:=wa h;exact IS
 .cases j:uc e with
|some z=>
   let[g,m,ap,a,l]:=z;have:=methS_some j;subst this;dsimp only;split;.rename_i h;rw[and_eq_true]at h;exact MW n o g m a h.1 h.2
   .exact bY|none=>exact MX n o e
def MZ(o:TnOk X S){tg iter:Expr}{body:List Stmt}{z:Nat×Nat×Nat×Expr}{pos:Pos}(hz:Ch S tg iter body=!z)(pass:PassesOwn (!3) X.A X.env X.xe){R:TY}(he:PP X z.2.2.2 R):PR X (.For tg iter body [] pos) (vP z.1 z.2.1 z.2.2.1 R):=by
 unfold Ch at hz;let[p,q0,hz]:=UK hz;let[[y,ik],q1,hz]:=UK hz;let[[p',m,a,e,c],q2,hz]:=UK hz;let[ih,q3,hz]:=UK hz;let[k,q4,hz]:=UK hz;let[ip,q5,hz]:=UK hz;let[[g1,g2,g3,g4],hz]:=aj hz;cases hz;let[pp,rfl]:=aV q0;unfold MR at q1;split at q1
 .let[y',r1,r2]:=UK q1;cases r2;let[py,rfl]:=aV r1;unfold MQ at q2;split at q2;.let[[ob,m',a',e',c'],z1,z2]:=UK q2;let[p'',z3,z4]:=UK z2;cases z4;let[pz,rfl]:=aV z3;cases methS_some z1;dsimp only at g1 g2 g3 g4;subst g1 g2;let[a1,a2,a3,_]:=a7 o.s q3;let[b1,b2,b3]:=og o q5;exact Jw pass o.s.calm (by rw[o.s.N];exact o.s.nd) (jj q4).1 (jj (X:=X) q4).2 a3 a2 (c8 a1).1 (c8 a1).2 b3 b2 (c8 b1).1 (c8 b1).2 (o.fn _) he (star1 g4) g3
  .cases q2
 .cases q1
def Fz:∀n,(∀X S,TnOk X S->∀st,PR X st (ex n S st))/\∀X S,TnOk X S->∀st,DU X st (xB n S st):=by intro n;induction n with
|zero=>exact#[λX S o e=>bY,λX S o es=>λB O Y=>pss_never.imp λg σ H#[E,o,q,k]=>by cases q]|succ n j=>
  refine#[λX S o st=>?_,λX S o st=>?_]
  .have pass:PassesOwn (!3) X.A X.env X.xe:=by rw[o.nox];exact PassesOwn.never
   unfold ex;cases st with
|Return v p=>exact MS n o v|Assign I e p=>exact MU n o I e|If c a b p=>exact Mi ((sound n).rq X S o.s _) (j.2 X S o _) (j.2 X S o _)|For tg iter body t p=>
    dsimp only;split;.rename_i h;rw[and_eq_true]at h;cases t with
|nil=>have l:=IV (pos:=p) pass o.s.calm ((sound n).rj X S o.s tg iter) ((xy o.s o.fn n).1 _) (j.2 X S o body) (gz h.2);have C:=EK (pos:=p) pass o.s.calm ((sound n).rj X S o.s tg iter) ((xy o.s o.fn n).1 _) (j.2 X S o body) (gz h.2);split;.rename_i z J;exact MZ o J pass ((sound n).rd X S o.s _).p
      split;.exact gO l (gO (BA _ l) C)
      split;.exact gO l (gO (BA _ l) C)
      .exact gO l C|cons _ _=>cases h.1
    .exact bY|Pass p=>exact(λB O Y=>ps_pass.imp λg σ H#[E,o,q,k]=>by cases q;exact k σ H O (Same.refl _) E)|Expr e p=>exact MY n o e|_=>exact bY
  .unfold xB;cases st with
|nil=>exact AY|cons s r=>exact xa (j.1 X S o _) (j.2 X S o _)
end
def  Co:Expr->Option (Str×Str×Str)
|.Call (.Name f _) [a] [] _=>match a with|.Attribute o h _=>(bC o).bind λy=>!(f,y,h)|_=>none
|_=>none
def wb(q:Co e=!(f,y,h)):∃p g ap j,e=.Call (.Name f p) [.Attribute (.Name y g) h ap] [] j:=by
 unfold Co at q;split at q
 .split at q;.let[z,h1,h2]:=UK q;let[p,rfl]:=aV h1;cases h2;exact#[_,_,_,_,rfl]
  .cases q
 .cases q
noncomputable def  JQ:uT:=λ_ _=>none
def  M0(S:Sn)(x:Addr)(i:Nat)(fl:Str->Bool)(y g f y2 h:Str)(G:uT):uT:=if y2=y/\fl h=true/\mN S f=true then match S.G.fn f with
|some (k,ff)=>if k<=S.k then BX x i g h ff G else JQ|none=>JQ else JQ
def  DX:Nat->Sn->Addr->(Str->Bool)->List Stmt->uT
|0=>λ_ _ _ _=>JQ|n+1=>λS x fl st=>match st with
|[]=>A9|.Assign [.Attribute (.Name y _) f _] e _::r=>if fl f then match bx S y with
|some i=>match Co e with
    |some (g,y2,h)=>M0 S x i fl y f g y2 h (DX n S x fl r)|none=>rh x i f (ev n S e) (DX n S x fl r)
|none=>JQ else JQ|s::r=>stI (ex n S s) (DX n S x fl r)
def M1(o:TnOk X S)(c:Cls X.K Ca)(j:∀f,fl f=true->NoAttr X.K Ca f):∀n st,DV X Ca x st (DX n S x fl st):=by
 have no:∀st,DV X Ca x st JQ:=λst B O Y dx fd pins s σ H D I#[_,_,_,_,q,_]=>by cases q
 intro n;induction n with
|zero=>exactλst=>no st|succ n l=>
  intro st;unfold DX;split;.exact Jd
  .split
   .rename_i h;split
    .rename_i i hi;let[h1,h2,r,_]:=a7 o.s hi;let[a,b]:=c8 h1;split
     .rename_i g y2 hh C;let[p,px,ap,cp,rfl]:=wb C;unfold M0;split
      .rename_i U;let[rfl,c2,c3]:=U;let[ok,gl]:=aU o.s c3;let[t,n2,n3]:=dD ok;split
       .rename_i k ff T;split;.rename_i J;exact Fp i (o.s.g.fn _ k ff T) (o.s.room.mono J) gl t (l _) r h2 a b c (j _ h) (j _ c2)
        .exact no _
       .exact no _
      .exact no _
     .exact Je i (s_ev n o.s _) (l _) r h2 a b (tX _ _ _ _ _ _) c (j _ h)
    .exact no _
   .exact no _
  .exact EU ((Fz n).1 X S o _) (l _)
mutual
noncomputable def  Th(S:Sn)(i0:Nat):Nat->Expr->D->Ev->Option Ev
|0=>λ_ _ _=>none|n+1=>λe=>match e with
|.Name x _=>match rH S x with|some i=>if i=i0 thenλ_ _=>none else br i|none=>λ_ _=>none
|.Tuple ts _ _=>if ts.all aD then yR ts.length (M2 S i0 n ts)elseλ_ _=>none|_=>λ_ _=>none
noncomputable def  M2(S:Sn)(i0:Nat):Nat->Ui->Uh->Ev->Option Ev
|0=>λ_ _ _=>none|n+1=>λes=>match es with
|[]=>mM|t::ts=>if aD t then cx (Th S i0 n t) (M2 S i0 n ts)elseλ_ _=>none
end
end L2
namespace L2
open PySem PySem.Spec PyProof.Rows
noncomputable def  cI(i:Int):TY:=λ_=>!.int i
noncomputable def  cB(b:Bool):TY:=λ_=>!.bl b
noncomputable def  cN:TY:=λ_=>some .non
noncomputable def  cS(x:Str):TY:=λ_=>!.str x
noncomputable def  cD(d:D):TY:=λ_=>!d
noncomputable def  cT(n:String):TY:=λ_=>!.ty n
def  va(i:Nat):TY:=λY=>aO Y i
def  Qr(a:TY):TY:=λY=>(a Y).bind AN
noncomputable def  aw:TX:=λ_=>![]
def  dA(xs:TX):TY:=λY=>(bT (xs Y)).bind λds=>!.tup ds
def  flF(fl:Str->Str->Bool)(m:Str)(o:TY):TY:=λY=>(o Y).bind (re fl m)
def  slF(a:TY)(lo hi:Vv->Option Uk):TY:=aI (qU a lo hi) λY=>(nH a lo hi Y).map D.lst
noncomputable def  noP:Vv->Option Uk:=λ_=>!none
noncomputable def  bb(L:TX):TY:=λY=>(L Y).map D.lst
def  bu(f:xx)(xs:TX):TY:=aI (λY=>(xs Y).bind λds=>bw (f ds)) (bb ac)
def  bJ(f:Uh->Uj)(xs:TX):TY:=aI (λY=>(xs Y).bind f) (bb ac)
noncomputable def  ke:Uh->Uj:=λ_=>none
def  M3(C:Str)(g:Uh->Option !39)(xs:TX):TY:=aI (λY=>(xs Y).bind λds=>ES C (g ds)) (bb ac)
def  pj(o:TY)(xs:TX)(mt:MT)(k:Nat)(m:Str):TY:=λY=>bw (kA o xs mt k m Y)
def  cH(xs:TX):TX:=λY=>bT (xs Y)
def  ue(xs:TX):TX:=λY=>(xs Y).bind mw
def  jK(xs:TX):TY:=aI (λY=>(xs Y).bind ke) (bb (ue xs))
def  sy(xs:TX):TX:=λY=>(xs Y).bind c7
def  JR(xs:TX):TX:=λY=>(xs Y).bind P3
def  M4(xs:TX):TX:=λY=>(xs Y).bind Oq
def  Ti(xs:TX):TY:=λY=>(xs Y).bind Jm
def  FA(xs:TX):TX:=λY=>(xs Y).bind Jt
def  Qs(xs:TX)(n:Int):TY:=λY=>(xs Y).bind (BR n)
def  K5(xs:TX):TX:=λY=>(xs Y).bind xg
def  sA(xs:TX)(L:TX):TY:=aI (λY=>(xs Y).bind ke) (bb L)
def  jv(a:TY):T1:=λY=>(a Y).bind yK
noncomputable def  tQ:T1:=λ_=>!true
def  jX(sp:TX)(R:TY):TX:=aI sp λY=>(R Y).bind seqD
def  Qt(xs:TX):TX:=λY=>(xs Y).bind nD
def  Qu(xs:TX):TX:=λY=>(xs Y).bind vi
def  Oz(xs:TX):TX:=λY=>(xs Y).bind vk
def  aZ(R:TY)(L:TX)(Sp:TY):TY:=aI (λY=>nJ (R Y)) (aI (λY=>fL (L Y)) Sp)
def  aY(R:TY)(L:TX)(Sp:TY):T2:=aI (gy (aZ R L Sp)) (aI (kz L) (aI (qX R) (AV R)))
def  uf(F:TX):TY:=λY=>(bT (F Y)).bind λds=>!.lst ds
def  oi(F:TX):TY:=λY=>(bT (F Y)).bind λds=>!.tup ds
def  zN(ks:Ub)(J:TX)(tg:D->Vv->Option Vv)(t:T1)(F:TY):TY:=λY=>(au ks J tg t F Y).bind λds=>!.lst ds
def  FC(f:xx)(xs:TX):TY:=λY=>(xs Y).bind λds=>fZ (f ds)
def  gT(xs:TX):TY:=λY=>(xs Y).bind ke
def  rJ(i:Nat):TZ:=λY=>(d8 Y i).bind λs=>!.rt s
noncomputable def  aB:TZ:=λY=>!.nx Y
def  Qv(R:TY)(g:D->Ev->Option Ev):TZ:=aI (EL R g) (IW R g)
def  dF(J:TX)(tg:D->Ev->Option Ev)(F:TZ):TZ:=aI (cE J tg F) (vx J tg F)
def  zv(i:Nat)(J:TX)(tg:D->Ev->Option Ev)(F:TZ):TZ:=aI (cE J tg F) (aI (λY=>cE J tg F (frzS [i] Y)) (vx J tg F))
def  OA(i j:Nat)(J:TX)(tg:D->Ev->Option Ev)(F:TZ):TZ:=aI (cE J tg F) (aI (λY=>cE J tg F (frzS [i,j] Y)) (vx J tg F))
noncomputable def  Tj:TY:=λ_=>!.dct [] []
def  kP(i:Nat)(k:TY)(g:T2)(R:TY):TZ:=aI (iH i k g) (Bo i k R)
def  bf(K:Frag)(x:Str)(st:Stmt):Prop:=∃(f:Addr)(oc:Value)(od an:Option Addr)(osl:Array Ua)(kV doc pm cdv ct:Value),nsIn K mainGlobals x=!!.ref f/\K.lookup f=!#[oc,od,.func (PySem.W.fnOf x x (b7 st) (aL st) (ao st) .none kV doc pm an cdv ct),osl]/\PySem.W.codeIn K cdv x=true/\PySem.W.keepIn K (.ref f)=true
def  ug(K:Frag)(C m qual:Str)(st:Stmt):Prop:=∃(Ca f:Addr)(oc:Value)(od an:Option Addr)(osl:Array Ua)(kV doc pm cdv ct:Value),nsIn K mainGlobals C=!!24/\findIn K (.ref Ca) m=!!.ref f/\PySem.W.isFn K (.ref f)=true/\K.lookup f=!#[oc,od,.func (PySem.W.fnOf m qual (b7 st) (aL st) (ao st) .none kV doc pm an cdv ct),osl]/\PySem.W.codeIn K cdv qual=true/\PySem.W.keepIn K (.ref f)=true
structure TCls(K:Frag)(C:Str):Prop where ex:∃Ca:Addr,nsIn K mainGlobals C=!!24/\Cls K Ca/\PySem.W.makesIn K Ca=true/\PySem.W.keepIn K (.ref Ca)=true
section
variable{P:Program}{w:World}{K:Frag}{mg:Str->Ua}{base:Heap}
abbrev rK(N:Uc)(st:Stmt)(k:Nat)(G:Gb):Sn:=#[N,(ao st).names,k,G]
def uh{G:Gb}(g:GbOk P w K mg base G){N ps:Uc}{st:Stmt}{k:Nat}{j:Str}{f:Addr}(S:FnScope N ps (ao st))(o:Value)(A:Around)(l:List Env)(s:Shared)(H:Hp)(E:XK)(p:Room k (A.deeper (envOfC j (ao st) s.heap.objs.size f o))):TnOk (oT qP P w K mg base N j (ao st) f o A l s H E).nox (rK N st k G)where
 s:=#[g,rfl,S.nd,rfl,p,λ_ h=>h,λ_ h=>h,λ_ h=>.inr h,λ_ h=>h];fn:=λ_=>rfl;nox:=rfl;nm:=rfl
def  Hq(n k:Nat)(N ps:Uc)(st:Stmt)(G:Gb):xx:=aQ ps.length N.length (xB n (rK N st k G) (aL st))
def  eV(x:Str)(st:Stmt)(ps:Uc):Prop:=∀(qual:Str)(kV doc pm:Value)(an:Option Addr)(cdv ct:Value)(us:T9),us.length=ps.length->bindArgs (PySem.W.fnOf x qual (b7 st) (aL st) (ao st) .none kV doc pm an cdv ct) #[us,[]]=pure (ps.zip us)
def M5(g:GbOk P w K mg base G)(KX:K.In h)(U:h.Ns mainGlobals mg){st}(n k:Nat)(S:FnScope N ps (ao st))(b:eV x st ps)(t:bf K x st):Df P w K mg base x (k+1) (Hq n k N ps st G):=by let[f,oc,od,r,I,kV,o,pm,j,ct,h1,h2,h3,p]:=t;have Fn:=nn h2 h3 p;exact#[f,_,ps,PySem.W.mg_of KX U h1,p,Fn.binds λkV o pm r j ct C T=>b x kV o pm r j ct C T,I0 Fn S λj A l s H E J=>(Fz n).2 _ _ (uh g S j A l s H E J) _]
def Cp(g:GbOk P w K mg base G){st}(n k:Nat)(S:FnScope N ps (ao st))(b:eV m st ps)(c:TCls K C)(t:ug K C m o st):Mf P w K mg base C m (k+1) (Hq n k N ps st G):=by let[Ca,f,oc,od,J,U,kV,p,pm,j,ct,h0,hf,hi,h2,h3,r]:=t;let[Cb,I,cl,_,_]:=c.ex;rw[h0]at I;cases I;have Fn:=nn h2 h3 r;exact#[Ca,f,_,ps,h0,cl,#[hf,hi,r],Fn.binds λkV p pm J j ct T hl=>b o kV p pm J j ct T hl,I0 Fn S λj A l s H E hr=>(Fz n).2 _ _ (uh g S j A l s H E hr) _]
def Hr(g:GbOk P w K mg base G)(KX:K.In h)(hN:h.Ns mainGlobals mg){st}(n k:Nat)(J:Str->Bool)(S:FnScope N ps (ao st))(b:eV "__init__" st ps)(c:TCls K C)(t:ug K C "__init__" o st)(I:∀f,J f=true->∀Ca,nsIn K mainGlobals C=!!24->NoAttr K Ca f)(hg:∀ds r,gg ds=!r->∀y,rm ps.length N.length (λy=>DX n (rK N st k G) y J (aL st)) y ds=!r):Mkf P w K mg base C (k+1) gg:=by let[Ca,f,oc,od,U,osl,kV,p,pm,j,ct,h0,hf,hi,h2,h3,h4]:=t;let[Cb,T,cl,mk,kp]:=c.ex;rw[h0]at T;cases T;have Fn:=nn h2 h3 h4;exact#[Ca,f,_,ps,PySem.W.mg_of KX hN h0,h0,#[mk,hf,hi,kp],Fn.binds λkV p pm U j ct us hl=>b o kV p pm U j ct us hl,PL Fn S hg λy j A l s H E hr=>M1 (uh g S j A l s H E hr) cl (λf q=>I f q Ca h0) n _]
end
def  OB(K:Frag):Sp:=λvs H Q _=>∃(a:Addr)(ns:Ud),vs=[.ref a]/\SqL K H a (ns.map V.int)/\ns.length<=63/\∀H',Q (.bl true) H'
def xD{K}:∀(ns:Ud),IsL K H (ns.map D.int) (ns.map V.int)
|[]=>rfl|n::ns=>#[_,_,rfl,rfl,xD ns]
def JS{K}(F:FnOk P w K mg base qP k a fd ps (IZ K f))(p:∀g:Ud,g.length<=63->bw (f [.lst (g.map D.int)])=!.bl true):FnOk P w K mg base qP k a fd ps (OB K):=F.imp λC H Q E#[b,g,e,h,o,q]=>by
 let[[c,d],t,J]:=UK (p g o);cases J;refine#[ku,[.lst _],_,λ_ h=>(nomatch h),?_,t,λv H' r=>?_];.rw[e,kx];exact#[_,[],rfl,#[b,_,rfl,h,xD g],rfl]
 .let[I,A,_,_,_,_,_,j]:=r;have l:v=.bl true:=by cases c with
|sh=>exact j.2|top=>let[_,_,_,z,_]:=j;cases z|deep=>exact j.1
  rw[l];exact q H'
def walkL{l:PySem.W.OpenLaw}{K:Params->Frag}(t:l.most=some 63)(g:d.params.defaults=[])(r:Room k callerA)(I:∀(w:World)(h:Heap),j w h->(K w.params).In h)(T:∀(w:World)(h:Heap),j w h->qO (K w.params) h)(F:∀(w:World)(mg:Str->Ua)(fa:Addr)(h:Heap),(K w.params).In h->h.Ns mainGlobals mg->mg d.name=!.ref fa->∃fd:FuncData,(∀(s:Shared)(u:Value),BindsTo s fd #[[u],[]] [("script",u)])/\∀base:Heap,(K w.params).In base->base.Ns mainGlobals mg->FnOk l.prog w (K w.params) mg base qP k fa fd ["script"] (OB (K w.params))):PySem.W.WalkO q J XP j l.row.toRowW d [] λf o=>PySem.call f o:=L2.walk_of t (!2) g r I T F (λ_ _ a p C U=>#[a,p,rfl,U,C,λ_=>rfl]) λ_ _ _ _ _ z=>z
noncomputable def  addF(G:Gb)(x:Str)(k:Nat)(f:xx):Gb:={G with fn:=λy=>if y=x then !(k,f)else G.fn y}
def  addM(G:Gb)(m C:Str)(k:Nat)(f:xx):Gb:={G with mt:=λa b=>if a=m/\b=C then !(k,f)else G.mt a b}
def  addI(G:Gb)(C:Str)(k:Nat)(g:Uh->Option !39):Gb:={G with ini:=λy=>if y=C then !(k,g)else G.ini y}
section
variable{P:Program}{w:World}{K:Frag}{mg:Str->Ua}{base:Heap}{G:Gb}
def GbOk.addF(g:GbOk P w K mg base G)(d:Df P w K mg base x k f):GbOk P w K mg base (addF G x k f):=#[λy j h e=>by
 have l:(if y=x then !(k,f)else G.fn y)=!(j,h):=e;split at l;.rename_i z;cases l;rw[z];exact d
 .exact g.fn y j h l,g.cn,g.no,g.fl,g.mt,g.ini]
def GbOk.addM(g:GbOk P w K mg base G)(d:Mf P w K mg base C m k f):GbOk P w K mg base (addM G m C k f):=#[g.fn,g.cn,g.no,g.fl,λa b j h e=>by
 have l:(if a=m/\b=C then !(k,f)else G.mt a b)=!(j,h):=e;split at l;.rename_i z;cases l;rw[z.1,z.2];exact d
 .exact g.mt a b j h l,g.ini]
def GbOk.addI(g:GbOk P w K mg base G)(d:Mkf P w K mg base C k o):GbOk P w K mg base (addI G C k o):=#[g.fn,g.cn,g.no,g.fl,g.mt,λy j h e=>by
 have l:(if y=C then !(k,o)else G.ini y)=!(j,h):=e;split at l;.rename_i z;cases l;rw[z];exact d
 .exact g.ini y j h l]
end
def evX_lf{R L Sp}(h:R (vw Y)=!d)(f:lfD d=true):aY R L Sp Y=!((.deep,d),Y):=by unfold aY aI gy aZ aI nJ;simp[h,f]
def evX_lfs{R L Sp}(h:R (vw Y)=!d)(f:lfD d=false)(g:L (vw Y)=!ds)(j:dS ds=true):aY R L Sp Y=!((.deep,.lst ds),Y):=by unfold aY aI gy aZ aI nJ fL;simp[h,g,f,j]
def evX_call{R L Sp}(h:R (vw Y)=!d)(f:lfD d=false)(j:L (vw Y)=none)(g:Sp (vw Y)=!e):aY R L Sp Y=!((.deep,e),Y):=by unfold aY aI gy aZ aI nJ fL;simp[h,j,f,g]
def lM{R L Sp}(h:R (vw Y)=!d)(f:lfD d=false)(l:L (vw Y)=none)(j:Sp (vw Y)=none)(g:L (bV Y)=none)(h2:R (bV Y)=!d):aY R L Sp Y=!((.sh,d),Y):=by unfold aY aI gy kz qX aZ aI nJ fL;grind
def ai(h:F Y=!.nx Y'):ab F G Y=G Y':=by unfold ab;rw[h];rfl
def seqF_rt(h:F Y=!.rt s):ab F G Y=!.rt s:=by unfold ab;rw[h];rfl
def bj(h:g Y=!(s,Y')):av i g Y=!.nx (Y'.set i !s):=by unfold av;rw[h];rfl
def b9(h:g Y=!(s,Y')):bW g Y=!.rt s:=by unfold bW;rw[h];rfl
def ifS_t(h:c (vw Y)=!true):cG c F G Y=F Y:=by unfold cG;rw[h];rfl
def dQ(h:c (vw Y)=!false):cG c F G Y=G Y:=by unfold cG;rw[h];rfl
def gi{step}:∀(ds:Uh)(I:Nat->Ev->Prop)(Y:Ev),I 0 Y->(∀(i:Nat)(d:D)(Y:Ev),ds[i]?=!d->I i Y->∃Y',step d Y=!.nx Y'/\I (i+1) Y')->∃Y',cC step ds Y=!.nx Y'/\I ds.length Y'
|[],I,Y,h0,_=>#[Y,rfl,h0]|d::ds,I,Y,h0,hs=>by let[Y1,e1,i1]:=hs 0 d Y rfl h0;let[Y2,e2,i2]:=gi ds (λi=>I (i+1)) Y1 i1 λi d' Y' h hi=>hs (i+1) d' Y' (by simpa using h) hi;refine#[Y2,?_,i2];unfold cC;rw[e1];exact e2
def jk(I:Nat->Ev->Prop)(j:J (bV Y)=!ds)(h0:I 0 Y)(g:∀(i:Nat)(d:D)(Y:Ev),ds[i]?=!d->I i Y->∃Y',(tg d Y).bind F=!.nx Y'/\I (i+1) Y'):∃Y',dF J tg F Y=!.nx Y'/\I ds.length Y':=by
 let[Y',e,i]:=gi (step:=dY tg F) ds I Y h0 g;refine#[Y',?_,i];unfold dF aI cE;grind
section
variable{Y:Vv}{a b c:TY}{xs:TX}{i:Int}{n:Nat}
@[simp]def cI_a:cI i Y=!.int i:=rfl@[simp]def Tk{b}:cB b Y=!.bl b:=rfl@[simp]def Qw:cN Y=some .non:=rfl@[simp]def cS_a{x:Str}:cS x Y=!.str x:=rfl@[simp]def Tl:cD d Y=!d:=rfl@[simp]def M6{n}:cT n Y=!.ty n:=rfl@[simp]def RP:(ac Y:Option α)=none:=rfl@[simp]def va_a:va n Y=aO Y n:=rfl@[simp]def shAt_0{d:Uj}{r:Vv}:aO (d::r) 0=d:=by cases d<;>rfl@[simp]def shAt_s{d:Uj}{r:Vv}{n:Nat}:aO (d::r) (n+1)=aO r n:=by unfold aO;simp@[simp]def shAt_1{d e:Uj}{r:Vv}:aO (d::e::r) 1=e:=by cases e<;>rfl@[simp]def bin2_a{g}:aa g a b Y=(a Y).bind λx=>(b Y).bind λy=>g x y:=rfl@[simp]def RQ:Qr a Y=(a Y).bind AN:=rfl@[simp]def nilX_a:aw Y=![]:=rfl@[simp]def consX_a:ae a xs Y=(a Y).bind λd=>(xs Y).bind λr=>!d::r:=rfl@[simp]def iJ:dA xs Y=(bT (xs Y)).bind λds=>!.tup ds:=rfl@[simp]def Hs:flF fl m a Y=(a Y).bind (re fl m):=rfl@[simp]def RS:noP Y=!none:=rfl@[simp]def OC:partF a Y=(a Y).bind λd=>(j4 d).bind λi=>!!i:=rfl@[simp]def lsF_a{L}:bb L Y=(L Y).map D.lst:=rfl
def oj{f g:α->Option j}(h:g x=none):aI f g x=f x:=by unfold aI;cases f x<;>simp[h]
@[simp]def clF_a{f}:bu f xs Y=(xs Y).bind λds=>bw (f ds):=oj rfl@[simp]def biF_a{f}:bJ f xs Y=(xs Y).bind f:=oj rfl@[simp]def ui:M3 C g xs Y=(xs Y).bind λds=>ES C (g ds):=oj rfl@[simp]def RT{mt k m}:pj a xs mt k m Y=bw ((a Y).bind λd=>(xs Y).bind λas=>jG mt k m d as):=rfl@[simp]def dpF_a:cH xs Y=bT (xs Y):=rfl@[simp]def Ht:ue xs Y=(xs Y).bind mw:=rfl
@[simp]def kQ:jK xs Y=((xs Y).bind mw).map D.lst:=by
 unfold jK aI;have:(xs Y).bind ke=none:=by cases xs Y<;>rfl
 simp[this]
@[simp]def trF_a:jv a Y=(a Y).bind yK:=rfl@[simp]def tQ_a:tQ Y=!true:=rfl@[simp]def fCl_a{f}:FC f xs Y=(xs Y).bind λds=>fZ (f ds):=rfl@[simp]def RU:gT xs Y=none:=by unfold gT ke;cases xs Y<;>rfl@[simp]def M7:uf F Y=(bT (F Y)).bind λds=>!.lst ds:=rfl@[simp]def Cq:oi F Y=(bT (F Y)).bind λds=>!.tup ds:=rfl@[simp]def jX_none:jX ac R Y=(R Y).bind seqD:=rfl
def gQ(h:(xs Y).bind nD=!ds):jX (Qt xs) R Y=!ds:=by unfold jX aI Qt;simp[h]
def M8(h:(xs Y).bind vi=!ds):jX (Qu xs) R Y=!ds:=by unfold jX aI Qu;simp[h]
def M9(h:(xs Y).bind vk=!ds):jX (Oz xs) R Y=!ds:=by unfold jX aI Oz;simp[h]
@[simp]def Cr:mK a b Y=(a Y).bind λx=>x.asB.bind λc=>if c=true then b Y else !.bl false:=rfl@[simp]def RV:S7 a b Y=(a Y).bind λx=>x.asB.bind λc=>if c=true then !.bl true else b Y:=rfl@[simp]def Qx:Aw a Y=(a Y).bind λx=>x.asB.bind λc=>!.bl (not c):=rfl@[simp]def andQ_a{p q:T1}:yJ p q Y=(p Y).bind λc=>if c=true then q Y else !false:=rfl@[simp]def mE:kc p q Y=(p Y).bind λc=>if c=true then !true else q Y:=rfl@[simp]def notQ_a{p:T1}:bI p Y=(p Y).map (not ·):=rfl@[simp]def Cs:GY p a b Y=(p Y).bind λc=>if c=true then a Y else b Y:=rfl@[simp]def testB_a:ag a Y=(a Y).bind D.asB:=rfl@[simp]def Na:dX g g' a b c Y=(a Y).bind λx=>(b Y).bind λy=>(g x y).bind λz=>z.asB.bind λk=>if k=true then(c Y).bind λw=>g' y w else !.bl false:=rfl
end
@[simp]def asB_bl(b:Bool):D.asB (.bl b)=!b:=rfl@[simp]def valO_some(s:Sl):bw (!s)=!s.2:=rfl@[simp]def wc(d:D):fZ (!(.deep,d))=!d:=rfl@[simp]def addD_ii(i j:Int):aG (.int i) (.int j)=!.int (i+j):=rfl@[simp]def subD_ii(i j:Int):cA (.int i) (.int j)=!.int (i-j):=rfl@[simp]def Qy(i j:Int):GX (.int i) (.int j)=!.bl (decide (i<j)):=rfl@[simp]def Qz(i j:Int):nz (.int i) (.int j)=!.bl (decide (i<=j)):=rfl@[simp]def QA(i j:Int):mJ (.int i) (.int j)=!.bl (decide (j<i)):=rfl@[simp]def Ct(i j:Int):Ix (.int i) (.int j)=!.bl (decide (j<=i)):=rfl@[simp]def QB(i:Int):AN (.int i)=!.int (-i):=rfl@[simp]def Cu(i:Int):j4 (.int i)=!i:=rfl@[simp]def Cv(ds:Uh):seqD (.lst ds)=!ds:=rfl@[simp]def QC(ds:Uh):seqD (.tup ds)=!ds:=rfl@[simp]def dZ(d:D):eZ [d]=(seqD d).bind λds=>!.int ds.length:=rfl@[simp]def OD(d:D):mw [d]=seqD d:=rfl@[simp]def Nb(d:D):eS [d]=(seqD d).bind λds=>!.tup ds:=rfl@[simp]def QD(i j:Int):PC [.int i,.int j]=!.int (if j>i then j else i):=rfl@[simp]def QE(i j:Int):ED [.int i,.int j]=!.int (if j<i then j else i):=rfl@[simp]def truD_bl(b:Bool):yK (.bl b)=!b:=rfl
def xF(h:CMul i j):aM (.int i) (.int j)=!.int (i*j):=by unfold aM;simp[h]
def rL(h:-18446744073709551616<i)(h2:i<18446744073709551616):aM (.int i) (.int j)=!.int (i*j):=xF (.inl #[by lia,by lia])
def Cw(h:-18446744073709551616<j)(h2:j<18446744073709551616):aM (.int i) (.int j)=!.int (i*j):=xF (.inr #[by lia,by lia])
def uj(h:0<j)(h2:j.natAbs.log2<9000):bv (.int i) (.int j)=!.int (i/j):=by unfold bv;exact if_pos #[h,h2]
def bK(h:0<j)(h2:j<1073741824):bv (.int i) (.int j)=!.int (i/j):=uj h (Nat.lt_trans ((Nat.log2_lt (by lia)).mpr (show j.natAbs<2^30 by omega)) !2)
def eg(h:0<j):aJ (.int i) (.int j)=!.int (i%j):=by unfold aJ;simp[h]
@[simp]def OE(i:Int):lfD (.int i)=true:=rfl@[simp]def QF(b:Bool):lfD (.bl b)=true:=rfl@[simp]def OF(x:Str):lfD (.str x)=true:=rfl@[simp]def OG:lfD .non=true:=rfl@[simp]def xH(ds:Uh):lfD (.lst ds)=false:=rfl@[simp]def OH(ds:Uh):lfD (.tup ds)=dS ds:=rfl@[simp]def OI:dS []=true:=rfl@[simp]def Cy(d:D)(ds:Uh):dS (d::ds)=(lfD d&&dS ds):=rfl
def ca:∀{ds:Uh},(∀d∈ds,lfD d=true)->dS ds=true
|[],_=>rfl|d::ds,h=>by simp[h d mem_cons_self,ca λe he=>h e (mem_cons_of_mem _ he)]
@[simp]def K6:bT none=none:=rfl
def c9(h:ds.length<big):bT (!ds)=!ds:=by unfold bT;simp[h]
@[simp]def JT:bT (![])=![]:=c9 !2@[simp]def capL_1(a:D):bT (![a])=![a]:=c9 (show 1<big by decide)@[simp]def capL_2(a b:D):bT (![a,b])=![a,b]:=c9 (show 2<big by decide)@[simp]def QG(a b c d e:D):bT (![a,b,c,d,e])=![a,b,c,d,e]:=c9 (show 5<big by decide)@[simp]def QH(a b c d e f g h:D):bT (![a,b,c,d,e,f,g,h])=![a,b,c,d,e,f,g,h]:=c9 (show 8<big by decide)@[simp]def Hu(d c:D):fg [d,c]=(cV d).bind λT=>(oX c).bind λns=>!.bl (ns.any (isI T)):=rfl@[simp]def OJ:oX (.ty "int")=!["int"]:=by rfl@[simp]def Nc:oX (.ty "bool")=!["bool"]:=by rfl@[simp]def OK:oX (.ty "str")=!["str"]:=by rfl@[simp]def Nd:oX (.ty "list")=!["list"]:=by rfl@[simp]def K7:oX (.ty "tuple")=!["tuple"]:=by rfl@[simp]def Cz:oX (.tup [.ty "list",.ty "tuple"])=!["list","tuple"]:=by rfl@[simp]def QI(i:Int):cV (.int i)=some "int":=rfl@[simp]def RW(i:Bool):cV (.bl i)=some "bool":=rfl@[simp]def QJ(i:Str):cV (.str i)=some "str":=rfl@[simp]def QK(i:Uh):cV (.tup i)=some "tuple":=rfl@[simp]def QL(i:Uh):cV (.lst i)=some "list":=rfl@[simp]def QM:isI "int" "int"=true:=by decide@[simp]def QN:isI "int" "bool"=false:=by decide@[simp]def QO:isI "bool" "bool"=true:=by decide@[simp]def QP:isI "bool" "int"=true:=by decide@[simp]def QQ:isI "tuple" "list"=false:=by decide@[simp]def QR:isI "tuple" "tuple"=true:=by decide@[simp]def CA:isI "list" "list"=true:=by decide@[simp]def QS:isI "list" "tuple"=false:=by decide@[simp]def QT:isI "str" "str"=true:=by decide
@[simp]def xI(neg:Bool)(i j:Int):aP neg (.int i) (.int j)=!.bl (if neg then not (decide (i=j))else decide (i=j)):=by
 unfold aP mz;have:decide (mL (.int i)=mL (.int j))=decide (i=j):=by show decide (V.int i=V.int j)=_;by_cases h:i=j<;>simp[h]
 rw[this];rfl
@[simp]def Hv(neg:Bool)(i j:Str):aP neg (.str i) (.str j)=!.bl (if neg then not (decide (i=j))else decide (i=j)):=by
 unfold aP mz;have:decide (mL (.str i)=mL (.str j))=decide (i=j):=by show decide (V.str i=V.str j)=_;by_cases h:i=j<;>simp[h]
 rw[this];rfl
@[simp]def RX(neg:Bool)(i j:Bool):aP neg (.bl i) (.bl j)=!.bl (if neg then not (decide (i=j))else decide (i=j)):=by
 unfold aP mz;have:decide (mL (.bl i)=mL (.bl j))=decide (i=j):=by show decide (V.bl i=V.bl j)=_;by_cases h:i=j<;>simp[h]
 rw[this];rfl
@[simp]def To(ds:Uh)(i:Int):ax (.lst ds) (.int i)=oR ds i:=rfl@[simp]def Tp(ds:Uh)(i:Int):ax (.tup ds) (.int i)=oR ds i:=rfl
def lN{d:D}(h:0<=i)(h2:ds[i.toNat]?=!d):oR ds i=!d:=by have g:=(Us.mp h2).1;unfold oR yE;grind
@[simp]def jL(d:D)(ds:Uh):oR (d::ds) 0=!d:=lN (by lia) rfl@[simp]def om(c d:D)(ds:Uh):oR (c::d::ds) 1=!d:=lN (by lia) rfl@[simp]def vw_nil:vw []=[]:=rfl@[simp]def vw_some(s:Sl)(Y:Ev):vw (some s::Y)=some s.2::vw Y:=rfl@[simp]def vw_none(Y:Ev):vw (none::Y)=none::vw Y:=rfl@[simp]def OL:bV []=[]:=rfl@[simp]def QU(d:D)(Y:Ev):bV (some (.sh,d)::Y)=some d::bV Y:=rfl@[simp]def Nf(Y:Ev):bV (none::Y)=none::bV Y:=rfl@[simp]def Ng(d:D)(Y:Ev):bV (some (.deep,d)::Y)=(if lfD d=true then !d else none)::bV Y:=rfl@[simp]def OM(d:D)(Y:Ev):bV (some (.top,d)::Y)=(if lfD d=true then !d else none)::bV Y:=rfl@[simp]def wipe_nil{α:Type}(σ:List (Option α)):gv [] σ=σ:=rfl@[simp]def wipe_cons{α:Type}(k:Nat)(ks:Ub)(σ:List (Option α)):gv (k::ks) σ=gv ks (σ.set k none):=rfl@[simp]def gNm_a(i:Nat)(d:D)(Y:Vv):bc i d Y=!Y.set i !d:=rfl@[simp]def Hw(n:Nat)(gs)(ds:Uh)(Y:Vv):nE n gs (.tup ds) Y=if ds.length=n then gs ds Y else none:=rfl@[simp]def uk(g gs)(d:D)(ds:Uh)(Y:Vv):aC g gs (d::ds) Y=(g d Y).bind λY1=>gs ds Y1:=rfl@[simp]def xJ(Y:Vv):cv [] Y=!Y:=rfl@[simp]def RY(i:Nat)(d:D)(Y:Ev):br i d Y=!Y.set i !(.sh,d):=rfl@[simp]def RZ(n:Nat)(gs)(ds:Uh)(Y:Ev):yR n gs (.tup ds) Y=if ds.length=n then gs ds Y else none:=rfl@[simp]def ON(g gs)(d:D)(ds:Uh)(Y:Ev):cx g gs (d::ds) Y=(g d Y).bind λY1=>gs ds Y1:=rfl@[simp]def QV(Y:Ev):mM [] Y=!Y:=rfl@[simp]def stepF_a(g ft fe)(Y:Vv)(d:D):p0 g ft fe Y d=(g d Y).bind λY1=>(ft Y1).bind λc=>if c=true then(fe Y1).bind λy=>!!y else !none:=rfl
def ar(g:ds.length=n)(h:F (az m ds)=!.rt s):aQ n m F ds=!s:=by unfold aQ;rw[if_pos g,h];rfl
def ul(g:ds.length=n)(h:F (az m ds)=!.nx Y):aQ n m F ds=!(.deep,.non):=by unfold aQ;rw[if_pos g,h];rfl
@[simp]def R0(Y:Ev):aB Y=!.nx Y:=rfl
def oo{β:Type}{step}{mk out}:∀(xs:List β),(∀x∈xs,step (mk x)=!!out x)->my step (xs.map mk)=!xs.map out
|[],_=>rfl|x::xs,h=>by rw[List.map_cons];unfold my;rw[h x mem_cons_self,oo xs λe he=>h e (mem_cons_of_mem _ he)];rfl
def aE{j:Type}{Y:Vv}{xs:List j}{mk out}(o:J Y=!xs.map mk)(h:∀x∈xs,p0 g p r (gv ks Y) (mk x)=!!out x)(l:xs.length<big):au ks J g p r Y=!xs.map out:=by unfold au;rw[o];simp only[Option.bind_some];rw[oo xs h];unfold bT;simp[l]
def jM{β:Type}{step}{mk out}{p:β->Bool}:∀(xs:List β),(∀x∈xs,step (mk x)=!if p x then !out x else none)->my step (xs.map mk)=!(xs.filter p).map out
|[],_=>rfl|x::xs,h=>by rw[List.map_cons];unfold my;rw[h x mem_cons_self,jM xs λe he=>h e (mem_cons_of_mem _ he)];cases hp:p x<;>simp[hp]
def pv{j:Type}{Y:Vv}{xs:List j}{mk out}{p:j->Bool}(l:J Y=!xs.map mk)(h:∀x∈xs,p0 g o r (gv ks Y) (mk x)=!if p x then !out x else none)(t:xs.length<big):au ks J g o r Y=!(xs.filter p).map out:=by unfold au;rw[l];simp only[Option.bind_some];rw[jM xs h];unfold bT;grind
def um:∀bs:List Bool,Ay (bs.map D.bl)=!bs
|[]=>rfl|b::bs=>by rw[List.map_cons];unfold Ay;rw[um bs];rfl
def iK{g:Type}(xs:List g)(p:g->Bool):tm [.lst (xs.map λx=>.bl (p x))]=!.bl (xs.all p):=by
 have e:xs.map (λx=>D.bl (p x))=(xs.map p).map D.bl:=by rw[List.map_map];rfl
 rw[e];unfold tm uR;simp only[j3,Option.bind_some];rw[um];simp[List.all_map];rfl
def FD(g:vh j):nD [.int j]=!gx 0 j.toNat:=by unfold nD uR;simp only[Cu,Option.bind_some];rw[if_pos g]
def FE(hi:vh i)(g:vh j):vi [.int i,.int j]=!gx i (j-i).toNat:=by unfold vi Et;simp only[Cu,Option.bind_some];rw[if_pos #[hi,g]]
def mV{n:Nat}(h:n<1000000):vh (n:Int):=(λh h2=>by exact#[by lia,by lia]) (!6) !6
def CB:gx 0 n=(!22).map λ(i:Nat)=>D.int (i:Int):=by simp[gx]
def bN{n:Nat}(h:n<1000000):nD [.int (n:Int)]=!(!22).map λ(i:Nat)=>D.int (i:Int):=by rw[FD (mV h),Int.toNat_natCast,CB]
def CC{a b:Nat}(h:a<1000000)(h2:b<1000000):vi [.int (a:Int),.int (b:Int)]=!(List.range (b-a)).map λ(i:Nat)=>D.int ((a+i:Nat):Int):=by
 rw[FE (mV h) (mV h2)];have:((b:Int)-(a:Int)).toNat=b-a:=by lia
 rw[this];rfl
def FG{g:Type}{xs:List g}{mk:g->D}{i:Int}(h:0<=i)(h2:i<xs.length):oR (xs.map mk) i=!mk (xs[i.toNat]'!6):=lN h (by
 have:i.toNat<xs.length:=by omega
 simp[this])
def bn{g:Type}{xs:List g}{mk:g->D}{i:Nat}{x}(h:xs[i]?=!x):oR (xs.map mk) (i:Int)=!mk x:=by exact lN (by lia) (by simp[h])
def CD{a b:D}{xs ys:Uh}(h1:Mc a=!xs)(h2:Mc b=!ys):vk [a,b]=!lJ xs ys:=by unfold vk Et;simp[h1,h2]
def we{l j:Type}{f}{g}(xs:List l)(ys:List j):lJ (xs.map f) (ys.map g)=(xs.zip ys).map λp=>.tup [f p.1,g p.2]:=by unfold lJ;rw[List.zip_map,List.map_map];rfl
def bP(h0:ownL Y i=!(c0,ds0))(h:g Y=!((.deep,d),Y'))(j:ownL Y' i=!(.deep,ds))(l:ds.length+1<big):cX i g Y=!.nx (Y'.set i !(.deep,.lst (ds++[d]))):=by unfold cX;rw[h0];simp only[Option.bind_some,h,j];rw[if_pos l];rfl
def qi(h0:ownL Y i=!(c0,ds0))(h:g Y=!((.deep,d),Y'))(j:ownL Y' i=!(.deep,ds))(l:ds.length+1<big):pi i k g R Y=!.nx (Y'.set i !(.deep,.lst (ds++[d]))):=by unfold pi aI;rw[bP h0 h j l]
def mF{k:Int}(h:g Y=!((.deep,d),Y'))(j:ownL Y' i=!(.deep,ds))(o:p (vw Y')=!.int k)(h0:0<=k)(l:k<ds.length):iH i p g Y=!.nx (Y'.set i !(.deep,.lst (ds.set k.toNat d))):=by
 unfold iH;rw[h];simp only[Option.bind_some,j,o];have:yE ds.length k=!k.toNat:=by unfold yE;rw[if_pos h0,if_pos l]
 rw[this];rfl
def  uo:TZ:=ab (bW (aY (mK (bJ fg (ae (va 0) (ae (cT "int") aw))) (mK (Aw (bJ fg (ae (va 0) (ae (cT "bool") aw)))) (dX nz nz (va 1) (va 0) (va 2)))) ac ac)) aB
def  mG(aF:xx):TZ:=ab (cG (kc (bI (jv (bJ fg (ae (va 0) (ae (cT "tuple") aw))))) (ag (aa (aP true) (bJ eZ (ae (va 0) aw)) (cI 2)))) (ab (bW (aY (cB false) ac ac)) aB) aB) (ab (bW (aY (mK (aa GZ (aa ax (va 0) (cI 0)) (cD (.tup [.str "queue",.str "pile"]))) (bu aF (ae (aa ax (va 0) (cI 1)) (ae (cI 0) (ae (cD (.int 9)) aw))))) ac ac)) aB)
def  qj(dR:xx):TZ:=ab (cG (kc (bI (jv (bJ fg (ae (va 0) !25)))) (bI (ag (dX nz nz (cI 1) (bJ eZ (ae (va 0) aw)) (cD (.int 6)))))) (ab (bW (aY (cB false) ac ac)) aB) aB) (ab (bW (aY (bJ tm (ae (bb (au [1] (jX ac (va 0)) (bc 1) tQ (bu dR (ae (va 1) aw)))) aw)) ac (gT (ae (bb (au [1] (jX ac (va 0)) (bc 1) tQ (bu dR (ae (va 1) aw)))) aw)))) aB)
def  wf:TZ:=ab (av 1 (aY (cI 1) ac ac)) (ab (dF (jX ac (va 0)) (br 2) (ab (av 1 (aY (aa aM (va 1) (bJ eZ (ae (va 2) aw))) ac ac)) aB)) (ab (rJ 1) aB))
def  rM(bM:xx)(jr:xx):TZ:=ab (cG (kc (bI (jv (bJ fg (ae (va 0) !25)))) (ag (aa mJ (bJ eZ (ae (va 0) aw)) (cD (.int 6))))) (ab (bW (aY (cB false) ac ac)) aB) aB) (ab (bW (aY (mK (bJ tm (ae (bb (au [1] (jX ac (va 0)) (bc 1) tQ (bu jr (ae (va 1) aw)))) aw)) (aa nz (bu bM (ae (va 0) aw)) (cD (.int 1000)))) ac ac)) aB)
def  oq(cc:xx)(y:Addr):uT:=stI (cG (bI (jv (bu cc (ae (va 1) aw)))) (ab noO' aB) aB) (rh y 0 "passes" (aY (bJ eS (ae (bb (au [2] (jX ac (va 1)) (bc 2) tQ (bJ eS (ae (va 2) aw)))) aw)) ac (gT (ae (bb (au [2] (jX ac (va 1)) (bc 2) tQ (bJ eS (ae (va 2) aw)))) aw))) A9)
def  uq(fl:Str->Str->Bool):TZ:=ab (bW (aY (bJ eZ (ae (flF fl "passes" (va 0)) aw)) ac (gT (ae (flF fl "passes" (va 0)) aw)))) aB
def  zw(mt_many:MT)(kk:Nat)(aF:xx):TZ:=ab (bW (aY (bu aF (ae (va 1) (ae (cI 0) (ae (pj (va 0) aw mt_many kk "many") aw)))) ac (FC aF (ae (va 1) (ae (cI 0) (ae (pj (va 0) aw mt_many kk "many") aw)))))) aB
def  ot(eH:xx):TZ:=ab (cG (bI (jv (bu eH (ae (va 0) (ae (va 1) aw))))) (ab noO' aB) aB) aB
def  JU:TZ:=ab (bW (aY (GY (ag (aa (aP false) (va 0) (cS "queue"))) (va 2) (aa cA (aa cA (va 1) (cI 1)) (va 2))) ac ac)) aB
def  zx(aF:xx):TZ:=ab (bW (aY (bu aF (ae (va 0) (ae (cI 1) (ae (cD (.int 9)) aw)))) ac (FC aF (ae (va 0) (ae (cI 1) (ae (cD (.int 9)) aw)))))) aB
abbrev Pk:=Bool×Int
abbrev _root_.T3:=List (List Pk)
noncomputable def  kd(q:Bool):Str:=if q then"queue"else"pile"
def  fz(p:Pk):D:=.tup [.str (kd p.1),.int p.2]
noncomputable def  Hx(p:Pk):Bool:=decide (0<=p.2)&&decide (p.2<=9)
noncomputable def  sq(w:Bool)(ds:Uh):D:=if w then .lst ds else .tup ds
@[simp]def FH(w:Bool)(ds:Uh):seqD (sq w ds)=!ds:=by cases w<;>rfl@[simp]def QW(w:Bool)(ds:Uh):fg [sq w ds,.tup [.ty "list",.ty "tuple"]]=!.bl true:=by cases w<;>simp[sq]def Nh(p:Pk):lfD (fz p)=true:=rfl
def  iL(ps:List Pk):D:=.tup (ps.map fz)
def  fA(f:xx):Prop:=∀v a b:Int,f [.int v,.int a,.int b]=!(.deep,.bl (decide (a<=v)&&decide (v<=b)))
def CF:fA (aQ 3 3 uo):=λv a b=>by refine ar rfl (seqF_rt (b9 (evX_lf ?_ rfl)));simp[az];grind
def  CH(f:xx):Prop:=∀v:Int,f [.int v]=!(.deep,.bl (decide (1<=v)&&decide (v<=9)))
def JV(g:fA w):CH (aQ 1 1 (zx w)):=λv=>by refine ar rfl (seqF_rt (b9 (evX_lf ?_ rfl)));simp[az,g v 1 9]
def Ni(q:Bool):GZ (.str (kd q)) (.tup [.str "queue",.str "pile"])=!.bl true:=by cases q<;>kernel_rfl
def  rN(f:xx):Prop:=∀p:Pk,f [fz p]=!(.deep,.bl (Hx p))
def CI(g:fA w):rN (aQ 1 1 (mG w)):=λp=>by
 refine ar rfl ?_;unfold mG fz;refine(ai (Y':=az 1 [.tup [.str (kd p.1),.int p.2]]) ?_).trans ?_;.refine(dQ ?_).trans rfl;simp[az]
 .refine seqF_rt (b9 (evX_lf ?_ rfl));simp[az,g p.2 0 9,Ni,Hx]
def  zO(ps:List Pk):Bool:=decide (1<=ps.length)&&decide (ps.length<=6)&&ps.all Hx
def  CJ(f:xx):Prop:=∀(w:Bool)(ps:List Pk),ps.length<1000->f [sq w (ps.map fz)]=!(.deep,.bl (zO ps))
def JW(t:rN g):CJ (aQ 1 2 (qj g)):=λw ps j=>by
 refine ar rfl ?_;unfold qj zO;have C:dX nz nz (cI 1) (bJ eZ (ae (va 0) aw)) (cD (.int 6)) [!sq w (ps.map fz),none]=!.bl (decide (1<=ps.length)&&decide (ps.length<=6)):=by
  by_cases h:1<=ps.length
  .have h':(1:Int)<=(ps.length:Int):=by lia
   simp[h,h'];lia
  .have h':¬(1:Int)<=(ps.length:Int):=by lia
   simp[h,h']
 have hi:bJ fg (ae (va 0) !25) [!sq w (ps.map fz),none]=!.bl true:=by cases w<;>simp[sq]
 have l:kc (bI (jv (bJ fg (ae (va 0) !25)))) (bI (ag (dX nz nz (cI 1) (bJ eZ (ae (va 0) aw)) (cD (.int 6))))) [!sq w (ps.map fz),none]=!not (decide (1<=ps.length)&&decide (ps.length<=6)):=by rw[mE,notQ_a,trF_a,hi,notQ_a,testB_a,C];rfl
 cases o:decide (1<=ps.length)&&decide (ps.length<=6)with
|false=>rw[o]at l;exact seqF_rt ((ifS_t l).trans (seqF_rt (b9 (evX_lf rfl rfl))))|true=>
  rw[o]at l;refine(ai ((dQ l).trans rfl)).trans (seqF_rt (b9 (evX_lf ?_ rfl)));have r:au [1] (jX ac (va 0)) (bc 1) tQ (bu g (ae (va 1) aw)) [!sq w (ps.map fz),none]=!ps.map λp=>.bl (Hx p):=by refine aE (mk:=fz) (by simp) (λp _=>?_) (Nat.lt_trans j !2);simp[t p]
  simp[az,r,iK]
abbrev Ps:=List (Bool×List Pk)
def  rO(p:Bool×List Pk):D:=sq p.1 (p.2.map fz)
def  prod:T3->Nat
|[]=>1|p::r=>p.length*prod r
def cL:∀a b:T3,prod (a++b)=prod a*prod b
|[],b=>by simp[prod]|p::a,b=>by simp only[List.cons_append,prod,cL a b,Nat.mul_assoc]
def bQ(a:T3)(p:List Pk):prod (a++[p])=prod a*p.length:=by rw[cL];simp[prod]
def lt_big(h:-1000000<j)(h2:j<1000000):-18446744073709551616<j/\j<18446744073709551616:=#[Int.lt_trans (!2) h,Int.lt_trans h2 !2]
def gB(h:-1000000<j)(h2:j<1000000):aM (.int i) (.int j)=!.int (i*j):=Cw (lt_big h h2).1 (lt_big h h2).2
def CK{n:Nat}(h:n<1000):aM (.int i) (.int (n:Int))=!.int (i*n):=gB (by lia) (by lia)
def  j6(f:xx):Prop:=∀(w:Bool)(pss:Ps),(∀p∈pss,p.2.length<1000)->f [sq w (pss.map rO)]=!(.deep,.int (prod (pss.map (·.2)):Nat))
def wg(A:D)(n:Nat)(p:Bool×List Pk)(g:p.2.length<1000):aY (aa aM (va 1) (bJ eZ (ae (va 2) aw))) ac ac [!(.sh,A),!(.deep,.int n),!(.sh,rO p)]=!((.deep,.int (n*p.2.length:Nat)),[!(.sh,A),!(.deep,.int n),!(.sh,rO p)]):=by
 refine evX_lf ?_ rfl;have j:seqD (rO p)=!_:=FH _ _;simp[j];rw[CK g]
def zy(g:Ps)(i:Nat)(p)(j:g[i]?=!p):prod ((g.take (i+1)).map (·.2))=prod ((g.take i).map (·.2))*p.2.length:=by rw[List.take_succ,j];simp[bQ]
def FI:j6 (aQ 1 3 wf):=λw g l=>by
  refine ar rfl ((ai (bj (evX_lf rfl rfl))).trans ?_);have L:=jk (J:=jX ac (va 0)) (tg:=br 2) (F:=ab (av 1 (aY (aa aM (va 1) _) ac ac)) aB) (ds:=g.map rO) (λi Y=>∃o,Y=[!(.sh,sq w (g.map rO)),!(.deep,.int (prod ((g.take i).map (·.2)):Nat)),o]) (by simp[az]) #[none,rfl] (by rintro i d Y hd⟨o,rfl⟩;rw[getElem?_map]at hd;cases j:g[i]?with
|none=>rw[j]at hd;cases hd|some p=>rw[j]at hd;cases hd;rw[zy g i p j];exact#[_,ai (bj (wg _ _ p (l p (UH j)))),#[!_,rfl]]);let[Y',e,o,rfl]:=L;refine(ai e).trans (seqF_rt ?_);simp[rJ,d8]
structure Valid(pss:T3):Prop where
 len:pss.length<=6
 each:∀p∈pss,zO p=true
 codes:prod pss<=1000
def Valid.p(h:Valid g){p:List Pk}(l:p∈g):1<=p.length/\p.length<=6/\∀k∈p,0<=k.2/\k.2<=9:=by have:=h.each p l;unfold zO at this;rw[and_eq_true,and_eq_true,List.all_eq_true]at this;refine#[Uv this.1.1,Uv this.1.2,λk j=>?_];have j:=this.2 k j;unfold Hx at j;grind
def  sAre(f:xx):Prop:=∀(w:Bool)(pss:Ps),Valid (pss.map (·.2))->f [sq w (pss.map rO)]=!(.deep,.bl true)
def h_are(J:CJ g)(T:j6 c):sAre (aQ 1 2 (rM c g)):=λw j r=>by
 refine ar rfl ?_;have C:j.length<=6:=by have:=r.len;simpa using this
 have t:∀p∈j,p.2.length<1000:=λp t=>by have:=(r.p (List.mem_map_of_mem t)).2.1;lia
 have o:kc (bI (jv (bJ fg (ae (va 0) !25)))) (ag (aa mJ (bJ eZ (ae (va 0) aw)) (cD (.int 6)))) [!sq w (j.map rO),none]=!false:=by
  have h:¬(6:Int)<(j.length:Int):=by lia
  cases w<;>simp[sq,h]
 refine(ai ((dQ o).trans rfl)).trans (seqF_rt (b9 (evX_lf ?_ rfl)));have I:au [1] (jX ac (va 0)) (bc 1) tQ (bu g (ae (va 1) aw)) [!sq w (j.map rO),none]=!j.map λp=>.bl (zO p.2):=by refine aE (mk:=rO) (by simp) (λp l=>?_) (Ux C !2);have:=J p.1 p.2 (t p l);simp[rO,this]
 have U:j.all (λp=>zO p.2)=true:=by rw[List.all_eq_true];intro p l;exact r.each _ (List.mem_map_of_mem l)
 simp[az,I,iK,U,T w j t];exact by have:=r.codes;lia
def  fB(ps:T3):D:=.tup (ps.map iL)
def  ak(ps:T3):D:=.obj "Mill" ["passes"] [fB ps]
def  gM(fa:xx):Uh->Option !39
|[d]=>(bw (fa [d])).bind λb=>(yK b).bind λt=>if t=true then(au [2] (jX ac (va 1)) (bc 2) tQ (bJ eS (ae (va 2) aw)) [none,!d,none]).bind λl=>![(("passes":Str),.tup l)]else none|_=>none
def FJ{R Sp}(h:R (vw Y)=!d)(g:Sp (vw Y)=none)(h2:R (bV Y)=!d):∃c,aY R ac Sp Y=!((c,d),Y):=by cases f:lfD d with
|true=>exact#[_,evX_lf h f]|false=>exact#[_,lM h f rfl g rfl h2]
def wj(ds:Uh)(r:List (Str×D))(h:gM fa ds=!r)(y:Addr):rm 2 3 (oq fa) y ds=!r:=by cases ds with
|nil=>cases h|cons d t=>cases t with
|cons _ _=>cases h|nil=>let[b,h1,h]:=UK h;let[t,h2,h]:=UK h;cases t with
|false=>cases h|true=>
    let[l,p,o]:=UK h;cases o;have g:au [2] (jX ac (va 1)) (bc 2) tQ (bJ eS (ae (va 2) aw)) [!.adr y,!d,none]=!l:=by rw[<-p];cases seqD d with
|none=>rfl|some ps=>rfl
    show oq fa y (vB 3 y [d]) []=_;unfold oq;have j:vB 3 y [d]=[!_,!_,none]:=rfl;rw[j];have C:(cG (bI (jv (bu fa (ae (va 1) aw)))) (ab noO' aB) aB) [!(.sh,.adr y),!(.sh,d),none]=!.nx [!(.sh,.adr y),!(.sh,d),none]:=by refine(dQ ?_).trans rfl;simp[h1,h2]
    unfold stI;rw[C];simp only[Option.bind_some];let[c,I]:=FJ (R:=bJ eS (ae (bb (au [2] (jX ac (va 1)) (bc 2) tQ (bJ eS (ae (va 2) aw)))) aw)) (Sp:=gT (ae (bb (au [2] (jX ac (va 1)) (bc 2) tQ (bJ eS (ae (va 2) aw)))) aw)) (Y:=[!(.sh,.adr y),!(.sh,d),none]) (d:=.tup l) (by simp[g]) (by simp) (by simp[g]);unfold rh;rw[I];simp[d8,A9,nM]
def  ur(g:Uh->Option !39):Prop:=∀(w:Bool)(pss:Ps),Valid (pss.map (·.2))->g [sq w (pss.map rO)]=![(("passes":Str),fB (pss.map (·.2)))]
def JX(r:sAre fa):ur (gM fa):=λw g l=>by
 have o:au [2] (jX ac (va 1)) (bc 2) tQ (bJ eS (ae (va 2) aw)) [none,!sq w (g.map rO),none]=!g.map λp=>iL p.2:=by refine aE (mk:=rO) (by simp) (λp _=>?_) (Ux (by have:=l.len;simpa using this) !2);simp[rO,iL]
 show(bw (fa [sq w (g.map rO)])).bind _=_;rw[r w g l];simp[o,fB]
def ou{g:Type}(xs:List g)(f:g->D)(t:Nat):oY (xs.map f) (!(t:Int)) none=(xs.drop t).map f:=by
 unfold oY;rw[HT.sIx_nat,HT.sIx_none,length_map,<-List.map_drop];by_cases h:t<=xs.length;.rw[Nat.min_eq_left h,List.take_of_length_le (by rw[length_map,List.length_drop];lia)]
 .have h':xs.length<=t:=by lia
  rw[Nat.min_eq_right h',List.drop_eq_nil_of_le (le_refl _),List.drop_eq_nil_of_le h'];simp
def kR{g:Type}(xs:List g)(f:g->D)(t:Nat):oY (xs.map f) none (!(t:Int))=(xs.take t).map f:=by unfold oY;rw[HT.sIx_nat,HT.sIx_none,length_map,List.drop_zero,Nat.sub_zero,<-List.map_take];grind
def iM(j:g "Mill" "passes"=true)(ps:T3):re g "passes" (ak ps)=!fB ps:=by show(if g "Mill" "passes"=true then List.lookup ("passes":Str) ([("passes":Str)].zip [fB ps])else none)=_;rw[if_pos j];rfl
def FK(g:j "Mill" "passes"=true){t:Nat}(h0:aO Y 0=!ak ps)(h1:aO Y 1=!.int (t:Int)):slF (flF j "passes" (va 0)) (partF (va 1)) noP Y=!.tup ((!4).map iL):=by
 unfold slF aI qU;simp[h0,h1,iM g,fB,ou]
def CL{g:Str->Str->Bool}(j:g "Mill" "passes"=true){Y:Vv}{ps:T3}{t:Nat}(h0:aO Y 0=!ak ps)(h1:aO Y 1=!.int (t:Int)):slF (flF g "passes" (va 0)) noP (partF (va 1)) Y=!.tup ((!30).map iL):=by
 unfold slF aI qU;simp[h0,h1,iM j,fB,kR]
def  xK(mt:MT)(kk:Nat):Prop:=∀ps:T3,jG mt kk "many" (ak ps) []=!(.deep,.int (ps.length:Nat))
def  xL(f:xx):Prop:=∀(ps:T3)(t:Nat),t<=ps.length->f [ak ps,.int (t:Int)]=!(.deep,.bl true)
def JY{mt g w}(l:xK mt g)(j:fA w):xL (aQ 2 2 (zw mt g w)):=λps t o=>by refine ar rfl (seqF_rt (b9 (evX_lf ?_ rfl)));simp[az,l ps,j (t:Int) 0 (ps.length:Int),(!6)]
noncomputable def  wD(w:Ub):D:=.tup (w.map λ(i:Nat)=>.int (i:Int))
def wk(w:Ub):lfD (wD w)=true:=ca λd hd=>by let[p,_,rfl]:=UA.mp hd;rfl
def  wm(f:xx):Prop:=∀(ps:T3)(t:Nat),t<=ps.length->f [ak ps,.int (t:Int)]=!(.deep,.non)
def FL(l:xL g):wm (aQ 2 2 (ot g)):=λps t j=>by refine ul rfl (Y:=az 2 [ak ps,.int (t:Int)]) ((ai ((dQ ?_).trans rfl)).trans rfl);simp[az,l ps t j]
noncomputable def  pkAt(q:Nat×List Pk):Pk:=q.2[q.1]?.getD (true,0)
def Nj(h:q.1<q.2.length):oR (q.2.map fz) (q.1:Int)=!fz (pkAt q):=by refine bn ?_;unfold pkAt;grind
def kT{v:Nat->Int}(I:Nat->Ev->Prop)(o:J (bV Y)=!(!22).map λi=>D.int (v i))(h0:I 0 Y)(l:∀(i:Nat)(Y:Ev),i<n->I i Y->∃Y',F (Y.set s !(.sh,.int (v i)))=!.nx Y'/\I (i+1) Y'):∃Y',dF J (br s) F Y=!.nx Y'/\I n Y':=by
 let[Y',e,i]:=jk (tg:=br s) I o h0 λi d Y hd hi=>by rw[getElem?_map]at hd;cases g:(!22)[i]?with
|none=>rw[g]at hd;cases hd|some p=>rw[g]at hd;cases hd;let[j,e]:=Us.mp g;rw[List.getElem_range]at e;subst e;rw[length_range]at j;exact l i Y j hi 
 grind
def vw_o(o:T6)(Y:Ev):vw (o::Y)=o.map (·.2)::vw Y:=rfl
noncomputable def  aN(ns:Ud):D:=.lst (ns.map D.int)
@[simp]def seq_sc(ns:Ud):seqD (aN ns)=!ns.map D.int:=rfl@[simp]def R1(ns:Ud):lfD (aN ns)=false:=rfl
def CN(g:Ud):dS (g.map D.int)=true:=ca λd hd=>by let[p,_,rfl]:=UA.mp hd;rfl
def jN(h:0<=i)(h2:i<ns.length):∃v,ax (aN ns) (.int i)=!.int v:=#[_,FG h h2]
def wn(h:0<=i)(h2:i<1000000000039):aM (.int i) (.int j)=!.int (i*j):=rL (Int.lt_of_lt_of_le (!2) h) (Int.lt_trans h2 !2)
def qk{k:Int}(h:g Y=!((.deep,d),Y'))(j:ownL Y' i=!(.deep,ds))(o:p (vw Y')=!.int k)(h0:0<=k)(l:k<ds.length):kP i p g R Y=!.nx (Y'.set i !(.deep,.lst (ds.set k.toNat d))):=by unfold kP aI;rw[mF h j o h0 l]
def FM(P:D->Prop)(h:0<=i)(h2:i<ds.length)(j:∀d∈ds,P d):∃d,P d/\oR ds i=!d:=by
 have g:i.toNat<ds.length:=by lia
 exact#[ds[i.toNat],j _ (List.getElem_mem g),lN h (getElem?_eq_getElem g)]
def md(i:Int)(h:0<j):0<=i%j/\i%j<j:=#[Int.emod_nonneg _ (by lia),Int.emod_lt_of_pos _ h]
def eW(i j:Int)(h:0<j):aJ (.int i) (.int j)=!.int (i%j):=eg h
def  bz(ps:T3):D:=.lst (ps.map λp=>.lst (p.map fz))
def JZ(h1:1<=p.length)(g:p.length<=6)(h:∀k∈p,Hx k=true):zO p=true:=by unfold zO;rw[and_eq_true,and_eq_true,List.all_eq_true];exact#[#[decide_eq_true h1,decide_eq_true g],h]
def xM{a b:Nat}(g:a<1000000):aM (.int (a:Int)) (.int (b:Int))=!.int ((a*b:Nat):Int):=by exact rL (Int.lt_of_lt_of_le (!2) (Int.natCast_nonneg a)) (Int.lt_trans (show(a:Int)<1000000 by lia) !2)
def QX(q:Bool):decide (kd q=("pile":Str))=not q:=by cases q<;>decide
noncomputable def  Hy(q:Bool)(a c:Int):Int:=if q=true then c else a-1-c
def  ql(f:xx):Prop:=∀(q:Bool)(a c:Int),f [.str (kd q),.int a,.int c]=!(.deep,.int (Hy q a c))
def J0:ql (aQ 3 3 JU):=λq a c=>by refine ar rfl (seqF_rt (b9 (evX_lf ?_ rfl)));cases q<;>rfl
def  OO(s:Int×Int)(q:Nat×List Pk):Int×Int:=(s.1*q.2.length,q.1*s.1+Hy (pkAt q).1 s.1 s.2)
def  Hz(s:Int×Int)(zs:List (Nat×List Pk)):Int×Int:=zs.foldl OO s
def wq{i:Nat}(h:i<1000000):aM (.int (i:Int)) (.int j)=!.int ((i:Int)*j):=rL (lt_big (by lia) (by lia)).1 (lt_big (by lia) (by lia)).2
def zA(l:j6 c)(ps:T3)(h:∀p∈ps,p.length<1000):c [.tup (ps.map iL)]=!(.deep,.int (prod ps:Nat)):=by
 have e:(ps.map λp=>((false,p):Bool×List Pk)).map rO=ps.map iL:=by rw[List.map_map];rfl
 have o:(ps.map λp=>((false,p):Bool×List Pk)).map (·.2)=ps:=by rw[List.map_map];exact List.map_id ps
 have:=l false (ps.map λp=>(false,p)) λp j=>by let[q,g,rfl]:=UA.mp j;exact h q g 
 rw[e,o]at this;exact this
def evX_fz{R L Sp}(h:R (vw Y)=!d)(f:lfD d=false)(l:L (vw Y)=none)(j:Sp (vw Y)=none)(g:L (bV Y)=none)(h2:R (bV Y)=none):aY R L Sp Y=!((.sh,d),dC Y):=by unfold aY aI gy kz qX AV aZ aI nJ fL;simp[h,l,g,h2,f,j]
def J2{K}{st}(n k:Nat)(X:K.In h)(T:h.Ns mainGlobals mg)(o:mg "law"=!.ref fa)(S:FnScope N ["script"] (ao st))(b:eV "law" st ["script"])(t:bf K "law" st)(g:∀base:Heap,K.In base->base.Ns mainGlobals mg->GbOk P w K mg base G)(J:∀r:Ud,r.length<=63->bw (Hq n k N ["script"] st G [.lst (r.map D.int)])=!.bl true):∃fd:FuncData,(∀(s:Shared)(v:Value),BindsTo s fd #[[v],[]] [("script",v)])/\∀base:Heap,K.In base->base.Ns mainGlobals mg->FnOk P w K mg base qP (k+1) fa fd ["script"] (OB K):=by
 let[f,oc,od,an,C,kV,p,pm,l,ct,h1,h2,h3,h4]:=t;have e:=o.symm.trans (PySem.W.mg_of X T h1);cases e;exact#[_,λs v=>.of_eq (b "law" kV p pm an l ct [v] rfl),λbase KB U=>JS (I0 (nn h2 h3 h4) S λl A j s H E I=>(Fz n).2 _ _ (uh (g base KB U) S l A j s H E I) _) J]
def cn_int{K}(X:K.In h)(g:h.Ns mainGlobals mg)(t:∃t,nsIn K mainGlobals x=!!.int i t):Cn K mg x (.int i):=by let[t,e]:=t;exact#[_,_,PySem.W.mg_of X g e,show RelV (.int i) _ from#[t,rfl],λH=>rfl]
def cn_2str{K}(X:K.In h)(r:h.Ns mainGlobals mg)(t:∃(a:Addr)(p:Option Addr)(n:Nat)(o:Array Ua)(j:Tok)(g:Tok),nsIn K mainGlobals x=!!33/\K.lookup a=!#[.type "tuple",p,.seq #[ .str y j,.str z g] n,o]):Cn K mg x (.tup [.str y,.str z]):=by
 let[a,p,n,o,j,g,e,l]:=t;refine#[.ref a,_,PySem.W.mg_of X r e,rfl,λH=>#[a,[.str y,.str z],rfl,.inr #[_,_,n,l,rfl,rfl,?_,.cons #[j,rfl] (.cons #[g,rfl] .nil)],#[_,_,rfl,rfl,#[_,_,rfl,rfl,rfl]]]];.show 2<=sizeLine;decide
def fl_one{K}(t:∃Ca,nsIn K mainGlobals C=!!24/\findIn K (.ref Ca) m=!none)(h:f=m):∀Ca,nsIn K mainGlobals C=!!24->NoAttr K Ca f:=by grind[NoAttr]
def mW{K}(c:TCls K C)(g:nsIn K mainGlobals C=!!24):Cls K Ca:=by let[l,e,j,_,_]:=c.ex;grind
def QY{K}{st}{kV j pm g ct}(a:nsIn K mainGlobals x=!!.ref f)(l:K.lookup f=!#[r,p,.func (PySem.W.fnOf x x (b7 st) (aL st) (ao st) .none kV j pm t g ct),o])(c:PySem.W.codeIn K g x=true)(k:PySem.W.keepIn K (.ref f)=true):bf K x st:=#[f,r,p,t,o,kV,j,pm,g,ct,a,l,c,k]
def CO{K}{st}{kV doc pm cdv ct}(a:nsIn K mainGlobals C=!!24)(n:findIn K (.ref Ca) m=!!.ref f)(i:PySem.W.isFn K (.ref f)=true)(l:K.lookup f=!#[oc,od,.func (PySem.W.fnOf m g (b7 st) (aL st) (ao st) .none kV doc pm an cdv ct),osl])(c:PySem.W.codeIn K cdv g=true)(k:PySem.W.keepIn K (.ref f)=true):ug K C m g st:=#[Ca,f,oc,od,an,osl,kV,doc,pm,cdv,ct,a,n,i,l,c,k]
def Nk{K}(a:nsIn K mainGlobals C=!!24)(j:PySem.W.plainGet K Ca Str.empty=true)(hd:PySem.W.hasDictIn K Ca=true)(po:PySem.W.plainOver K Ca=true)(g:findIn K (.ref Ca) "__setattr__"=!!.builtin "object.__setattr__")(mk:PySem.W.makesIn K Ca=true)(l:PySem.W.keepIn K (.ref Ca)=true):TCls K C:=#[Ca,a,#[j,hd,po,g],mk,l]
def OP{K}(a:nsIn K mainGlobals C=!!24)(n:findIn K (.ref Ca) m=!none):∃Ca,nsIn K mainGlobals C=!!24/\findIn K (.ref Ca) m=!none:=#[Ca,a,n]
def zB{K}(a:nsIn K mainGlobals x=!!.int i t):∃t,nsIn K mainGlobals x=!!.int i t:=#[t,a]
def Nl{K}(e:nsIn K mainGlobals x=!!33)(l:K.lookup a=!#[.type "tuple",od,.seq #[ .str y t0,.str z t1] n,sl]):∃(a:Addr)(od:Option Addr)(n:Nat)(sl:Array Ua)(t0:Tok)(t1:Tok),nsIn K mainGlobals x=!!33/\K.lookup a=!#[.type "tuple",od,.seq #[ .str y t0,.str z t1] n,sl]:=#[a,od,n,sl,t0,t1,e,l]
noncomputable abbrev CP(q:Str)(params:Arguments)(body:Expr)(scope:Scope)(cl:List (Str×Addr))(pm:Value)(c':Addr)(ctv:Value):FuncData:=PySem.W.kla_fn "<lambda>" q params body scope cl pm (.ref c') ctv
noncomputable abbrev da(q:Str)(params:Arguments)(body:Expr)(scope:Scope)(cl:List (Str×Addr))(pm:Value)(c':Addr)(ctv:Value):Obj:=PySem.W.kla_obj "<lambda>" q params body scope cl pm c' ctv
def  QZ(X:Cx)(A:Around)(N:Uc)(env:Env)(s:Shared)(H:Hp):Cx:={X with A:=A.deeper env,N:=N,s₀:=s,H₀:=H,env:=env,outer:=X.stack,stack:=env::X.stack,ex:=[],fn:=λ_=>false,calm:=true,pn:=[],xe:=λ_ _=>False}
structure LamSc(scope:Scope)(x y:Str):Prop where
 xl:scope.names.lookup x=some .local
 yf:scope.names.lookup y=some .free
 only:∀z,scope.names.lookup z=some .free->z=y
 nocell:∀z∈scope.names,z.2≠.cell
 kind:scope.kind=.function
 co:scope.isCoroutine=false
 gen:scope.isGenerator=false
 ne:x≠y
section
variable{X:Cx}{pins:T5}{σ:St}{H:Hp}{s:Shared}
def FN(I:Inv X pins σ H s)(hA:A.frames=!X.stack)(hh:A.handled=none)(S:LamSc scope x y)(hc:X.env.cells.lookup y=!c)(t:s.heap.IsCell c !w)(J:RelV v w)(rl:RelV l u)(T:j.Ns s.heap.objs.size λz=>[(x,u)].reverse.lookup z)(g:∀b o,s.heap.get? b=!o->j.get? b=!o):Inv (QZ X A [x,y] (PySem.W.envX q scope s.heap.objs.size f (.ref c') [(y,c)]) s H) [] [!l,!v] H {s with heap:=j,toks:=tk}:=by
 have C:∀z d,([(y,c)]:List (Str×Addr)).lookup z=!d->z=y/\d=c:=λz d h=>by
  rw[List.lookup_cons]at h;split at h;.rename_i e;exact#[by simpa using e,(Option.some.inj h).symm]
  .cases h
 have cy:([(y,c)]:List (Str×Addr)).lookup y=!c:=by simp[List.lookup_cons]
 have r:j.IsCell c !w:=by let[o,ho,hd]:=t;exact#[o,g _ _ ho,hd]
 refine#[#[I.ok.mod,S.kind,rfl,rfl,UI _,λa b d h1 h2=>?_,λa ha=>?_,λa d ha=>?_,λ_=>hh,Around.frames_deeper hA,.inr #[rfl,rfl],λb z=>(nomatch z),I.bs,Uy I.ok.bsz I.sz,λb _ _ z=>(nomatch z),λb z=>(nomatch z),I.stack,#[I.stkFree,I.tab]],rfl,I.bare,Un.kept g,#[_,T,λi z v' h1 h2 h3=>?_],λa d h=>?_,I.hok.fresh (UI _),λa d h=>?_,λp hp=>(nomatch hp),I.hok.kept g,rfl];.rw[(C a d h1).1,(C b d h2).1]
 .have U:scope.names.lookup a=some .cell\/scope.names.lookup a=some .free:=ha;rcases U with z|z;.exact absurd rfl (S.nocell _ (PySem.mem_of_lookup z))
  .rw[S.only a z];exact#[c,cy]
 .cases ha
 .match i,h1,h2 with
|0,h1,h2=>cases h1;cases h2;exact#[u,rl,.inl #[S.xl,by simp[List.lookup_cons]]]|1,h1,h2=>cases h1;cases h2;exact#[w,J,.inr #[.inr S.yf,c,cy,r]]|n+2,h1,h2=>cases h1
 .let[rfl,rfl]:=C a d h;exact#[_,r]
 .let[rfl,rfl]:=C a d h;exact I.freeC _ _ hc
def FO(I:Inv X pins σ H s)(hA:A.frames=!X.stack)(hh:A.handled=none)(j:A.depth<recursionLimit)(S:LamSc scope x y)(hf:s.heap.get? f=!da q g body scope [(y,c)] pm c' ctv)(hcd:s.heap.CodeRec (.ref c') q)(hb:bindArgs (CP q g body scope [(y,c)] pm c' ctv) #[[u],[]]=pure [(x,u)])(hc:X.env.cells.lookup y=!c)(C:s.heap.IsCell c !w)(rw':RelV v w)(rl:RelV l u)(T:PE (QZ X A [x,y] (PySem.W.envX q scope s.heap.objs.size f (.ref c') [(y,c)]) s H) body t)(ht:t [!l,!v] H Q):wpAny (!3) A (call (.ref f) [u]) (EP X pins σ Q) (λ_ _=>False) s:=by
 refine wpAny_call (PySem.W.kla_callFunE j hf rfl S.co S.gen rfl hcd ?_);rw[hb];refine Uo (wpAny_newFunctionEnv S.nocell (λz hz=>by rw[mem_singleton.mp hz];exact S.xl) (λU hns p=>#[I.nolimit.fresh _ p,?_]) S.kind);show codeAny _ _ (.expr body (PySem.W.envX q scope s.heap.objs.size f (.ref c') [(y,c)])) _ _;refine PySem.W.kla_codeExpr (UJ (T [] _ _ H Q (FN (q:=q) (c':=c') (f:=f) (tk:=s.toks+[(x,u)].length) I hA hh S hc C rw' rl hns λb o e=>p.extBut b o (Uz (Up e)) (Um _ e)) ht) (λr s' hs=>?_) λe s' hF=>hF.elim);let[v',H',J,rv,q]:=hs;exact#[v',H',I.call' J.os J.base J.hok J.bare (λ_ z=>nomatch z),rv,q]
def CQ(I:Inv X pins σ H s)(hP:H P=!.cod #[ ] pos q)(J:X.env.code=.ref c0)(hC:∀h:Heap,X.K.In h->PySem.W.CodeHd h c0 P)(hB:∀h:Heap,X.K.In h->h.BuiltinsAt X.mg P)(hgP:mainGlobals≠P)(hcl:closureFor scope X.env=pure j)(k:∀f p l s' H',Inv X pins σ H' s'->Same H H'->s'.heap.get? f=!!11->H' f=!.frz (!11) (.own f)->(∃r U t,H' p=!.frz r (.own P)/\r.data=.fields U/\U[1]?=!.str q t)->Q (.ref f) s'):wpAny (!3) A (makeFunction "<lambda>" q g (.expr body) scope X.env [] [] [] pos fl) Q E s:=by
 have hg:=I.ok.mod.glob.keeps I.bk;rcases I.hok P _ hP with hp|⟨p,r,U,t,hp,ho,C⟩
 .refine PySem.W.kla_makeFunction hcl I.ok.glob hg J (hC _ I.kIn) hp True.intro rfl hgP (hB _ I.kIn) λp l h' tk hx hge hlt C htb=>?_;let[c2,r,U,t,z2,goc,hvs,hv1]:=C;cases z2;have hcn:=I.hok.fresh hge;have hfs:=Uy hge (UF hlt);have T:=I.hok.fresh hfs;have hfc:=Nat.ne_of_gt hlt;have up:∀b o,H b=!o->upd (upd H p (.frz r (.own P))) h'.objs.size (.frz (!11) (.own h'.objs.size)) b=!o:=λb o e=>by rw[af (aq e T),af (aq e hcn)];exact e
  have kp:∀b o,b≠P->s.heap.get? b=!o->(h'.push !11).get? b=!o:=λb o hb e=>Um _ (hx b o hb e);have nP:∀b,H b=none->b≠P:=λb n z=>by rw[z,hP]at n;cases n
  have lt:∀b o,s.heap.get? b=!o->b≠p/\b≠h'.objs.size:=λb o e=>#[Uz (Uw (Up e) hge),Uz (Uw (Up e) hfs)];have gf:(h'.push !11).get? h'.objs.size=!da q g body scope j _ p l:=Uq _ rfl;have gc:(h'.push !11).get? p=!r:=Um _ goc;have hc':upd (upd H p (.frz r (.own P))) h'.objs.size (.frz (!11) (.own h'.objs.size)) p=!.frz r (.own P):=by rw[af (Ne.symm hfc),ah]
  refine k h'.objs.size p l _ (upd (upd H p (.frz r _)) h'.objs.size (.frz (da q g body scope j _ p l) _)) (I.un #[λb o e n _ _=>kp b o (nP b n) e,λb o e n _ _=>#[o.slots,kp b o (nP b n) e],λb o e n _=>?_,λb o e _=>?_,λb xs e=>up _ _ e,λb o u e=>up _ _ e,λb ps e=>#[#[ ],by rw[up _ _ e];simp]] ?_) (λb o e=>up b o e) gf ah #[r,U,t,hc',hvs,hv1];.rw[af (lt b o e).2,af (lt b o e).1];exact n
  .by_cases hb:b=P;.subst hb;exact#[_,Um _ htb]
   .exact#[o,kp b o hb e]
  .intro b o e;by_cases hbf:b=h'.objs.size;.subst hbf;rw[ah]at e;cases e;exact#[gf,_,gf]
   .rw[af hbf]at e;by_cases hbc:b=p;.subst hbc;rw[ah]at e;cases e;exact#[gc,_,gc]
    .rw[af hbc]at e;by_cases hbP:b=P;.subst hbP;rw[hP]at e;cases e;exact .inr #[p,r,U,t,Um _ htb,hc',hvs,hv1]
     .refine(I.hok b o e).stay (λd v hd q=>kp d v ?_ q) (λd q=>up _ _ q) (λd xs q=>up _ _ q) λd o' u' q=>up _ _ q;rcases hd with rfl|hd;.exact hbP
      .intro z;rw[z,hP]at hd;cases hd
 .refine PySem.W.kla_makeFunctionHit hcl I.ok.glob hg J (hC _ I.kIn) hp True.intro (codeAmong_snoc [] True.intro rfl) (hB _ I.kIn) λl h' tk hk hsz=>?_;have T:=I.hok.fresh hsz;have gf:(h'.push !11).get? h'.objs.size=!da q g body scope j _ p l:=Uq _ rfl;exact k h'.objs.size p l _ _ (I.laid (o:=.frz (da q g body scope j _ p l) (.own h'.objs.size)) (λb o e=>Um _ (hk b o e)) hsz #[gf,_,gf]) (λb o e=>by rw[af (aq e T)];exact e) gf ah #[r,U,t,by rw[af (aq ho T)];exact ho,C]
end
def Inv.adopt{σ:St}(I:Inv X pins σ H s)(g:H a=none)(U:X.s₀.heap.objs.size<=a)(hL:a≠X.env.locals)(T:∀x c,X.env.cells.lookup x=!c->c≠a)(J:∀p∈X.pn++pins,p.1≠a)(new:ObjOk X.prog X.w (upd H a o) s.heap a o):Inv X pins σ (upd H a o) s:=#[I.ok,I.os,I.bare,#[I.base.keep,I.base.slot,λb j e n C=>by rw[af (Nat.ne_of_lt (lt_of_lt_of_le (Heap.lt_size e) U))];exact I.base.free b j e n C,I.base.there,λb xs e=>by have q:=I.base.tups b xs e;rw[af (aq q g)];exact q,λb j u e=>by have q:=I.base.frzs b j u e;rw[af (aq q g)];exact q,λb ps e=>by let[m,q]:=I.base.tbls b ps e;exact#[m,by rw[af (aq q g)];exact q]],I.loc,I.cell,by rw[af (Ne.symm hL)];exact I.free,λx c e=>by rw[af (T x c e)];exact I.freeC x c e,λp q=>by let[t,r,l]:=I.pin p q;exact#[t,by rw[af (J p q)];exact r,l],I.hok.adopt g new,I.len]
noncomputable def  FP(a:Addr):Ue:=λb=>decide (b=a)
def lO(a:Addr):FP a a=true:=decide_eq_true rfl
section
variable{X:Cx}{pins:T5}{σ:St}{H:Hp}{s:Shared}
def  xN(X:Cx)(σ:St)(H:Hp)(A:Around)(f:Value)(xs:List V)(kds:Uh):Prop:=∀(i:Nat)(x:V)(u:Value),xs[i]?=!x->RelV x u->∀(O:Ue)(pins:T5)(s:Shared)(H':Hp),Inv X pins σ H' s->(∀b,O b=true->Hid (H' b))->Same H (msk O H')->wpAny (!3) A (call f [u]) (EP X pins σ λv H2=>Same H' H2/\Is X.K (msk O H2) (kds.getD i .non) v) (λ_ _=>False) s
def  rP(X:Cx)(σ:St)(pins:T5)(H:Hp)(kS:Addr)(kds:Uh)(i:Nat)(s:Shared):Prop:=∃H' kvs,Inv X pins σ H' s/\H' kS=!.lst kvs/\Same H (msk (FP kS) H')/\IsL X.K (msk (FP kS) H') (kds.take i) kvs
def FQ{H':Hp}(h:H' g=!.lst l):∀b,FP g b=true->Hid (H' b):=λb j=>by rw[of_decide_eq_true j,h];exact .inl #[_,rfl]
def CS{C:Except Value Value->Sem (ForInStep PUnit)}(T:xN X σ H A f xs g)(U:xs[i]?=!x)(ru:RelV x u)(hlen:g.length=xs.length)(h64:xs.length<64)(hk:rP X σ pins H p g i s)(hC:∀v,C (.ok v)=(do Builtin.List.listUpdate (.ref p) (·.push v);pure (.yield #[]))):wpAny (!3) A ((call f [u]).attempt>>=C) (λr s'=>r=.yield #[]/\rP X σ pins H p g (i+1) s') E s:=by
 let[H1,kvs,I,o,hs,J]:=hk;have hi:=(Us.mp U).1;refine Ul (wpAny_attempt (UJ (T i x u U ru _ pins s H1 I (FQ o) hs) (λr s' h=>?_) λ_ _ z=>z.elim));let[v,H2,I2,rv,l,iv]:=h;rw[hC];have j:=l _ _ o;let[hz,its,n,r1,hl,e]:=I2.lstM j;have t:=J.len;rw[List.length_take]at t;have h64':(64:Nat)<=sizeLine:=by decide
 refine Ul (listUpdate_at e rfl (Uo #[rfl,_,_,I2.lset (t':=s'.toks) (f:=λz=>z.push r) j e (by simp) (Vals.append r1 (.cons rv .nil)) (by rw[length_append];show _+1<=_;lia),ah,?_,?_]) (by rw[size_toArray];lia) (by rw[Array.size_push,size_toArray];lia));.rw[fy (lO p)];exact hs.trans l.msk
 .rw[fy (lO p)];have ht:g.take (i+1)=g.take i++[g.getD i .non]:=by
   rw[List.take_add_one];have:g[i]?=!g.getD i .non:=by rw[List.getD_eq_getElem?_getD,getElem?_eq_getElem (by lia)];rfl
   rw[this];rfl
  rw[ht];exact(IsL.mono l.msk _ _ J).app #[v,[],rfl,iv,rfl]
def  plcK(kds:Uh):Ub:=if kds.length<2 then List.range kds.length else(kRun (pe λi=>flt (kds.getD i .non)) (PySem.W.kas_sort kds.length)).toList
def jm(g:Uh):(plcK g).Perm (List.range g.length):=by
 unfold plcK;split;.exact .refl _
 .exact(dG _ (by lia)).1
def ut(g:Uh):(plcK g).Pairwise λa b=>HT.lexLt (flt (g.getD b .non)) (flt (g.getD a .non))=false:=by
 unfold plcK;split;.rename_i h;match e:g.length,h with
|0,_=>exact .nil|1,_=>exact List.pairwise_singleton _ _
 .exact(dG _ (by lia)).2
def FR{st}(I:Inv X ((a,seqObj "list" #[ ] e1)::pins) σ H2 s)(hkS:H2 kS=!.lst kvs)(hk64:kvs.length<64)(hfl:failedOf st=none)(har:(arrOf st).map (·.2)=its.toArray)(rv:Vals ys its)(h64:its.length<64)(ha:X.s₀.heap.objs.size<=a)(hc:∀x c,X.env.cells.lookup x=!c->c≠a)(hpp:∀p∈X.pn++pins,p.1≠a)(h:∀s',Inv X pins σ (upd (upd H2 kS (.lst [])) a (.lst ys)) s'->upd H2 kS (.lst []) a=none->P (.done (.ret .none)) s'):wpAny (!3) A (ksk_tail a false e1 (.ref kS) st) P E s:=by
 have h64':(64:Nat)<=sizeLine:=by decide
 have hpin:=I.pin (a,seqObj "list" #[ ] e1) (UD _ (.head _));have hak:a≠kS:=λz=>by have q:=hpin.2.1;dsimp only at q;rw[z,hkS]at q;cases q
 let[_,kts,n,r1,hl,e]:=I.lstM hkS;unfold ksk_tail;dsimp only;refine Ul (listUpdate_at e rfl ?_ (by rw[size_toArray];omega) (Nat.zero_le _));have I3:=I.lset (ys:=[]) (its':=[]) (t':=s.toks) (f:=λ_=>(#[ ]:Ug)) hkS e rfl .nil (Nat.zero_le _);have hp3:=I3.pin (a,seqObj "list" #[ ] e1) (UD _ (.head _));refine Ul (wpAny_letGo ?_);refine Ul (seqEpoch_at hp3.1 rfl ?_);refine Ul (listUpdate_at hp3.1 rfl ?_ (Nat.zero_le _) ?_);.rw[hfl];simp only[bne_self_eq_false,Bool.false_eq_true,if_false];refine Uo (h _ ?_ hp3.2.1);have I4:Inv X pins σ (upd H2 kS (.lst [])) {s with heap:=s.heap.update kS (Obj.mapSeq λ_=>(#[ ]:Ug)),toks:=s.toks}:=I3.pins_of λp hp=>I3.pin p (UD _ (Uu _ hp));obtain⟨c2,hc2⟩:∃c2,((s.heap.update kS (Obj.mapSeq λ_=>(#[ ]:Ug))).update a (Obj.mapSeq λ_=>(arrOf st).map (·.2))).get? a=!(seqObj "list" ((arrOf st).map (·.2)) c2):=#[_,get?_update_seq hp3.1 λ_=>(arrOf st).map (·.2)];have I5:=I4.turned (t':=s.toks) (it:=a) (h':=(s.heap.update kS (Obj.mapSeq λ_=>(#[ ]:Ug))).update a (Obj.mapSeq λ_=>(arrOf st).map (·.2))) (λb o hb q=>by rw[Heap.get?_update_ne _ _ _ _ hb];exact q) hp3.2.1 hp3.2.2.1 (.inr ha) hc hpp;refine I5.adopt hp3.2.1 ha hp3.2.2.1 hc hpp #[by rw[rv.length];omega,its,c2,rv,?_];exact hc2.trans (by rw[har])
 .show((arrOf st).map (·.2)).size<=_;rw[har,size_toArray];omega
def J3(hk:rP X σ ((a,seqObj "list" #[ ] e1)::pins) H kS g g.length s)(hu:A.units+1<cLine)(hs:c6 g)(hlen:g.length=xs.length)(rv:Vals xs l)(h64:xs.length<64)(ha:X.s₀.heap.objs.size<=a)(hc:∀x c,X.env.cells.lookup x=!c->c≠a)(hpp:∀p∈X.pn++pins,p.1≠a)(h:∀s' H',Inv X pins σ (upd H' a (.lst ((plcK g).map λi=>xs.getD i .non))) s'->H' a=none->Same H H'->P (.done (.ret .none)) s'):wpAny (!3) A (do let keys<-Builtin.List.listItems (.ref kS);ksk_end a false l.toArray e1 (.ref kS) keys) P E s:=by
 let[H2,kvs,I,J,hsm,il]:=hk;rw[List.take_length]at il;have hkl:=il.len;have hil:=rv.length;let[hz,U,n,r1,hl,e]:=I.lstM J;have hlt:∀i∈plcK g,i<g.length:=λi hi=>UG.mp ((jm g).mem_iff.mp hi);have vv:Vals ((plcK g).map λi=>xs.getD i .non) ((plcK g).map λi=>l.getD i .none):=dP rv .non .none λi hi=>by have:=hlt i hi;lia 
 have ln:((plcK g).map λi=>l.getD i Value.none).length<64:=by rw[length_map,(jm g).length_eq,length_range];lia
 have sm:Same H (upd H2 kS (.lst [])):=λb o q=>by have T:=a8 (hsm b o q);rw[af λz=>by rw[z]at T;rw[lO]at T;cases T.1];exact T.2
 have fin:∀st:SortSt,failedOf st=none->(arrOf st).map (·.2)=((plcK g).map λi=>l.getD i Value.none).toArray->wpAny _ A (ksk_tail a false e1 _ st) P E s:=λst hf har=>FR I J (by lia) hf har vv ln ha hc hpp λs' I' hn=>h s' _ I' hn sm;refine Ul (listItems_at e rfl ?_);unfold ksk_end;simp only[Bool.false_eq_true,if_false];by_cases h2:l.toArray.size<2;.rw[if_pos h2,if_pos h2];refine Ul (Uo (Ul (Uo ?_)));rw[size_toArray]at h2;refine fin (SortSt.mk' general' _ #[ ] 7 none) rfl ?_;have ep:plcK g=List.range g.length:=if_pos (by lia);rw[ep,show g.length=l.length by lia,bX];show(U.toArray.zip l.toArray).map (·.2)=l.toArray;apply Array.toList_inj.mp;simp only[Array.toList_map,Array.toList_zip];exact List.map_snd_zip (by lia)
 .rw[if_neg h2,if_neg h2];rw[size_toArray]at h2;let[sh,hne,hs']:=hs;have B:=xp I hu il.full r1 hne hs' (UI s.heap.objs.size) s.heap λ_ _ q=>q;refine Ul (UJ (B.kd s.heap (λ_ _ _ q=>q) (by lia) (λt s'=>t=tuples' _/\s'=s) #[rfl,rfl]) ?_ λ_ _ z=>z.elim);rintro t s1⟨z1,z2⟩;rw[z1,z2];refine Ul (UJ (PySem.W.kat_run (Q:=λr s'=>((arrOf r).map (·.2)=((plcK g).map λi=>l.getD i Value.none).toArray/\failedOf r=none)/\s'=s) (by lia) (by lia) (by lia) (G:=λp s'=>p=kRun (pe λi=>flt (g.getD i .non)) _/\s'=s) (λp r s' a1 a2 a3 a4=>#[#[?_,a3],a4.2]) (rC (λi j C hi hj z=>B.cp s.heap (λ_ _ _ q=>q) i j (by lia) (by lia) C z) _ (rB (by lia)) #[rfl,rfl])) ?_ λ_ _ z=>z);.rw[PySem.W.kat_snds (by lia) a2,a4.1];have ep:plcK g=(kRun (pe λi=>flt _) (PySem.W.kas_sort g.length)).toList:=if_neg (by lia);rw[ep,show g.length=l.length by lia]
  .rintro⟨⟨⟩,r⟩s2⟨⟨z3,z4⟩,z5⟩;rw[z5];exact fin r z4 z3
end
def FS(I:Inv X pins σ H s)(hu:A.units+1<cLine){h2:Heap}(ho:h2.get? a=!seqObj "list" its.toArray m)(kp:∀b o,s.heap.get? b=!o->h2.get? b=!o)(ha:s.heap.objs.size<=a)(T:xN X σ H A (.ref f) xs kds)(hs:c6 kds)(hlen:kds.length=xs.length)(rv:Vals xs its)(h64:xs.length<64)(h:∀s' H',Inv X pins σ (upd H' a (.lst ((plcK kds).map λi=>xs.getD i .non))) s'->H' a=none->Same H H'->P (.done (.ret .none)) s'):wpAny (!3) A (ksk_tree a (.ref f) false) P E {s with heap:=h2}:=by
 have hil:=rv.length;have h64':(64:Nat)<=sizeLine:=by decide
 have lt:=Up ho;obtain⟨e1,ho1⟩:∃e1,(h2.update a (Obj.mapSeq λ_=>(#[ ]:Ug))).get? a=!seqObj "list" #[ ] e1:=#[_,get?_update_seq ho λ_=>#[ ]];have hkS:((h2.update a (Obj.mapSeq λ_=>(#[ ]:Ug))).push (seqObj "tuple" its.toArray 0)).objs.size=h2.objs.size+1:=by rw[size_push',Heap.size_update]
 have hne:∀b o,s.heap.get? b=!o->b≠a:=λb o e=>Uz (Uw (Up e) ha);have kp5:∀b o,s.heap.get? b=!o->(((h2.update a (Obj.mapSeq λ_=>(#[ ]:Ug))).push (seqObj "tuple" its.toArray 0)).push (seqObj "list" #[ ] 0)).get? b=!o:=λb o e=>Um _ (Um _ (by rw[Heap.get?_update_ne _ _ _ _ (hne b o e)];exact kp b o e));have ho5:(((h2.update a (Obj.mapSeq λ_=>(#[ ]:Ug))).push (seqObj "tuple" its.toArray 0)).push (seqObj "list" #[ ] 0)).get? a=!_:=Um _ (Um _ ho1);have hsk:=Uy ha (UF (Nat.lt_succ_of_lt lt));have hak:=Uz (Nat.lt_succ_of_lt lt);have kSn:=I.hok.fresh hsk;have an:=I.hok.fresh ha;have I5:Inv X pins σ (upd H (h2.objs.size+1) (.lst [])) {s with heap:=((h2.update a (Obj.mapSeq λ_=>(#[ ]:Ug))).push _).push _,toks:=s.toks}:=I.laid kp5 hsk #[Nat.zero_le _,[],0,.nil,by rw[<-hkS];exact Uq _ rfl];have hL:=Nat.ne_of_gt (Uw I.lt ha);have I6:Inv X ((a,seqObj "list" #[ ] e1)::pins) σ (upd H (h2.objs.size+1) (.lst [])) {s with heap:=((h2.update a (Obj.mapSeq λ_=>(#[ ]:Ug))).push (seqObj "tuple" its.toArray 0)).push (seqObj "list" #[ ] 0),toks:=s.toks}:=by
  refine I5.pins_of λp hp=>?_;rcases mem_cons.mp hp with rfl|hp;.exact#[ho5,by rw[af hak];exact an,hL,I.nofs ha,λv z=>by cases z]
  .exact I5.pin p (UD _ hp)
 refine Ul (listItems_at ho rfl (Ul (listUpdate_at ho rfl ?_ (by rw[size_toArray];lia) (Nat.zero_le _))));refine Ul (seqEpoch_at ho1 rfl (Ul (wpAny_newTuple (Ul (wpAny_newList (wpAny_holding ?_) (Nat.zero_le _))) (by show its.length<=_;lia))));rw[hkS];refine Ul (wpAny_rule ?_);first
|rw[List.forIn_toArray]|(rw[<-Array.forIn_toList];simp only[List.toList_toArray])|rw[<-Array.forIn_toList]
 refine Ul (ksk_fold (λi s'=>rP X σ ((a,seqObj "list" #[ ] e1)::pins) H (h2.objs.size+1) kds i s') its 0 _ ?_ ?_ ?_);.refine#[_,[],I6,ah,λb o e=>?_,rfl];have hb:=aq e kSn;rw[aH (decide_eq_false hb),af hb];exact e
 .intro j u s' hu' hk;rw[Nat.zero_add]at hk⊢;have hj:=(Us.mp hu').1;obtain⟨x,hx⟩:∃x,xs[j]?=!x:=#[_,getElem?_eq_getElem (by lia)];let[u2,h1,rx]:=rv.get hx;rw[hu']at h1;cases h1;exact CS T hx rx hlen h64 hk λv=>rfl 
 .intro s' hk;rw[Nat.zero_add,show its.length=kds.length by lia]at hk;exact J3 hk hu hs hlen rv h64 (Uy I.sz ha) (λx c e z=>by let[v,o,hoc,_]:=I.cell x c e;exact absurd (Uw (Up hoc) (by rw[z];exact ha)) (UE _)) (λp hp z=>absurd (Uw (Up (I.pin p hp).1) (by rw[z];exact ha)) (UE _)) h
def wt{X:Cx}{pins:T5}{σ:St}{H:Hp}{s:Shared}(I:Inv X pins σ H s)(hu:A.units+3<cLine)(hx:SqL X.K H l xs)(T:xN X σ H A.in1.in1 (.ref f) xs j)(hs:c6 j)(C:j.length=xs.length)(J:xs.length<64)(h:∀a s' H',Inv X pins σ (upd H' a (.lst ((plcK j).map λi=>xs.getD i .non))) s'->H' a=none->Same H H'->U (.ref a) s'):wpAny (!3) A (call (.builtin "sorted") [.ref l] [(Str.ofString "key",.ref f)]) U E s:=by
 let[g,rv,pl,hz]:=I.list hx;have hl:=pl.isList;have hil:=rv.length;refine call_function_entry_kw kind_sorted plain_sorted entry_sorted (ksk_s1 _ _) ?_;refine Ul (Uo (Ul (collect_list hl (Ul (wpAny_newList ?_ (by lia))) (by lia))));have p:((s.heap.push (seqObj "list" #[ ] 0)).update s.heap.objs.size (Obj.mapSeq (·++g.toArray))).objs.size=s.heap.objs.size+1:=by rw[Heap.size_update,size_push']
 have t:(((s.heap.push (seqObj "list" #[ ] 0)).update s.heap.objs.size (Obj.mapSeq (·++g.toArray))).push (seqObj "list" g.toArray 0)).get? (!21)=!seqObj "list" g.toArray 0:=by rw[<-p];exact Uq _ rfl
 have keep:∀b o,s.heap.get? b=!o->(((s.heap.push _).update s.heap.objs.size (Obj.mapSeq (·++g.toArray))).push (seqObj "list" g.toArray 0)).get? b=!o:=λb o q=>by have r:=Up q;rw[Heap.get?_push_ne _ _ _ (by rw[p];exact Uz (Nat.lt_succ_of_lt r)),Heap.get?_update_ne _ _ _ _ (Uz r),Heap.get?_push_ne _ _ _ (Uz r)];exact q
 rw[p];exact Ul (wpAny_holding (wpAny_call_entry_kw slot_list_sort #[_,t,rfl] entry_list_sort (FS I (by show A.units+1+1+1<_;omega) t keep (Nat.le_succ _) T hs C rv J λs' H' I' hn sm=>#[_,rfl,Uo #[_,rfl,h _ s' H' I' hn sm]]) (ksk_l1 _ _)))
structure LamAt(X:Cx)(x y:Str)(i:Nat)(params:Arguments)(body:Expr)(scope:Scope)(lpos:Pos)(P c0:Addr)(fb:TY):Prop where
 tab:lamTabs.lookup P=!(lpos,X.env.qual++"<lambda>")code:X.env.code=.ref c0
 hd:PySem.W.codeHdIn X.K c0 P=true
 blt:∀h:Heap,X.K.In h->h.BuiltinsAt X.mg P
 ne:mainGlobals≠P
 sc:LamSc scope x y
 names:scope.names=[(x,.local),(y,.free)]kind:X.env.kindOf y=some .cell
 pos:X.N[i]?=!y
 dfl:defaultsOf params X.env=([],[])bind:∀q cl pm c' ctv u,bindArgs (CP q params body scope cl pm c' ctv) #[[u],[]]=pure [(x,u)]body:∀A q L f c' c s H,PP (QZ X A [x,y] (PySem.W.envX q scope L f c' [(y,c)]) s H) body fb
def CT(g:scope.names=[(x,.local),(y,.free)])(j:env.cells.lookup y=!c):closureFor scope env=pure [(y,c)]:=by
 unfold closureFor;rw[g];have e:cellOf env y=pure c:=by unfold cellOf;rw[j]
 grind
noncomputable def  mH(fb:TY)(dy:D):Uh->T7
|[]=>![]|d::ds=>(fb [!d,!dy]).bind λk=>(mH fb dy ds).bind λks=>!k::ks
def qm:∀{ds ks:Uh},mH fb dy ds=!ks->ks.length=ds.length
|[],_,h=>by cases h;rfl|d::ds,_,h=>by let[k,_,h]:=UK h;let[ks,h2,h]:=UK h;cases h;rw[length_cons,length_cons,qm h2]
def uu:∀{ds ks:Uh},mH fb dy ds=!ks->∀{j:Nat}{d:D},ds[j]?=!d->fb [!d,!dy]=!ks.getD j .non
|[],_,_,_,_,e=>by cases e|d::ds,_,h,j,d',e=>by let[k,h1,h]:=UK h;let[ks,h2,h]:=UK h;cases h;match j,e with
|0,e=>cases e;exact h1|j+1,e=>exact uu h2 e
section
variable{X:Cx}{σ:St}{H:Hp}
def CU(L:LamAt X x y i g body scope lpos P c0 fb)(hA:A.frames=!X.stack)(hh:A.handled=none)(l:A.depth<recursionLimit)(hf:H f=!.frz (da q g body scope [(y,c)] pm c' ctv) (.own f))(hcc:∃J r t,H c'=!.frz J (.own P)/\J.data=.fields r/\r[1]?=!.str q t)(hc:X.env.cells.lookup y=!c)(il:IsL X.K H ds xs)(hσ:σ[i]?=!!vy)(iy:Is X.K H dy vy)(hk:mH fb dy ds=!U):xN X σ H A (.ref f) xs U:=by
 intro j x' u hx rx O pins s H' I hO C;let[J,r,t,h1,h2,h3]:=hcc;have gf:=(I.hok f _ (a8 (C _ _ hf)).2).1;let[m,_,hl]:=I.loc;let[w,T,lk]:=hl i y vy L.pos hσ (.inr (.inl L.kind));have p:s.heap.IsCell c !w:=by
  rcases lk with⟨z,_⟩|⟨_,c2,z,q⟩;.rw[L.kind]at z;cases z
  .rw[hc]at z;cases z;exact q
 obtain⟨d,hd,ix⟩:∃d,ds[j]?=!d/\Is X.K H d x':=by
  have hj:j<ds.length:=by rw[il.len];exact(Us.mp hx).1
  let[z,e,q]:=gw il.paired (getElem?_eq_getElem hj);rw[hx]at e;cases e;exact#[_,getElem?_eq_getElem hj,q]
 refine FO I hA hh l L.sc gf #[c',J,r,t,rfl,(I.hok c' _ (a8 (C _ _ h1)).2).1,h2,h3] (L.bind _ _ _ _ _ u) hc p T rx (L.body A q _ f _ c s H' O [!d,!dy]) #[#[hO,rfl,λn e o=>?_],_,uu hk hd,λv H2 s2 iv=>#[s2,iv]];match n,o with
|0,o=>cases o;exact#[_,rfl,Is.mono C _ _ ix]|1,o=>cases o;exact#[_,rfl,Is.mono C _ _ iy]|n+2,o=>cases o
def  CV(fb:TY)(i:Nat)(Y:Vv):Uh->T7:=uR λd=>(j3 d).bind λds=>(aO Y i).bind λdy=>(mH fb dy ds).bind λks=>if ds.length<64/\c6 ks then !(plcK ks).map λj=>ds.getD j .non else none
def CW(hr:Room k X.A)(hg:Gl X "sorted")(hm:X.mg "sorted"=none)(ha:PX X [m] fm)(hs:starEach [m] X.env=[(false,eval m X.env)])(L:LamAt X x y i o body scope J P c0 fb):PF X (.Call (.Name "sorted" p) [m] [#[some "key",.Lambda o body scope J,kp]] pos) λY=>(fm Y).bind (CV fb i Y):=by intro O Y pins s σ H Q I#[E,ds,q,k'];let[as,e1,q]:=UK q;let[d,rfl,q2]:=bA q;let[es,q3,q4]:=UK q2;let[dy,q5,q6]:=UK q4;let[ks,q7,q8]:=UK q6;let[[h64,hsh],q9]:=aj q8;subst q9;refine wpAny_Call_Name_kw (cz I hg hm vF (callWith_kw (bG (ha O Y pos pins s σ H (λU H1=>Same H H1/\IsL X.K _ [d] U) I #[E,[d],e1,λU H1 s1 il=>#[s1,il]]) λus s1 h1=>?_) (by rw[hs];rfl) (by rw[hs];rfl)) (!2) !2);let[U,H1,I1,r1,r,il]:=h1;let[v,rfl,h]:=uS il;let[l,ys,rfl,t,T]:=b8 q3 h;let[u,rfl,ru]:=fw r1;cases ru;let[vy,hσ,iy]:=(E.grow r).sh i dy (pW q5);let[c,hc]:=I.ok.has y (.inl L.kind);refine kws_cons (PySem.W.kla_eval L.dfl (CQ I1 (I1.tab P _ L.tab) L.code (λh K=>PySem.W.codeHd_of_K K L.hd) L.blt L.ne (CT L.names hc) λf c' ctv s2 H2 I2 g gf hf hcc=>kws_nil ?_));have l3:=IsL.mono g _ _ T.full;have hlen:=qm q7;have hl2:=T.len;refine wt I2 (by have:=hr.un;lia) (SqL.up g (msk_le.seq t)) (CU (A:=X.A.in1.in1) L I.ok.frames hr.hd (by have:=hr.dp;show X.A.depth<_;lia) hf hcc hc l3 hσ (Is.mono g _ _ (Is.mono msk_le _ _ iy)) q7) hsh (by lia) (by lia) λa s3 H3 I3 hn C=>#[.ref a,_,I3,rfl,k' a _ H3 ((r.trans g).trans C) hn (IsL.of (dP (IsL.mono (g.trans C).msk _ _ T).paired .non .non λj hj=>?_))];have:=UG.mp ((jm ks).mem_iff.mp hj);lia
end
def  CY(K:Frag)(x:Str)(st:Stmt)(P:Addr):Prop:=∃(f c0:Addr)(oc:Value)(od an:Option Addr)(osl:Array Ua)(kV doc pm ct:Value),nsIn K mainGlobals x=!!.ref f/\K.lookup f=!#[oc,od,.func (PySem.W.fnOf x x (b7 st) (aL st) (ao st) .none kV doc pm an (.ref c0) ct),osl]/\PySem.W.codeIn K (.ref c0) x=true/\PySem.W.keepIn K (.ref f)=true/\PySem.W.codeHdIn K c0 P=true
def  CZ(K:Frag)(P:Addr):Prop:=∃(bm:Addr)(o:Obj),nsIn K mainGlobals "__builtins__"=!!.ref bm/\bm≠builtinsNs/\bm≠mainGlobals/\bm≠P/\K.lookup bm=!o/\o.cls=.type "module"/\o.dict=!builtinsNs/\o.data=.plain
def  zC(fm:TX)(fb:TY)(i:Nat):TX:=λY=>(fm Y).bind (CV fb i Y)
def  FT(fm:TX)(fb:TY)(i:Nat):TZ:=ab (bW (aI (gy λY=>fL (zC fm fb i Y)) (kz (zC fm fb i)))) λY=>!.nx Y
def J5{P:Program}{w:World}{K:Frag}{mg:Str->Ua}{base:Heap}(g:GbOk P w K mg base G)(KX:K.In h)(hN:h.Ns mainGlobals mg){st}(k:Nat)(S:FnScope N ps (ao st))(b:eV x st ps)(t:CY K x st U)(hb:CZ K U)(hst:aL st=[.Return (!.Call (.Name "sorted" p) [.Name m mp] [#[some "key",.Lambda l body scope C,kp]] pos) rpos])(tab:lamTabs.lookup U=!(C,x++".<locals>."++"<lambda>"))(ne:mainGlobals≠U)(sc:LamSc scope z y)(I:scope.names=[(z,.local),(y,.free)])(hy:N[i]?=!y)(hm:N[j]?=!m)(hyk:(ao st).names.lookup y=some .cell)(hmk:(ao st).names.lookup m=some .local)(hmd:(m==("__debug__":Str))=false)(hmc:(m==("__classdict__":Str))=false)(dfl:∀env,defaultsOf l env=([],[]))(bind:∀q cl pm c' ctv u,bindArgs (CP q l body scope cl pm c' ctv) #[[u],[]]=pure [(z,u)])(J:∀X:Cx,X.N=[z,y]->X.env.scope=scope->PP X body fb)(hgl:mN (rK N st k G) "sorted"=true)(hno:G.no "sorted"=true):Df P w K mg base x (k+1) (aQ ps.length N.length (FT (ae (va j) λ_=>![]) fb i)):=by
 let[f,c0,oc,od,an,osl,kV,T,pm,ct,h1,h2,h3,h4,h5]:=t;refine#[f,_,ps,PySem.W.mg_of KX hN h1,h4,(nn h2 h3 h4).binds λkV T pm an cdv ct us hl=>b x kV T pm an cdv ct us hl,GR h2 h3 S (λvs H Q E#[O,ds,d,_,il,e,_]=>by rw[<-il.len];exact(jf e).1) λA r s H vs Q E hr#[O,ds,d,hd,il,e,kk]=>?_];have o:=(uh g S _ A r s H E hr).s;have pr:DU (oT qP P w K mg base N x (ao st) f (.ref c0) A r s H E).nox (aL st) (FT (ae (va j) λ_=>![]) fb i):=by
  rw[hst];let[ok,gl]:=aU o hgl;have L:LamAt (oT qP P w K mg base N x (ao st) f (.ref c0) A r s H E).nox z y i l body scope C U c0 fb:=#[tab,rfl,h5,λh' K'=>?_,ne,sc,I,hyk,hy,dfl _,bind,λA' q L' f' c' c s' H'=>J _ rfl rfl];.have F:=(CW (p:=p) (pos:=pos) (kp:=kp) o.room gl (o.g.no _ hno) (px_cons (e:=.Name m mp) (ny j hm (.inl hmk) hmd hmc) vg) rfl L).u rfl;exact xa (qY (w9 (AW (AU F)) (AX F))) AY
  .let[bm,ob,b1,b2,b3,b4,b5,b6]:=hb;exact#[bm,ob,PySem.W.mg_of KX hN b1,b2,b3,b4,K' _ _ b5,b6]
 refine#[_,(pr #[H,O] O _).nox,nK hd il,?_];let[o',e1,e2]:=UK (jf e).2;refine#[o',e1,?_];cases o' with
|rt d'=>cases e2;exact kk|nx Y=>cases e2;exactλσ' H' O' s' E'=>kk .non H' #[O',[],E'.same,E'.sub,E'.lis,List.nodup_nil,λ_ h=>(nomatch h),rfl,rfl]|bk Y=>cases e2|ct Y=>cases e2
noncomputable abbrev Tq(l:Nat):Arguments:={posonlyargs:=[],args:=[{arg:="letter",annotation:=none,pos:=#[l,38,l,44]}],vararg:=none,kwonlyargs:=[],kw_defaults:=[],kwarg:=none,defaults:=[]}
noncomputable abbrev Tr(l:Nat):Expr:=.Tuple [.Subscript (.Subscript (.Name "letters" #[l,47,l,54]) (.Name "letter" #[l,55,l,61]) #[l,47,l,62]) (.Constant (.int 1) 0 #[l,63,l,64]) #[l,47,l,65],.Name "letter" #[l,67,l,73]] 0 #[l,46,l,74]
noncomputable abbrev R3:Scope:={kind:=.function,names:=[(Str.ofString "letter",.local),(Str.ofString "letters",.free)],isGenerator:=false,isCoroutine:=false,more:=[]}
abbrev Ts:TY:=dA (ae (aa ax (aa ax (va 1) (va 0)) (cI 1)) (ae (va 0) aw))
def  Q0(l:Nat):List Stmt:=[.Return (!.Call (.Name "sorted" #[l,11,l,17]) [.Name "members" #[l,18,l,25]] [#[some "key",.Lambda (Tq l) (Tr l) R3 #[l,31,l,74],#[l,27,l,74]]] #[l,11,l,75]) #[l,4,l,75]]
def Q1:LamSc R3 "letter" "letters"where
 xl:=rfl;yf:=rfl;only:=λz h=>by
  have h':(if z==Str.ofString "letter"then !NameKind.local else if z==Str.ofString "letters"then some .free else none)=some .free:=by rw[<-h,List.lookup_cons,List.lookup_cons];cases z==Str.ofString "letter"<;>cases z==Str.ofString "letters"<;>rfl
  split at h';.cases h'
  .split at h';.rename_i q;exact eq_of_beq q
   .cases h'
 nocell:=λz g=>by
  rcases mem_cons.mp g with rfl|g;.decide
  .rw[mem_singleton.mp g];decide
 kind:=rfl;co:=rfl;gen:=rfl;ne:=by decide
def FU{P:Program}{w:World}{K:Frag}{mg:Str->Ua}{base:Heap}(g:GbOk P w K mg base G)(U:K.In h)(T:h.Ns mainGlobals mg){st}(k l:Nat)(S:FnScope ["letters","members"] ["letters","members"] (ao st))(b:eV "as_they_come" st ["letters","members"])(t:CY K "as_they_come" st I)(J:CZ K I)(o:aL st=Q0 l)(tab:lamTabs.lookup I=!((#[l,31,l,74]:Pos),("as_they_come.<locals>.<lambda>":Str)))(ne:mainGlobals≠I)(j:(ao st).names.lookup (Str.ofString "letters")=!NameKind.cell)(r:(ao st).names.lookup (Str.ofString "members")=!NameKind.local)(C:mN (rK ["letters","members"] st k G) "sorted"=true)(p:G.no "sorted"=true):Df P w K mg base "as_they_come" (k+1) (aQ 2 2 (FT (ae (va 1) λ_=>![]) Ts 0)):=J5 g U T k S b t J o tab ne Q1 rfl rfl rfl j r (!2) (!2) (λ_=>rfl) (λ_ _ _ _ _ _=>rfl) (λX h1 h2=>Ax (px_cons (pp_ix (pp_ix (ny 1 (by rw[h1];rfl) (by rw[h2];exact .inr (.inr rfl))) (ny 0 (by rw[h1];rfl) (by rw[h2];exact .inl rfl))) pp_int) (px_cons (ny 0 (by rw[h1];rfl) (by rw[h2];exact .inl rfl)) vg))) C p
def cons_in{K:Frag}(l:K.lookup g=none)(X:Frag.In ((g,o)::K) h):K.In h/\h.get? g=!o:=by refine#[λb j e=>X b j ?_,X g o ?_];all_goals grind
def tabs_of{K}(p:lamTabs=[(g,z)])(l:K.lookup g=none)(X:K.In h)(j:h.get? g=some {cls:=.none,data:=.fields #[ ]})(o:PySem.W.codeHdIn K c0 g=true):qO K h:=λb y e=>by rw[p,List.lookup_cons]at e;cases q:b==g with
|true=>rw[eq_of_beq q];exact#[j,l,((PySem.W.codeHd_of_K X o).tab j).isCodeTable]|false=>rw[q]at e;cases e
def cn_3str{K}(X:K.In h)(I:h.Ns mainGlobals mg)(t:∃(a:Addr)(C:Option Addr)(n:Nat)(r:Array Ua)(o:Tok)(j:Tok)(g:Tok),nsIn K mainGlobals x=!!33/\K.lookup a=!#[.type "tuple",C,.seq #[ .str y o,.str z j,.str p g] n,r]):Cn K mg x (.tup [.str y,.str z,.str p]):=by
 let[a,C,n,r,o,j,g,e,l]:=t;refine#[.ref a,_,PySem.W.mg_of X I e,rfl,λH=>#[a,[.str y,.str z,.str p],rfl,.inr #[_,_,n,l,rfl,rfl,?_,.cons #[o,rfl] (.cons #[j,rfl] (.cons #[g,rfl] .nil))],#[_,_,rfl,rfl,#[_,_,rfl,rfl,#[_,_,rfl,rfl,rfl]]]]];.show 3<=sizeLine;decide
def  uv(eH:xx)(jt:xx):TZ:=ab (cG (kc (bI (jv (bJ fg (ae (va 1) (ae (cT "tuple") aw))))) (ag (aa (aP true) (bJ eZ (ae (va 1) aw)) (cI 2)))) (ab (bW (aY (cB false) ac ac)) aB) aB) (ab (bW (aY (mK (bu jt (ae (aa ax (va 1) (cI 0)) aw)) (bu eH (ae (va 0) (ae (aa ax (va 1) (cI 1)) aw)))) ac ac)) aB)
def  kU(fF:xx):TZ:=ab (cG (kc (bI (jv (bJ fg (ae (va 1) !25)))) (ag (aa mJ (bJ eZ (ae (va 1) aw)) (cD (.int 24))))) (ab noO' aB) aB) (ab (cG (bI (jv (bJ tm (ae (bb (au [2] (jX ac (va 1)) (bc 2) tQ (bu fF (ae (va 0) (ae (va 2) aw))))) aw)))) (ab noO' aB) aB) aB)
def  qo:TZ:=ab (bW (aY (aa aG (va 1) (aa aM (bJ eZ (ae (va 0) aw)) (aa ax (aa ax (va 0) (va 1)) (cI 1)))) (fN (va 1) (aa aM (bJ eZ (ae (va 0) aw)) (aa ax (aa ax (va 0) (va 1)) (cI 1)))) ac)) aB
structure Lt where
 s:Int
 t:Nat
 w:Ub
def Nm(h:(xs Y).bind xg=!ds):jX (K5 xs) R Y=!ds:=by unfold jX aI K5;rw[h]
def qp{g:Type}{f}(xs:List g):mC (xs.map f)=(xs.zipIdx).map λp=>.tup [.int (p.2:Nat),f p.1]:=by unfold mC;rw[List.zipIdx_map,List.map_map];rfl
noncomputable def  rowD(r:Ub):D:=.lst !8
def rQ{R L Sp}(h:R (vw Y)=!d)(f:lfD d=false)(j:L (vw Y)=!ds)(l:dS ds=false)(g:Sp (vw Y)=!e):aY R L Sp Y=!((.deep,e),Y):=by unfold aY aI gy aZ aI nJ fL;grind
def qq:∀{es:Uh},dS es=true->extC .deep es=.deep
|[],_=>rfl|d::es,h=>by rw[Cy,and_eq_true]at h;show extC (newCat .deep (extS d)) es=.deep;rw[show newCat .deep (extS d)=.deep by unfold extS newCat;rw[h.1];rfl];exact qq h.2
def qr(h0:ownL Y i=!(.deep,ds))(j:R (bV Y)=!.lst es)(lf:dS es=true)(g:ds.length+es.length<big):nN i R Y=!.nx (Y.set i !(.deep,.lst (ds++es))):=by
 have e:yW i R Y=!.nx (Y.set i !(.deep,.lst (ds++es))):=by unfold yW;rw[h0];simp only[Option.bind_some,j];show(if ds.length+es.length<big then _ else _)=_;rw[if_pos g,qq lf]
 unfold nN aI;rw[e]
def FV{i:Nat}{g}{Y:Ev}{s:Sl}(h:g Y=!(s,dC Y))(j:ownL (dC Y) i=none):cX i g Y=none:=by unfold cX;cases ownL Y i with
|none=>rfl|some w=>simp only[Option.bind_some,h,j,Option.bind_none]
section
variable{G F:TZ}{Y Y':Ev}{out:Option Out}
def q_set(h:g Y=!(s,Y'))(k:G (Y'.set i !s)=out):ab (av i g) G Y=out:=(ai (bj h)).trans k
def rR(h:f (vw Y)=!d)(k:G Y=out):ab (mB f) G Y=out:=(ai (λh=>by unfold mB;rw[h];rfl h)).trans k
def q_if0(h:c (vw Y)=!false)(k:G Y=out):ab (cG c F aB) G Y=out:=(ai ((dQ h).trans rfl)).trans k
noncomputable def  q_st(h:F Y=!.nx Y')(k:G Y'=out):=(ai h).trans k
def q_ret(h:g Y=!(s,Y')):ab (bW g) G Y=!.rt s:=seqF_rt (b9 h)
def Nn(I:Nat->Ev->Prop)(j:J (bV Y)=!ds)(h0:I 0 Y)(g:∀(i:Nat)(d:D)(Y:Ev),ds[i]?=!d->I i Y->∃Y',(tg d Y).bind F=!.nx Y'/\I (i+1) Y')(k:∀Y',I ds.length Y'->G Y'=out):ab (dF J tg F) G Y=out:=by let[Y',e,i]:=jk I j h0 g;exact(ai e).trans (k _ i)
def q_forB{j:Type}{xs:List j}{mk}(I:Nat->Ev->Prop)(o:J (bV Y)=!xs.map mk)(h0:I 0 Y)(l:∀(i:Nat)(x:j)(Y:Ev),xs[i]?=!x->I i Y->∃Y',(tg (mk x) Y).bind F=!.nx Y'/\I (i+1) Y')(k:∀Y',I xs.length Y'->G Y'=out):ab (dF J tg F) G Y=out:=Nn I o h0 (λi d Y hd hi=>by rw[getElem?_map]at hd;cases g:xs[i]?with
|none=>rw[g]at hd;cases hd|some x=>rw[g]at hd;cases hd;exact l i x Y g hi) (by rw[length_map];exact k)
def q_rng{v:Nat->Int}(I:Nat->Ev->Prop)(j:J (bV Y)=!(!22).map λi=>D.int (v i))(h0:I 0 Y)(g:∀(i:Nat)(Y:Ev),i<n->I i Y->∃Y',F (Y.set s !(.sh,.int (v i)))=!.nx Y'/\I (i+1) Y')(k:∀Y',I n Y'->G Y'=out):ab (dF J (br s) F) G Y=out:=by let[Y',e,i]:=kT I j h0 g;exact(ai e).trans (k _ i)
def C0{i:Nat}{J:TX}{tg:D->Ev->Option Ev}{x:Out}(h:J (bV Y)=none)(e:cE J tg F (frzS [i] Y)=!x):zv i J tg F Y=!x:=by unfold zv aI;rw[show cE J tg F Y=none by unfold cE;rw[h];rfl];simp only[e]
def J6{β:Type}{j:Nat}{J:TX}{tg:D->Ev->Option Ev}{xs:List β}{mk:β->D}(I:Nat->Ev->Prop)(p:J (bV Y)=none)(r:J (bV (frzS [j] Y))=!xs.map mk)(h0:I 0 (frzS [j] Y))(o:∀(i:Nat)(x:β)(Y:Ev),xs[i]?=!x->I i Y->∃Y',(tg (mk x) Y).bind F=!.nx Y'/\I (i+1) Y')(k:∀Y',I xs.length Y'->G Y'=out):ab (zv j J tg F) G Y=out:=by
 have l:∀(i:Nat)(d:D)(Y:Ev),(xs.map mk)[i]?=!d->I i Y->∃Y',(tg d Y).bind F=!.nx Y'/\I (i+1) Y':=λi d Y hd hi=>by rw[getElem?_map]at hd;cases g:xs[i]?with
|none=>rw[g]at hd;cases hd|some x=>rw[g]at hd;cases hd;exact o i x Y g hi
 let[Y',e,i]:=gi (step:=dY tg F) (xs.map mk) I _ h0 l;rw[length_map]at i;have t:cE J tg F (frzS [j] Y)=!.nx Y':=by unfold cE;rw[r];exact e
 exact(ai (C0 p t)).trans (k _ i)
end
def j7:∀r:Ub,aX (!8)=!r.map λ(k:Nat)=>(k:Int)
|[]=>rfl|k::r=>by show(aX !8).bind (λxs=>!(k:Int)::xs)=_;rw[j7 r];rfl
def FW{r:Ub}(h:r.Perm !22):srtZ (r.map λ(k:Nat)=>(k:Int))=(!22).map λ(k:Nat)=>(k:Int):=by refine(Bp (h.symm.map _) ?_).symm;rw[List.pairwise_map];exact List.pairwise_lt_range.imp λh=>by lia
def C3(h:r.Perm !22)(j:n<=24):kK [rowD r]=!(!22).map λ(k:Nat)=>D.int (k:Int):=by
 show((aX !8).bind λg=>if g.length<64 then !(srtZ g).map D.int else none)=_;rw[j7];simp only[Option.bind_some];have l:r.length=n:=by rw[h.length_eq,length_range]
 rw[if_pos (by rw[length_map];lia),FW h,List.map_map];rfl
def ox:∀r:Ub,jF (!8)=true/\bF (!8)=0
|[]=>#[rfl,rfl]|k::r=>#[by show(true&&jF _)=true;rw[(ox r).1];rfl,by show max 0 (bF _)=0;rw[(ox r).2];rfl]
def rS(neg:Bool)(h2:lG d=true)(j:wW d<=50)(g:IH d d=true)(h1:bB d=false):aP neg d d=!.bl (not neg):=by unfold aP mz;rw[show(bB d&&bB d&&zZ (mL d) (mL d))=false by rw[h1];rfl,if_neg !2,h2,g,decide_eq_true j,if_pos (by rfl),tw _ h2];cases neg<;>rfl
def J7(neg:Bool)(r:Ub):aP neg (rowD r) (rowD r)=!.bl (not neg):=rS neg (ox r).1 (by show bF _+1<=50;rw[(ox r).2];decide) rfl rfl
def liG_l(h:L Y=!ds):sA xs L Y=!.lst ds:=by
 unfold sA aI bb;have:(xs Y).bind ke=none:=by cases xs Y<;>rfl
 grind
def No(g:n<=24)(h:ys Y=![.int (n:Int)]):aI (JR ys) j Y=!(!22).map λ(k:Nat)=>D.int (k:Int):=by
 have:JR ys Y=!(!22).map λ(k:Nat)=>D.int (k:Int):=by
  unfold JR;rw[h];exactλg=>by show(if vh (n:Int)/\(n:Int)<1000000 then !gx 0 (n:Int).toNat else none)=_;rw[if_pos #[mV (by lia),by lia],Int.toNat_natCast,CB] g
 unfold aI;rw[this]
def  Wide(ps:T3):Prop:=∀p∈ps,∀k∈p,1<=k.2
def xO(o:T6)(Y:Ev):bV (o::Y)=Me o::bV Y:=rfl
@[simp]def Q3(a b c d:D):bT (![a,b,c,d])=![a,b,c,d]:=c9 (show 4<big by decide)@[simp]def OQ(a b c d e f g h i j:D):bT (![a,b,c,d,e,f,g,h,i,j])=![a,b,c,d,e,f,g,h,i,j]:=c9 (show 10<big by decide)section
variable{α:Type}{G F:TZ}{Y Y':Ev}{out:α->Option Out}{P:α->Prop}
def pw(h:F Y=!.nx Y')(k:∃a,G Y'=out a/\P a):∃a,ab F G Y=out a/\P a:=k.imp λ_ q=>#[(ai h).trans q.1,q.2]
def x_set(h:g Y=!(s,Y'))(k:∃a,G (Y'.set i !s)=out a/\P a):∃a,ab (av i g) G Y=out a/\P a:=pw (bj h) k
def HA{c}(h:c (vw Y)=!false)(k:∃a,G Y=out a/\P a):∃a,ab (cG c F aB) G Y=out a/\P a:=pw ((dQ h).trans rfl) k
def kW{b:Bool}(h:c (vw Y)=!b)(k1:∃Y',(if b then F Y else g Y)=!.nx Y'/\∃a,G Y'=out a/\P a):∃a,ab (cG c F g) G Y=out a/\P a:=by let[Y',e,k]:=k1;cases b with
|true=>exact pw ((ifS_t h).trans e) k|false=>exact pw ((dQ h).trans e) k
def qu{v:Nat->Int}(I:Nat->Ev->Prop)(j:J (bV Y)=!(!22).map λi=>D.int (v i))(h0:I 0 Y)(g:∀(i:Nat)(Y:Ev),i<n->I i Y->∃Y',F (Y.set s !(.sh,.int (v i)))=!.nx Y'/\I (i+1) Y')(k:∀Y',I n Y'->∃a,G Y'=out a/\P a):∃a,ab (dF J (br s) F) G Y=out a/\P a:=by let[Y',e,i]:=kT I j h0 g;exact pw e (k _ i)
def x_for{j:Type}{xs:List j}{mk}(I:Nat->Ev->Prop)(o:J (bV Y)=!xs.map mk)(h0:I 0 Y)(l:∀(i:Nat)(x:j)(Y:Ev),xs[i]?=!x->I i Y->∃Y',(tg (mk x) Y).bind F=!.nx Y'/\I (i+1) Y')(k:∀Y',I xs.length Y'->∃a,G Y'=out a/\P a):∃a,ab (dF J tg F) G Y=out a/\P a:=by
 let[Y',e,i]:=jk I o h0 λi d Y hd hi=>by rw[getElem?_map]at hd;cases g:xs[i]?with
|none=>rw[g]at hd;cases hd|some x=>rw[g]at hd;cases hd;exact l i x Y g hi 
 rw[length_map]at i;exact pw e (k _ i)
def x_end{P:Ev->Prop}(h:P Y):∃a,aB Y=!.nx a/\P a:=#[Y,rfl,h]
def C4{P:Ev->Prop}(h:g Y=!.nx Y')(p:P Y'):∃a,ab g aB Y=!.nx a/\P a:=pw h (x_end p)
end
noncomputable abbrev dp(d:D):T6:=!(.deep,d)
noncomputable abbrev sn(d:D):T6:=!(.sh,d)
noncomputable abbrev iN(n:Nat):D:=.int (n:Int)
abbrev Fn:=List D->Option Sl
abbrev Fv:=Vv->Option D
abbrev Fx:=Vv->Option (List D)
abbrev bo(R:Fv):=aY R ac ac
abbrev j8(f:Fn)(xs:Fx):=aY (bu f xs) ac (FC f xs)
abbrev sC:=aY (bb (cH aw)) (cH aw) (uf aw)
abbrev jR(xs:Fx):=jX (Qt xs) (bJ ke xs)
abbrev gj(g:T2):=ab (bW g) aB
abbrev x1(a:Fv):Fx:=ae a aw
abbrev x2(a b:Fv):Fx:=ae a (x1 b)
abbrev x3(a b c:Fv):Fx:=ae a (x2 b c)
abbrev x4(a b c d:Fv):Fx:=ae a (x3 b c d)
abbrev x5(a b c d e:Fv):Fx:=ae a (x4 b c d e)
abbrev x6(a b c d e f:Fv):Fx:=ae a (x5 b c d e f)
abbrev cb(a:Fv):Fv:=bJ eZ (x1 a)
def tr{α:Type}{P:α->Prop}{f g}(h:P g)(e:f=g:=by kernel_rfl):P f:=e▸h
def eX:x1 a Y=ae a aw Y:=rfl
def pA:x2 a b Y=ae a (x1 b) Y:=rfl
def J8:x3 a b c Y=ae a (x2 b c) Y:=rfl
noncomputable def  Tt:=And.intro @vw_o (And.intro @vw_nil (And.intro @vw_some (And.intro @vw_none (And.intro @map_some.{0,0} (And.intro @Option.map_none.{0,0} (And.intro @set_cons_succ.{0} (And.intro @set_cons_zero.{0} (And.intro @consX_a (And.intro @nilX_a (And.intro @va_a (And.intro @shAt_s (And.intro @shAt_0 (And.intro @shAt_1 (And.intro @Option.bind_some.{0,0} (And.intro @bin2_a (And.intro @biF_a (And.intro @clF_a (And.intro @fCl_a (And.intro @cI_a (And.intro @cS_a (And.intro @testB_a (And.intro @notQ_a (And.intro @trF_a (And.intro @andQ_a (And.intro @valO_some (And.intro @asB_bl (And.intro @truD_bl (And.intro @addD_ii (And.intro @subD_ii (And.intro @lsF_a (And.intro @dpF_a (And.intro @capL_1 (And.intro @capL_2 (And.intro @stepF_a (And.intro @wipe_cons (And.intro @wipe_nil (And.intro @gNm_a (And.intro @tQ_a @if_true.{1}))))))))))))))))))))))))))))))))))))))
def  sB:=Tt
end L2
namespace K16
open PySem PySem.Spec PyProof.Rows L2
abbrev oS:=List (Int×Int)
noncomputable def  aR(ls:oS)(a:Int):Int:=(ls.getD a.toNat (0,0)).2
def qv{α:Type}{p q r}(hd:∀a,p a=true->q a=false)(hr:∀a,r a=(p a||q a)):∀l:List α,(l.filter p++l.filter q).Perm (l.filter r)
|[]=>.refl _|a::l=>by have ih:=qv hd hr l;have e:=hr a;cases hp:p a with
|true=>have hq:=hd a hp;rw[hp,Bool.true_or]at e;rw[List.filter_cons_of_pos hp,List.filter_cons_of_neg (by rw[hq];decide),List.filter_cons_of_pos e];exact ih.cons a|false=>rw[hp,Bool.false_or]at e;rw[List.filter_cons_of_neg (by rw[hp];decide)];cases hq:q a with
|true=>rw[List.filter_cons_of_pos hq,List.filter_cons_of_pos (by rw[e];exact hq)];exact List.perm_middle.trans (ih.cons a)|false=>rw[List.filter_cons_of_neg (by rw[hq];decide),List.filter_cons_of_neg (by rw[e,hq];decide)];exact ih
noncomputable def  db(f:Int->Int)(l:Ud)(n:Nat):Ud:=(!22).flatMap λ(t:Nat)=>l.filter λa=>decide (f a=(t:Int))
def cM(f:Int->Int)(l:Ud)(n:Nat):db f l (n+1)=db f l n++l.filter λa=>decide (f a=(n:Int)):=by unfold db;rw[List.range_succ,List.flatMap_append];simp
def iO(h0:∀a∈l,0<=f a):∀n:Nat,(db f l n).Perm (l.filter λa=>decide (f a<(n:Int)))
|0=>by
  have e:(l.filter λa=>decide (f a<((0:Nat):Int)))=[]:=List.filter_eq_nil_iff.mpr λa ha=>by have:=h0 a ha;simp;omega
  rw[e];exact .refl _|n+1=>by
  rw[cM];refine((iO h0 n).append_right _).trans (qv (λa h=>?_) (λa=>?_) l);.have:=Uv h;exact decide_eq_false !6 
  .rw[<-Bool.decide_or];exact decide_eq_decide.mpr !6
def  zD(f:Int->Int)(a b:Int):Prop:=HT.lexLt [f b,b] [f a,a]=false
def FX(h:f a<f b):zD f a b:=by unfold zD;rw[HT.lexLt_cons,if_neg (by lia)];exact decide_eq_false (by lia)
def FY(h:f a=f b)(h2:a<=b):zD f a b:=by
 unfold zD;rw[HT.lexLt_cons,if_pos h.symm,HT.lexLt_cons];split;.rfl
 grind
def jO(hs:l.Pairwise (·<=·)):∀n:Nat,(db f l n).Pairwise (zD f)
|0=>.nil|n+1=>by
  rw[cM];refine List.pairwise_append.mpr #[jO hs n,?_,λa ha b hb=>?_];.refine(hs.sublist List.filter_sublist).imp_of_mem λ{a b}ha hb hab=>?_;have ea:=Uv (List.mem_filter.mp ha).2;have eb:=Uv (List.mem_filter.mp hb).2;exact FY (ea.trans eb.symm) hab
  .let[t,ht,ha]:=List.mem_flatMap.mp ha;have ea:=Uv (List.mem_filter.mp ha).2;have eb:=Uv (List.mem_filter.mp hb).2;have:=UG.mp ht;exact FX (by rw[ea,eb];omega)
def gk(g:Ud):(srtZ g).Perm g:=List.mergeSort_perm _ _
def uw(g:Ud):(srtZ g).Pairwise (·<=·):=by
 have h:=List.pairwise_mergeSort (le:=λa b:Int=>decide (a<=b)) (λa b c h1 h2=>decide_eq_true (Int.le_trans (Uv h1) (Uv h2))) (λa b=>by
  rw[Bool.or_eq_true];rcases Int.le_total a b with h|h;.exact .inl (decide_eq_true h)
  .exact .inr (decide_eq_true h)) g;grind[srtZ]
def  iP(ls:oS)(ms:Ud):Ud:=db (aR ls) (srtZ ms) 10
def  cF(ls:oS):Prop:=∀p∈ls,0<=p.2/\p.2<10
def lP(h:cF ls)(a:Int):0<=aR ls a/\aR ls a<10:=by unfold aR;rw[List.getD_eq_getElem?_getD];cases e:ls[a.toNat]?with
|none=>exact#[Int.le_refl _,by decide]|some p=>exact h p (UH e)
def lQ(h:cF ls)(g:Ud):(iP ls g).Perm g:=by refine(iO (λa _=>(lP h a).1) 10).trans ?_;have e:((srtZ g).filter λa=>decide (aR ls a<((10:Nat):Int)))=srtZ g:=List.filter_eq_self.mpr λa _=>decide_eq_true (lP h a).2;rw[e];exact gk g
def FZ(h:cF ls)(h1:out.Perm g)(h2:out.Pairwise (zD (aR ls))):out=iP ls g:=List.Perm.eq_of_pairwise (λa b _ _ x y=>λh1 h2=>by have:=rE _ _ h2 h1;grind x y) h2 (jO (uw g) 10) (h1.trans (lQ h g).symm)
def  keyL(ls:oS)(a:Int):D:=.tup [.int (aR ls a),.int a]
def xP(ls:oS)(a:Int):flt (keyL ls a)=[aR ls a,a]:=rfl
def getD_map'{α g:Type}(f:α->g)(l:List α)(h:i<l.length)(x:α)(y:g):(l.map f).getD i y=f (l.getD i x):=by grind
def C5(h:cF ls)(g:Ud):((plcK (g.map (keyL ls))).map λj=>(g.map D.int).getD j .non)=(iP ls g).map D.int:=by
 have p:=jm (g.map (keyL ls));rw[length_map]at p;have l:∀j∈plcK (g.map (keyL ls)),j<g.length:=λj r=>UG.mp (p.mem_iff.mp r);have J:((plcK (g.map (keyL ls))).map λj=>(g.map D.int).getD j .non)=((plcK (g.map (keyL ls))).map λj=>g.getD j 0).map D.int:=by rw[List.map_map];exact List.map_congr_left λj r=>getD_map' D.int g (l j r) 0 .non
 rw[J];congr 1;refine FZ h ?_ ?_;.have:=p.map λj=>g.getD j 0;rw[bX]at this;exact this
 .refine List.pairwise_map.mpr ((ut (g.map (keyL ls))).imp_of_mem λ{a b}I C o=>?_);rw[getD_map' (keyL ls) g (l a I) 0 .non,getD_map' (keyL ls) g (l b C) 0 .non,xP,xP]at o;exact o
def C6{α:Type}(k:α->Ud)(L:List α):(L.mergeSort λa b=>not (HT.lexLt (k b) (k a))).Pairwise λa b=>HT.lexLt (k b) (k a)=false:=by
 refine(List.pairwise_mergeSort (λa b c h1 h2=>?_) (λa b=>?_) L).imp λh=>by simpa using h
 .simp only[Bool.not_eq_true']at h1 h2⊢;cases e:HT.lexLt (k c) (k a)with
|false=>rfl|true=>rw[nV _ _ _ e h1]at h2;cases h2
 .cases e:HT.lexLt (k b) (k a)with
|false=>rfl|true=>rw[rD _ _ e];rfl
def qw{α:Type}{g}(l:∀a,∃ds,g a=.tup ds){L}(j:L.length<64)(h:c6 (L.map g)):∃T:List α,T.Perm L/\T.Pairwise (λa b=>HT.lexLt (flt (g b)) (flt (g a))=false)/\c7 [.lst (L.map g)]=!T.map g:=by
 refine#[L.mergeSort λa b=>not (HT.lexLt _ _),List.mergeSort_perm _ _,C6 (λa=>flt (g a)) L,?_];have e:pf (L.map g)=(L.mergeSort λa b=>not (HT.lexLt _ _)).map g:=(rF h ((List.mergeSort_perm _ _).map g) (List.pairwise_map.mpr (C6 (λa=>flt (g a)) L))).symm;rw[<-e];cases L with
|nil=>refine kN ?_;show(if([]:Ud).length<64 then !(srtZ []).map D.int else none)=_;rw[show srtZ []=[]from List.mergeSort_nil,show pf (List.map g [])=[]from List.mergeSort_nil];rfl|cons a L=>
  refine Fg ?_ ?_;.let[ds,e]:=l a;rw[List.map_cons,e];rfl
  .show(if((a::L).map g).length<64/\c6 ((a::L).map g)then !pf ((a::L).map g)else none)=_;rw[if_pos #[by rw[length_map];exact j,h]]
noncomputable abbrev Sd:=Int×Int
def  sdD(p:Sd):D:=.tup [.int p.1,.int p.2]
def  fdD(q:Sd×List Nat):D:=.tup [sdD q.1,wD q.2]
def ux:∀w:Ub,aX (w.map λ(k:Nat)=>D.int (k:Int))=!w.map λ(k:Nat)=>(k:Int)
|[]=>rfl|k::w=>by show(aX (w.map λ(k:Nat)=>D.int (k:Int))).bind _=_;rw[ux w];rfl
def HB(q:Sd×List Nat):qe (fdD q)=!([some 2,!q.2.length],[q.1.1,q.1.2]++q.2.map λ(k:Nat)=>(k:Int)):=by
 have a:kM (sdD q.1)=!(some 2,[q.1.1,q.1.2]):=rfl;have b:kM (wD q.2)=!(!q.2.length,q.2.map λ(k:Nat)=>(k:Int)):=by show(aX (q.2.map λ(k:Nat)=>D.int (k:Int))).bind _=_;rw[ux,Option.bind_some,length_map]
 show fO [sdD q.1,wD q.2]=_;simp only[fO,a,b,Option.bind_some,List.append_nil]
def C8(q:Sd×List Nat):flt (fdD q)=[q.1.1,q.1.2]++q.2.map λ(k:Nat)=>(k:Int):=by unfold flt;rw[HB]
def F0(h:S.length<64):∃T:List Sd,T.Perm S/\T.Pairwise (λa b=>HT.lexLt [b.1,b.2] [a.1,a.2]=false)/\c7 [.lst (S.map sdD)]=!T.map sdD:=qw (g:=sdD) (λ_=>#[_,rfl]) h #[[none,none],by decide,λd hd=>by let[p,_,rfl]:=UA.mp hd;exact#[[p.1,p.2],rfl]]
def F2(h:L.length<64)(l:∀q∈L,q.2.length=n):∃T:List (Sd×List Nat),T.Perm L/\T.Pairwise (λa b=>HT.lexLt [b.1.1,b.1.2] [a.1.1,a.1.2]=false)/\c7 [.lst (L.map fdD)]=!T.map fdD:=by
 let[T,h1,h2,o]:=qw (g:=fdD) (λ_=>#[_,rfl]) h #[[some 2,!n],by simp,λd hd=>by let[q,j,rfl]:=UA.mp hd;exact#[_,by rw[HB,l q j]]];refine#[T,h1,h2.imp λ{a b}z=>?_,o];rw[C8,C8,vJ (a:=[b.1.1,b.1.2]) (b:=[a.1.1,a.1.2]) _ _ rfl]at z;by_cases c:[b.1.1,b.1.2]=[a.1.1,a.1.2];.rw[c];exact vI _
 grind
def Tu(a b c d:Int):HT.lexLt [a,b] [c,d]=decide (a<c\/a=c/\b<d):=by
 rw[HT.lexLt_cons,HT.lexLt_cons];by_cases h:a=c
 .rw[if_pos h];by_cases g:b=d;.rw[if_pos g];refine(decide_eq_false ?_).symm;lia
  .rw[if_neg g];by_cases k:b<d;.rw[decide_eq_true k];exact(decide_eq_true (.inr #[h,k])).symm
   .rw[decide_eq_false k];exact(decide_eq_false (by lia)).symm
 grind
def  rkd(r:Int)(p:Sd):Sd:=(p.1,p.2*r)
def zE(l:0<=r){S T:List Sd}{Q U:List (Sd×List Nat)}(h1:T.Perm S)(h2:T.Pairwise λa b=>HT.lexLt [b.1,b.2] [a.1,a.2]=false)(p:U.Perm Q)(o:U.Pairwise λa b=>HT.lexLt [b.1.1,b.1.2] [a.1.1,a.1.2]=false)(e:Q.map (·.1)=S.map (rkd r)):U.map (·.1)=T.map (rkd r):=by
 refine List.Perm.eq_of_pairwise (le:=λa b:Sd=>HT.lexLt [b.1,b.2] [a.1,a.2]=false) (λa b _ _ x y=>?_) (List.pairwise_map.mpr o) (List.pairwise_map.mpr (h2.imp λ{a b}z=>?_)) ?_;.have:=rE _ _ y x;injection this with j g;injection g with g;exact Prod.ext j g
 .rw[Tu]at z⊢;refine decide_eq_false λq=>?_;have z:=of_decide_eq_false z;rcases q with q|⟨j,g⟩;.exact z (.inl q)
  .have g:b.2*r<a.2*r:=g;refine z (.inr #[j,?_]);by_cases k:b.2<a.2;.exact k
   .have:=Int.mul_le_mul_of_nonneg_right (show a.2<=b.2 by lia) l;omega
 grind
def  xQ(W:List Ub)(p:List Pk):List Ub:=(List.range p.length).flatMap λk=>W.map λw=>w++[k]
def  wds(rs:T3):List Ub:=rs.foldl xQ [[]]
def kX(g:T3)(p:List Pk):wds (g++[p])=xQ (wds g) p:=by unfold wds;rw[List.foldl_append];rfl
noncomputable def  gC(p:List Pk)(k:Nat):Pk:=p.getD k (true,0)
def  bZ(n k:Nat)(pk:Pk)(c:Sd):Sd:=((k:Int)*(n:Int)+if pk.1 then c.1 else(n:Int)-1-c.1,if pk.1 then c.2 else-c.2)
def  pl:Nat->T3->Ub->Sd->Sd
|_,[],_,c=>c|_,_::_,[],c=>c|n,p::rs,k::w,c=>pl (n*p.length) rs w (bZ n k (gC p k) c)
def mX:∀{rs:T3}{w:Ub}(n:Nat)(c:Sd)(p:List Pk)(k:Nat),w.length=rs.length->pl n (rs++[p]) (w++[k]) c=bZ (n*prod rs) k (gC p k) (pl n rs w c)
|[],[],n,c,p,k,_=>by show bZ n k _ c=bZ (n*1) k _ c;rw[Nat.mul_one]|[],_::_,_,_,_,_,h=>by cases h|_::_,[],_,_,_,_,h=>by cases h|q::rs,j::w,n,c,p,k,h=>by show pl (n*q.length) (rs++[p]) (w++[k]) (bZ n j (gC q j) c)=bZ (n*(q.length*prod rs)) k (gC p k) (pl (n*q.length) rs w (bZ n j (gC q j) c));rw[mX _ _ _ _ (Nat.succ.inj h),Nat.mul_assoc]
def  iQ(s:Int):T3->Ub->Bool
|[],_=>true|_::_,[]=>true|p::rs,k::w=>decide (s<=(gC p k).2)&&iQ s rs w
def kY:∀{rs:T3}{w:Ub}(p:List Pk)(k:Nat),w.length=rs.length->iQ s (rs++[p]) (w++[k])=(iQ s rs w&&decide (s<=(gC p k).2))
|[],[],p,k,_=>by show(decide _&&true)=(true&&_);rw[Bool.and_true,Bool.true_and]|[],_::_,_,_,h=>by cases h|_::_,[],_,_,h=>by cases h|q::rs,j::w,p,k,h=>by show(decide _&&iQ s (rs++[p]) (w++[k]))=(decide _&&iQ s rs w&&_);rw[kY _ _ (Nat.succ.inj h),Bool.and_assoc]
def mY{α:Type}{P:List α->Prop}(h0:P [])(h1:∀l a,P l->P (l++[a]))(l:List α):P l:=by
 have:∀l:List α,P l.reverse:=λl=>by induction l with
|nil=>exact h0|cons a l g=>rw[List.reverse_cons];exact h1 _ _ g
 have z:=this l.reverse;grind
def fC:∀(l:T3),∀w∈wds l,w.length=l.length/\∀q∈w.zip l,q.1<q.2.length:=by
 refine mY (λw g=>?_) λl p o w g=>?_;.cases mem_singleton.mp g;exact#[rfl,λ_ h=>nomatch h]
 .rw[kX]at g;let[k,t,g]:=List.mem_flatMap.mp g;let[v,r,rfl]:=UA.mp g;let[h1,h2]:=o v r;refine#[by rw[length_append,length_append,h1];rfl,λq j=>?_];rw[List.zip_append h1]at j;rcases mem_append.mp j with j|j;.exact h2 q j
  .cases mem_singleton.mp j;exact UG.mp t
def rT:∀(g:T3),(wds g).length=prod g:=by
 refine mY rfl λg p j=>?_;rw[kX,bQ,<-j];unfold xQ;rw[List.length_flatMap];have:∀l:Ub,(l.map λk=>((wds g).map λw=>w++[k]).length).sum=(wds g).length*l.length:=λl=>by induction l with
|nil=>rfl|cons a l j=>rw[List.map_cons,List.sum_cons,j,length_map,length_cons,Nat.mul_succ,Nat.add_comm]
 grind
def  C9(s:Int)(n:Nat)(p:List Pk)(S:List Sd):List Sd:=(List.range p.length).flatMap λk=>if s<=(gC p k).2 then S.map (bZ n k (gC p k))else[]
def  uy(s:Int)(n:Nat)(rs:T3):List Sd:=((wds rs).filter (iQ s rs)).map λw=>pl n rs w ((n:Int)-1,1)
def Da(s:Int)(n:Nat)(g:T3)(p:List Pk):uy s n (g++[p])=C9 s (n*prod g) p (uy s n g):=by
 unfold uy C9;rw[kX];unfold xQ;rw[List.filter_flatMap,List.map_flatMap];refine congrArg (λf=>List.flatMap f _) (funext λk=>?_);have e:((wds g).map λw=>w++[k]).filter (iQ s (g++[p]))=if s<=(gC p k).2 then((wds g).filter (iQ s g)).map λw=>w++[k]else[]:=by
  rw[List.filter_map];by_cases h:s<=(gC p k).2;.rw[if_pos h];refine congrArg _ (List.filter_congr λw j=>?_);show iQ s (g++[p]) (w++[k])=_;rw[kY _ _ (fC g w j).1,decide_eq_true h,Bool.and_true]
  .rw[if_neg h];have:(wds g).filter (iQ s (g++[p])∘λw=>w++[k])=[]:=List.filter_eq_nil_iff.mpr λw j=>by show¬iQ s (g++[p]) (w++[k])=true;rw[kY _ _ (fC g w j).1,decide_eq_false h,Bool.and_false];decide
   rw[this];rfl
 rw[e];by_cases h:s<=(gC p k).2;.rw[if_pos h,if_pos h,List.map_map,List.map_map];exact List.map_congr_left λw j=>mX _ _ _ _ (fC g w (List.mem_filter.mp j).1).1
 grind
def F3(s:Int)(n:Nat)(g:T3):(uy s n g).length<=prod g:=by unfold uy;rw[length_map,<-rT];grind
def  oy(aF:Fn):TZ:=ab (cG (kc (bI (jv (bJ fg (x2 (va 0) (cT "tuple"))))) (kc (ag (aa (aP true) (cb (va 0)) (cI 2))) (ag (aa vm (aa ax (va 0) (cI 0)) (cD (.tup [.str "any",.str "come",.str "row"])))))) (gj (bo (cB false))) aB) (ab (cG (kc (bI (jv (bJ fg (x2 (aa ax (va 0) (cI 1)) (dA (x2 (cT "list") (cT "tuple"))))))) (ag (aa (aP false) (cb (aa ax (va 0) (cI 1))) (cI 0)))) (gj (bo (cB false))) aB) (gj (aY (bJ tm (x1 (bb (au [2] (jX ac (aa ax (va 0) (cI 1))) (bc 2) tQ (bu aF (x3 (va 2) (cI 0) (aa cA (va 1) (cI 1)))))))) ac (gT (x1 (bb (au [2] (jX ac (aa ax (va 0) (cI 1))) (bc 2) tQ (bu aF (x3 (va 2) (cI 0) (aa cA (va 1) (cI 1)))))))))))
def  fE:TZ:=ab (av 1 sC) (ab (zv 0 (jX ac (va 0)) (yR 2 (cx (br 2) (cx (br 3) mM))) (ab (nN 1 (va 3)) aB)) (ab (rJ 1) aB))
def  kZ(bq gG:Fn):TZ:=ab (cG (kc (bI (jv (bJ fg (x2 (va 0) (dA (x2 (cT "list") (cT "tuple"))))))) (bI (jv (bJ tm (x1 (bb (au [2] (jX ac (va 0)) (bc 2) tQ (bu gG (x2 (va 2) (va 1)))))))))) (gj (bo (cB false))) aB) (gj (bo (aa (aP false) (sA (x1 (bu bq (x1 (va 0)))) (sy (x1 (bu bq (x1 (va 0)))))) (sA (x1 (bJ ke (x1 (va 1)))) (aI (JR (x1 (va 1))) (ue (x1 (bJ ke (x1 (va 1))))))))))
def  iR:TZ:=FT (ae (va 1) λ_=>![]) (dA (x2 (aa ax (aa ax (va 1) (va 0)) (cI 1)) (va 0))) 0
def  iS(di:Fn):TZ:=ab (cG (ag (aa (aP false) (va 1) (cS "any"))) (gj (aY (bb (cH (x1 (sA (x1 (va 2)) (sy (x1 (va 2))))))) (cH (x1 (sA (x1 (va 2)) (sy (x1 (va 2)))))) (uf (x1 (aZ (sA (x1 (va 2)) (sy (x1 (va 2)))) (sy (x1 (va 2))) (gT (x1 (va 2)))))))) aB) (ab (av 3 (bo (GY (ag (aa (aP false) (va 1) (cS "row"))) (va 2) (bu di (x2 (va 0) (va 2)))))) (gj (aY (bb (au [4] (jX ac (va 3)) (bc 4) tQ (bb (cH !13)))) (au [4] (jX ac (va 3)) (bc 4) tQ (bb (cH !13))) (zN [4] (jX ac (va 3)) (bc 4) tQ (aZ (bb (cH !13)) (cH !13) (uf (x1 (aZ (va 4) ac ac))))))))
noncomputable def  kdS:Nat->Str
|0=>"any"|1=>"come"|_=>"row"
abbrev Gr:=Nat×List Nat
def  lb(g:Gr):D:=.tup [.str (kdS g.1),rowD g.2]
def  bR(gs:List Gr):D:=.lst (gs.map lb)
noncomputable def  ltD'(p:Int×Int):D:=.tup [.int p.1,.int p.2]
def  lsD'(ls:oS):D:=.lst (ls.map ltD')
def  gR(lv:List Ud):D:=.lst (lv.map aN)
noncomputable def  bU(gs:List Gr):Ub:=gs.flatMap (·.2)
structure Good(m:Nat)(gs:List Gr):Prop where
 pm:(bU gs).Perm (List.range m)ne:∀g∈gs,g.2≠[]kd:∀g∈gs,g.1<3le:m<=24
def Db(j:g∈o)(l:a∈g.2):a∈bU o:=List.mem_flatMap.mpr #[g,j,l]
noncomputable def  Good.lt(h:Good m o)(j:g∈o)(l:a∈g.2):=UG.mp (h.pm.mem_iff.mp (Db j l))
def Good.len(h:Good m g):(bU g).length=m:=by rw[h.pm.length_eq,length_range]
def iT:∀{gs:List Gr},(∀g∈gs,g.2≠[])->gs.length<=(bU gs).length
|[],_=>UI _|g::gs,h=>by have ih:=iT (gs:=gs) λx hx=>h x (Uu _ hx);have:=List.length_pos_iff.mpr (h g Ut);show gs.length+1<=(g.2++bU gs).length;rw[length_append];omega
def wu(l:g∈j):g.2.length<=(bU j).length:=by induction j with
|nil=>cases l|cons x j o=>
  show g.2.length<=(x.2++bU j).length;rw[length_append];rcases mem_cons.mp l with rfl|h;.lia
  .have:=o h;lia
def xR(r:Ub):seqD (rowD r)=!!8:=rfl
def rV(r:Ub):eZ [rowD r]=!.int (r.length:Int):=by simp only[dZ,xR,Option.bind_some,length_map]
def J9{o:Type}{xs:List o}{mk}(I:Nat->Ev->Prop)(r:J (bV Y)=!xs.map mk)(h0:I 0 Y)(p:∀(i:Nat)(x:o)(Y:Ev),xs[i]?=!x->I i Y->∃Y',(tg (mk x) Y).bind F=!.nx Y'/\I (i+1) Y')(k:∀Y',I xs.length Y'->G Y'=out):ab (zv j J tg F) G Y=out:=by
 have l:∀(i:Nat)(d:D)(Y:Ev),(xs.map mk)[i]?=!d->I i Y->∃Y',(tg d Y).bind F=!.nx Y'/\I (i+1) Y':=λi d Y hd hi=>by rw[getElem?_map]at hd;cases g:xs[i]?with
|none=>rw[g]at hd;cases hd|some x=>rw[g]at hd;cases hd;exact p i x Y g hi
 let[Y',e,i]:=gi (xs.map mk) I _ h0 l;rw[length_map]at i;have t:cE J tg F Y=!.nx Y':=by unfold cE;rw[r];exact e
 refine(ai ?_).trans (k _ i);unfold zv aI;rw[t]
def  wv(f:Fn):Prop:=∀(g:Gr)(m:Nat),g.1<3->g.2≠[]->(∀a∈g.2,a<m)->g.2.length<=24->f [lb g,.int (m:Int)]=!(.deep,.bl true)
def F4{w}(l:fA w):wv (aQ 2 3 (oy w)):=λ#[k,r]m C g I t=>by
 have o:az 3 [lb (k,r),.int (m:Int)]=[!(.sh,lb (k,r)),!(.sh,.int (m:Int)),none]:=rfl;have j:ax (lb (k,r)) (.int 1)=!rowD r:=rfl;have p:au [2] (jX ac (aa ax (va 0) (cI 1))) (bc 2) tQ (bu w (x3 (va 2) (cI 0) (aa cA (va 1) (cI 1)))) [!lb (k,r),!.int (m:Int),none]=!r.map λ_=>.bl true:=by
  refine aE (xs:=r) (mk:=λ(k:Nat)=>D.int (k:Int)) (out:=λ_=>.bl true) (by simp only[sB,jX_none,j,xR]) (λa h=>?_) (Ux t !2);have h1:=I a h;have h2:(0:Int)<=(a:Int):=by lia
  have J:(a:Int)<=(m:Int)-1:=by lia
  simp only[sB,l (a:Int) 0 ((m:Int)-1),h2,J,decide_true];rfl
 refine ar rfl ?_;rw[o];unfold oy;have h0:¬(r.length:Int)=0:=by have:0<r.length:=List.length_pos_iff.mpr g;lia
 refine q_if0 ?_ (q_if0 ?_ (q_ret (evX_lf ?_ rfl)));.rcases show k=0\/k=1\/k=2 by have:k<3:=C;lia with rfl|rfl|rfl<;>rfl
 .simp only[sB,mE,iJ,M6,j,Hu,Cz,show cV (rowD r)=some "list"from rfl,List.any_cons,List.any_nil,CA,rV];simp[show¬r=[]from g]
 .simp only[sB,p,iK r λ_=>true];simp
def  oA(f:Fn):Prop:=∀gs:List Gr,(bU gs).length<=24->f [bR gs]=!(.deep,rowD (bU gs))
def zF:oA (aQ 1 4 fE):=λj t=>by
 have C:az 4 [bR j]=[!(.sh,bR j),none,none,none]:=rfl;refine ar rfl ?_;rw[C];unfold fE;refine q_set (!9) (J9 (xs:=j) (mk:=lb) (λi Y=>∃o l,Y=[!(.sh,bR j),!(.deep,rowD (bU (j.take i))),o,l]) ?_ #[none,none,rfl] ?_ ?_);.simp only[sB,xO,jX_none];rfl
 .rintro i g Y r⟨o,l,rfl⟩;have I:(bU (j.take i)).length+g.2.length<=24:=by
   have e:bU j=bU (j.take i)++(g.2++bU (j.drop (i+1))):=by
    conv=>lhs;rw[<-List.take_append_drop i j,List.drop_eq_getElem_cons (List.getElem?_eq_some_iff.mp r).1]
    rw[(List.getElem?_eq_some_iff.mp r).2];unfold bU;rw[List.flatMap_append,List.flatMap_cons]
   rw[e,length_append,length_append]at t;lia
  refine#[_,(ai (qr (ds:=(bU (j.take i)).map λ(k:Nat)=>D.int (k:Int)) (es:=g.2.map λ(k:Nat)=>D.int (k:Int)) rfl rfl (ca λd hd=>by let[p,_,rfl]:=UA.mp hd;rfl) ?_)).trans rfl,#[!(.sh,.str (kdS g.1)),!(.sh,rowD g.2),?_]];.rw[length_map,length_map];exact Ux I !2 
  .rw[List.take_add_one,r];have e:bU (j.take i++(!g).toList)=bU (j.take i)++g.2:=by unfold bU;rw[List.flatMap_append];simp
   rw[e];unfold rowD;rw[List.map_append];rfl
 .rintro Y⟨o,l,rfl⟩;rw[List.take_length];rfl
def lf_row(r:Ub):dS (!8)=true:=ca λd hd=>by let[p,_,rfl]:=UA.mp hd;rfl
def rW(r:Ud):dS (r.map D.int)=true:=ca λd hd=>by let[p,_,rfl]:=UA.mp hd;rfl
def  sAre(f:Fn):Prop:=∀(m:Nat)(gs:List Gr),Good m gs->f [bR gs,.int (m:Int)]=!(.deep,.bl true)
def h_are{o p}(h1:oA o)(h2:wv p):sAre (aQ 2 3 (kZ o p)):=λm j G=>by
 have t:az 3 [bR j,.int (m:Int)]=[!(.sh,bR j),!(.sh,.int (m:Int)),none]:=rfl;have J:=G.len;have l:=G.le;have I:=iT G.ne;have y:seqD (bR j)=!j.map lb:=rfl;have C:au [2] (jX ac (va 0)) (bc 2) tQ (bu p (x2 (va 2) (va 1))) [!bR j,!.int (m:Int),none]=!j.map λ_=>.bl true:=by refine aE (xs:=j) (mk:=lb) (out:=λ_=>.bl true) (by simp only[sB,jX_none,y]) (λg h=>?_) (Ux (show j.length<=24 by lia) !2);simp only[sB,(h2 g m (G.kd g h) (G.ne g h) (λa T=>G.lt h T) (by have:=wu h;lia))]
 have r:sy (x1 (bu o (x1 (va 0)))) [!bR j,!.int (m:Int),none]=!(List.range m).map λ(k:Nat)=>D.int (k:Int):=by show(x1 (bu o (x1 (va 0))) _).bind c7=_;simp only[sB,(h1 j (by lia)),kN (C3 G.pm l)]
 refine ar rfl ?_;rw[t];unfold kZ;refine q_if0 ?_ (q_ret (evX_lf ?_ rfl));.simp only[sB,mE,iJ,M6,Hu,Cz,show cV (bR j)=some "list"from rfl,List.any_cons,List.any_nil,CA,C,iK j λ_=>true];simp
 .simp only[sB];rw[liG_l r,liG_l (No l (by simp only[sB]))];exact J7 false (List.range m)
noncomputable def  izs(r:Ub):Ud:=r.map λ(k:Nat)=>(k:Int)
def Ka(r:Ub):rowD r=aN (izs r):=by unfold rowD aN izs;rw[List.map_map];rfl
abbrev F5:TY:=dA (x2 (aa ax (aa ax (va 1) (va 0)) (cI 1)) (va 0))
def Np{ls:oS}{a:Nat}(h:a<ls.length):F5 [!.int (a:Int),!lsD' ls]=!keyL ls (a:Int):=by
 have e:ax (lsD' ls) (.int (a:Int))=!ltD' (ls.getD a (0,0)):=by rw[List.getD_eq_getElem?_getD,getElem?_eq_getElem h];exact bn (mk:=ltD') (xs:=ls) (i:=a) (x:=ls[a]) (getElem?_eq_getElem h) 
 have g:ax (ltD' (ls.getD a (0,0))) (.int 1)=!.int (aR ls (a:Int)):=rfl;show dA _ _=_;simp only[sB,iJ,e,g];rfl
def qx:∀{r:Ub},(∀a∈r,a<ls.length)->mH F5 (lsD' ls) (!8)=!(izs r).map (keyL ls)
|[],_=>rfl|a::r,h=>by show(F5 [!.int (a:Int),!lsD' ls]).bind (λk=>(mH F5 (lsD' ls) !8).bind λks=>!k::ks)=_;rw[Np (h a mem_cons_self),qx λb hb=>h b (mem_cons_of_mem _ hb)];rfl
def zG(ls:oS)(l:Ud):c6 (l.map (keyL ls)):=#[[none,none],by simp,λd hd=>by let[a,_,rfl]:=UA.mp hd;exact#[_,rfl]]
def  Dc(f:Fn):Prop:=∀(ls:oS)(r:Ub),cF ls->(∀a∈r,a<ls.length)->r.length<=24->f [lsD' ls,rowD r]=!(.deep,aN (iP ls (izs r)))
def Kb:Dc (aQ 2 2 iR):=λls r l o p=>by
 have g:az 2 [lsD' ls,rowD r]=[!_,!_]:=rfl;refine ar rfl ?_;rw[g];have e:zC (ae (va 1) λ_=>![]) F5 0 [!lsD' ls,!rowD r]=!(iP ls (izs r)).map D.int:=by show((!lsD' ls).bind λI=>(mH F5 I !8).bind λks=>if(!8).length<64/\c6 ks then !(plcK ks).map λj=>(!8).getD j .non else none)=_;rw[Option.bind_some,qx o,Option.bind_some,if_pos #[by rw[length_map];lia,zG ls _]];have q:=C5 l (izs r);rw[show(izs r).map D.int=r.map λ(k:Nat)=>D.int (k:Int)by unfold izs;rw[List.map_map];rfl]at q;rw[q]
 refine q_ret (Y':=[!(.sh,lsD' ls),!(.sh,rowD r)]) ?_;have C:(λY=>fL (zC (ae (va 1) λ_=>![]) F5 0 Y)) (vw [!(.sh,lsD' ls),!(.sh,rowD r)])=!aN (iP ls (izs r)):=by show fL (zC (ae (va 1) λ_=>![]) F5 0 [!lsD' ls,!rowD r])=_;rw[e];unfold fL;rw[Option.bind_some,if_pos (rW _)];rfl
 have t:gy (λY=>fL (zC (ae (va 1) λ_=>![]) F5 0 Y)) [!(.sh,lsD' ls),!(.sh,rowD r)]=!((.deep,aN (iP ls (izs r))),[!(.sh,lsD' ls),!(.sh,rowD r)]):=by unfold gy;rw[C];rfl
 unfold aI;rw[t]
def  pB(ls:oS)(g:Gr):List Ud:=if g.1=0 then[srtZ (izs g.2)]else if g.1=1 then(iP ls (izs g.2)).map ([·])else(izs g.2).map ([·])
def uz(h:r.length<=24):kK [rowD r]=!(srtZ (izs r)).map D.int:=by show((aX !8).bind λg=>if g.length<64 then !(srtZ g).map D.int else none)=_;rw[j7,Option.bind_some,if_pos (by rw[length_map];lia)];rfl
def ww{R L Sp}(h:R Y=!d)(f:lfD d=true):aZ R L Sp Y=!d:=by unfold aZ aI;simp only[h,nJ,Option.bind_some,f,if_true]
def oB{R L Sp}(h:R Y=!.lst ds)(g:L Y=!ds)(j:dS ds=true):aZ R L Sp Y=!.lst ds:=by unfold aZ aI;simp only[h,g,nJ,fL,Option.bind_some,xH,j,if_true];rfl
def seq_sc(g:Ud):seqD (aN g)=!g.map D.int:=rfl
def xS{ls C t:D}{g:Ud}(o:g.length<=24)(l:g≠[])(r:T6):aY (bb (au [4] (jX ac (va 3)) (bc 4) tQ (bb (cH !13)))) (au [4] (jX ac (va 3)) (bc 4) tQ (bb (cH !13))) (zN [4] (jX ac (va 3)) (bc 4) tQ (aZ (bb (cH !13)) (cH !13) (uf (x1 (aZ (va 4) ac ac))))) [!(.sh,ls),!(.sh,C),!(.sh,t),!(.sh,aN g),none]=!((.deep,gR (g.map ([·]))),[!(.sh,ls),!(.sh,C),!(.sh,t),!(.sh,aN g),none]):=by
 have j:g.length<big:=Ux o !2;have h1:au [4] (jX ac (va 3)) (bc 4) tQ (bb (cH !13)) [!ls,!C,!t,!aN g,none]=!g.map λa=>.lst [.int a]:=by refine aE (xs:=g) (mk:=D.int) (out:=λa=>.lst [.int a]) (by simp only[sB,jX_none,seq_sc]) (λa h=>?_) j;simp only[sB]
 have h2:au [4] (jX ac (va 3)) (bc 4) tQ (aZ (bb (cH !13)) (cH !13) (uf (x1 (aZ (va 4) ac ac)))) [!ls,!C,!t,!aN g,none]=!g.map λa=>.lst [.int a]:=by
  refine aE (xs:=g) (mk:=D.int) (out:=λa=>.lst [.int a]) (by simp only[sB,jX_none,seq_sc]) (λa h=>?_) j;have e:aZ (bb (cH !13)) (cH !13) (uf (x1 (aZ (va 4) ac ac))) [!ls,!C,!t,!aN g,!.int a]=!.lst [.int a]:=oB (by simp only[sB]) (by simp only[sB]) rfl;simp only[sB,e]
 have p:gR (g.map ([·]))=.lst (g.map λa=>.lst [.int a]):=by unfold gR;rw[List.map_map];rfl
 rw[p];refine rQ (d:=.lst (g.map λa=>.lst [.int a])) (ds:=g.map λa=>.lst [.int a]) ?_ rfl ?_ ?_ ?_;.simp only[sB,h1]
 .simp only[sB,h1]
 .cases g with
|nil=>exact absurd rfl l|cons a g=>rfl
 .show(au _ _ _ _ _ _).bind _=_;simp only[sB,h2]
def  Q4(f:Fn):Prop:=∀(ls:oS)(g:Gr),cF ls->g.1<3->g.2≠[]->(∀a∈g.2,a<ls.length)->g.2.length<=24->f [lsD' ls,.str (kdS g.1),rowD g.2]=!(.deep,gR (pB ls g))
def Q5{co}(hc:Dc co):Q4 (aQ 3 5 (iS co)):=λls#[k,r]I U p ha t=>by
 have T:az 5 [lsD' ls,.str (kdS k),rowD r]=[!(.sh,lsD' ls),!(.sh,.str (kdS k)),!(.sh,rowD r),none,none]:=rfl;have g:r≠[]:=p;have j:r.length<=24:=t;have C:(izs r).length=r.length:=length_map _;have o:izs r≠[]:=λz=>g (by have:=congrArg List.length z;rw[C]at this;exact List.length_eq_zero_iff.mp this);refine ar rfl ?_;rw[T];unfold iS;rcases show k=0\/k=1\/k=2 by have:k<3:=U;lia with rfl|rfl|rfl
 .have l:sy (x1 (va 2)) [!lsD' ls,!.str (kdS 0),!rowD r,none,none]=!(srtZ (izs r)).map D.int:=by show(x1 (va 2) _).bind c7=_;simp only[sB,kN (uz j)]
  refine seqF_rt ((ifS_t rfl).trans (q_ret (Y':=[!(.sh,lsD' ls),!(.sh,.str (kdS 0)),!(.sh,rowD r),none,none]) ?_));show aY _ _ _ _=!((.deep,.lst [aN (srtZ (izs r))]),_);refine rQ (d:=.lst [aN (srtZ (izs r))]) (ds:=[aN (srtZ (izs r))]) ?_ rfl ?_ rfl ?_;.simp only[sB,consX_a (a:=sA _ _),liG_l l];rfl
  .simp only[sB,consX_a (a:=sA _ _),liG_l l];rfl
  .simp only[sB,M7,consX_a (a:=aZ _ _ _),(oB (Sp:=gT (x1 (va 2))) (liG_l (xs:=x1 (va 2)) l) l (rW _))];rfl
 .have e:=hc ls r I ha j;refine q_if0 rfl (q_set (s:=(.sh,aN (iP ls (izs r)))) (Y':=[!(.sh,lsD' ls),!(.sh,.str (kdS 1)),!(.sh,rowD r),none,none]) (lM ?_ rfl rfl rfl rfl ?_) (q_ret (Y':=[!(.sh,lsD' ls),!(.sh,.str (kdS 1)),!(.sh,rowD r),!(.sh,aN (iP ls (izs r))),none]) ?_));.show GY _ _ _ [!lsD' ls,!.str (kdS 1),!rowD r,none,none]=_;rw[Cs,show ag (aa (aP false) (va 1) (cS "row")) [!lsD' ls,!.str (kdS 1),!rowD r,none,none]=some false from rfl];simp only[sB,Bool.false_eq_true,if_false,e]
  .show GY _ _ _ [!lsD' ls,!.str (kdS 1),!rowD r,none,none]=_;rw[Cs,show ag (aa (aP false) (va 1) (cS "row")) [!lsD' ls,!.str (kdS 1),!rowD r,none,none]=some false from rfl];simp only[sB,Bool.false_eq_true,if_false,e]
  .have J:(iP ls (izs r)).length=r.length:=by rw[(lQ I _).length_eq,C]
   exact xS (by lia) (λz=>by rw[z]at J;exact g (List.length_eq_zero_iff.mp J.symm)) none
 .exact q_if0 rfl (q_set (s:=(.sh,aN (izs r))) (Y':=[!(.sh,lsD' ls),!(.sh,.str (kdS 2)),!(.sh,rowD r),none,none]) (by rw[<-Ka];exact lM rfl rfl rfl rfl rfl rfl) (q_ret (Y':=[!(.sh,lsD' ls),!(.sh,.str (kdS 2)),!(.sh,rowD r),!(.sh,aN (izs r)),none]) (xS (by lia) o none)))
def  iU(dk:Fn):TZ:=ab (av 2 sC) (ab (zv 1 (jX ac (va 1)) (yR 2 (cx (br 3) (cx (br 4) mM))) (ab (nN 2 (bu dk (x3 (va 0) (va 3) (va 4)))) aB)) (ab (rJ 2) aB))
def  rX:TZ:=ab (av 1 (aY ac ac Tj)) (ab (dF (jX (K5 (x1 (va 0))) (bJ ke (x1 (va 0)))) (yR 2 (cx (br 2) (cx (br 3) mM))) (ab (dF (jX ac (va 3)) (br 4) (ab (kP 1 (va 4) (bo (va 2)) (va 2)) aB)) aB)) (ab (rJ 1) aB))
def Kc(h0:iH i k g Y=none)(h:Bo i k R Y=!o):kP i k g R Y=!o:=by unfold kP aI;rw[h0];exact h
abbrev Wd:=List gN×List D
noncomputable def  wD'(w:Wd):D:=.dct w.1 w.2
def  pu(n:Int)(w:Wd)(a:Int):Wd:=(f7 w.1 (.inl a),f8 w.1 w.2 (.inl a) (.int n))
def  gS(n:Int)(l:Ud)(w:Wd):Wd:=l.foldl (pu n) w
def  lR:List Ud->Nat->Wd->Wd
|[],_,w=>w|l::lv,n,w=>lR lv (n+1) (gS (n:Int) l w)
def qy:∀(lv:List Ud)(l:Ud)(n:Nat)(w:Wd),lR (lv++[l]) n w=gS ((n+lv.length:Nat):Int) l (lR lv n w)
|[],l,n,w=>rfl|x::lv,l,n,w=>by show lR (lv++[l]) (n+1) _=_;rw[qy lv l (n+1)];show gS ((n+1+lv.length:Nat):Int) l _=gS ((n+(lv.length+1):Nat):Int) l _;rw[show n+1+lv.length=n+(lv.length+1)by omega];rfl
structure WOk(k:Nat)(w:Wd):Prop where
 len:w.1.length=w.2.length
 sz:w.1.length<=k
 lf:dS w.2=true
def xU(h:WOk k w)(n a:Int):WOk (k+1) (pu n w a):=by
 have j:=h.len;have g:=h.sz;refine#[?_,?_,Bm rfl h.lf]
 .show(f7 w.1 (.inl a)).length=(f8 w.1 w.2 _ _).length;unfold f7 f8;split;.rw[List.length_zipWith];lia
  .rw[length_append,length_append];show _+1=_+1;lia
 .show(f7 w.1 (.inl a)).length<=k+1;unfold f7;split;.lia
  .rw[length_append];show _+1<=_;lia
def jn:∀{l:Ud}{k:Nat}{w:Wd},WOk k w->WOk (k+l.length) (gS n l w)
|[],k,w,h=>h|a::l,k,w,h=>by have:=jn (n:=n) (l:=l) (xU h n a);rw[show k+1+l.length=k+(a::l).length by rw[length_cons];omega]at this;exact this
def Dd:∀{lv:List Ud}{n k:Nat}{w:Wd},WOk k w->WOk (k+lv.flatten.length) (lR lv n w)
|[],n,k,w,h=>h|l::lv,n,k,w,h=>by have:=Dd (lv:=lv) (n:=n+1) (jn (n:=(n:Int)) (l:=l) h);rw[show k+l.length+lv.flatten.length=k+(l::lv).flatten.length by rw[List.flatten_cons,length_append];omega]at this;exact this
def has_mem:pd ks k=true↔k∈ks:=by simp[gN,pd]
def rY:∀{ks:List gN}{ds:Uh}{e:D},eY ks ds j=!e->eY ks (List.zipWith (λi x=>if i=k then d else x) ks ds) j=!if j=k then d else e
|[],ds,e,h=>by cases ds<;>cases h|i::ks,[],e,h=>by cases h|i::ks,x::ds,e,h=>by
  have h':(if i=j then !x else eY ks ds j)=!e:=h;show(if i=j then !if i=k then d else x else eY ks (List.zipWith _ ks ds) j)=_;by_cases q:i=j;.rw[if_pos q]at h'⊢;cases h';rw[q]
  .rw[if_neg q]at h'⊢;exact rY h'
def De:∀{ks:List gN}{ds:Uh},ks.length=ds.length->k∈ks->∃e,eY ks ds k=!e
|[],_,_,h=>by cases h|i::ks,[],hl,h=>by cases hl|i::ks,x::ds,hl,h=>by
  show∃e,(if i=k then !x else eY ks ds k)=!e;by_cases q:i=k;.rw[if_pos q];exact#[x,rfl]
  .rw[if_neg q];rcases mem_cons.mp h with z|z;.exact absurd z.symm q
   .exact De (by rw[length_cons,length_cons]at hl;omega) z
def rZ{k j:gN}{d:D}:∀{ks:List gN}{ds:Uh},ks.length=ds.length->eY (ks++[k]) (ds++[d]) j=match eY ks ds j with
  |some e=>!e|none=>if k=j then !d else none
|[],[],_=>rfl|[],_::_,h=>by cases h|_::_,[],h=>by cases h|i::ks,x::ds,h=>by
  show(if i=j then !x else eY (ks++[k]) (ds++[d]) j)=match if i=j then !x else eY ks ds j with
  |some e=>!e|none=>if k=j then !d else none;by_cases q:i=j;.rw[if_pos q,if_pos q]
  .rw[if_neg q,if_neg q];exact rZ (by rw[length_cons,length_cons]at h;omega)
def  uA(lv:List Ud):D:=wD' (lR lv 0 ([],[]))
def R4:WOk 0 (([],[]):Wd):=#[rfl,UI _,rfl]
def F6{R L Sp}(j:WOk m w)(t:m<=100)(g:d8 Y i=!(.deep,wD' w))(p:k (vw Y)=!.int a)(l:R (vw Y)=!.int n):kP i k (aY R L Sp) R Y=!.nx (Y.set i !(.deep,wD' (pu n w a))):=by
 have r:aY R L Sp Y=!_:=evX_lf l rfl;have o:ownL Y i=none:=by unfold ownL;rw[g];rfl
 refine Kc ?_ ?_;.unfold iH;rw[r];show(ownL Y i).bind _=none;rw[o];rfl
 .unfold Bo;rw[show Fd Y i=some w by unfold Fd;rw[g];rfl,l,p];show(if dS w.2=true/\w.1.length+1<big then _ else _)=_;rw[if_pos #[j.lf,lt_of_le_of_lt (show w.1.length+1<=101 by have:=j.sz;lia) !2]];rfl
def Kd{o:List Ud}(h:∀l∈o,l≠[]):o.length<=o.flatten.length:=by induction o with
|nil=>exact UI _|cons l o g=>have:=g λx j=>h x (Uu _ j);have:=List.length_pos_iff.mpr (h l Ut);rw[List.flatten_cons,length_append,length_cons];lia
def zH{l:Ud}(h:l[i]?=!a):pu n (gS n (l.take i) w) a=gS n (l.take (i+1)) w:=by rw[List.take_add_one,h];unfold gS;rw[List.foldl_append];rfl
def zI{g:List Ud}(h:g[i]?=!l):(g.take i).flatten.length+l.length<=g.flatten.length:=by
 have e:g=g.take i++l::g.drop (i+1):=by
  conv=>lhs;rw[<-List.take_append_drop i g,List.drop_eq_getElem_cons (List.getElem?_eq_some_iff.mp h).1]
  rw[(List.getElem?_eq_some_iff.mp h).2]
 grind
def  Nq(f:Fn):Prop:=∀lv:List Ud,lv.flatten.length<=24->lv.length<1000->f [gR lv]=!(.deep,uA lv)
def Nr:Nq (aQ 1 5 rX):=λlv h24 U=>by
 refine ar rfl (q_set rfl (q_forB (xs:=lv.zipIdx) (mk:=λp=>.tup [.int (p.2:Nat),aN p.1]) (λi Y=>∃r o g,Y=[!_,!(.deep,wD' (lR (lv.take i) 0 ([],[]))),r,o,g]) ?_ #[none,none,none,rfl] ?_ ?_))
 .have e:jX (K5 (x1 (va 0))) (bJ ke (x1 (va 0))) [!gR lv,none,none,none,none]=!(lv.zipIdx).map λp=>.tup [.int (p.2:Nat),aN p.1]:=by
   have q:K5 (x1 (va 0)) [!gR lv,none,none,none,none]=!(lv.zipIdx).map λp=>.tup [.int (p.2:Nat),aN p.1]:=by show(seqD (gR lv)).bind (λxs=>!mC xs)=_;rw[show seqD (gR lv)=some _ from rfl,Option.bind_some,qp]
   unfold jX aI;rw[q]
  exact e
 .rintro i⟨l,n⟩Y I⟨r,o,g,rfl⟩;rw[List.getElem?_zipIdx]at I;let[l',t,e]:=Option.map_eq_some_iff.mp I;rw[Nat.zero_add]at e;cases e;have tf:=zI t;have T:=Dd (lv:=lv.take i) (n:=0) R4;have nx:lR (lv.take (i+1)) 0 ([],[])=gS (i:Int) l (lR (lv.take i) 0 ([],[])):=by rw[List.take_add_one,t];show lR (lv.take i++[l]) 0 _=_;rw[qy,List.length_take,Nat.min_eq_left (Nat.le_of_lt (List.getElem?_eq_some_iff.mp t).1),Nat.zero_add]
  refine x_for (λj Y=>∃g,Y=[!_,!(.deep,wD' (gS (i:Int) (l.take j) (lR _ 0 _))),!(.sh,.int (i:Nat)),!_,g]) rfl #[g,rfl] ?_ ?_;.rintro j a Y J⟨g,rfl⟩;have hj:j<l.length:=(Us.mp J).1;have C:=jn (n:=(i:Int)) (l:=l.take j) T;rw[List.length_take,Nat.min_eq_left (Nat.le_of_lt hj)]at C;refine#[_,(ai (F6 C (by lia) rfl rfl rfl)).trans rfl,#[!(.sh,.int a),?_]];rw[zH J];rfl
  .rintro Y⟨g,rfl⟩;rw[List.take_length,<-nx];exact x_end #[_,_,_,rfl]
 .rintro Y⟨r,o,g,rfl⟩;rw[List.length_zipIdx,List.take_length];rfl
def  levs(ls:oS)(gs:List Gr):List Ud:=gs.flatMap (pB ls)
def mZ(r:Ub):(izs r).length=r.length:=length_map _
def qA(l:Ud):(l.map ([·])).flatten=l:=by induction l with
|nil=>rfl|cons a l g=>rw[List.map_cons,List.flatten_cons,g];rfl
def Dg(h:cF ls)(g:Gr):(pB ls g).flatten.Perm (izs g.2):=by
 unfold pB;split;.simp only[List.flatten_cons,List.flatten_nil,List.append_nil];exact gk _
 .split;.rw[qA];exact lQ h _
  .rw[qA]
def jo(h:cF ls):∀gs:List Gr,(levs ls gs).flatten.Perm (izs (bU gs))
|[]=>.refl _|g::gs=>by show(pB ls g++levs ls gs).flatten.Perm (izs (g.2++bU gs));rw[List.flatten_append];unfold izs;rw[List.map_append];exact(Dg h g).append (jo h gs)
def xV(h:cF ls)(o:∀g∈p,g.2≠[]):∀l∈levs ls p,l≠[]:=λl j=>by
 let[g,h1,h2]:=List.mem_flatMap.mp j;exact(λh o=>λl j=>by
  unfold pB at j;split at j;.rw[mem_singleton.mp j];intro z;have:=(gk (izs g.2)).length_eq;rw[z,mZ]at this;exact o (List.length_eq_zero_iff.mp this.symm)
  grind) h (o g h1) l h2
def gp(h:cF ls)(l:∀g∈j,g.2≠[]):(levs ls j).length<=(bU j).length/\(levs ls j).flatten.length=(bU j).length:=by have e:=(jo h j).length_eq;rw[mZ]at e;exact#[by rw[<-e];exact Kd (xV h l),e]
def lS{j:List Gr}(h:j[i]?=!g):levs ls (j.take (i+1))=levs ls (j.take i)++pB ls g:=by rw[List.take_add_one,h];unfold levs;simp
def qB:(bU (gs.take i)).length<=(bU gs).length:=by
 conv=>rhs;rw[<-List.take_append_drop i gs]
 unfold bU;grind
def r9(h:c≠.sh):∀es:Uh,extC c es≠.sh
|[]=>h|d::es=>r9 (jg c (extS d)) es
def Dh(h:d8 Y i=!(c,.lst ds))(g:c≠.sh):ownL Y i=!(c,ds):=by unfold ownL;rw[h];cases c with
|sh=>exact absurd rfl g|deep=>rfl|top=>rfl
def Di(h0:d8 Y i=!(c,.lst ds))(j:c≠.sh)(l:R (bV Y)=!.lst es)(g:ds.length+es.length<big):nN i R Y=!.nx (Y.set i !(extC c es,.lst (ds++es))):=by
 have e:yW i R Y=!.nx (Y.set i !(extC c es,.lst (ds++es))):=by unfold yW;rw[Dh h0 j];simp only[Option.bind_some,l];show(if ds.length+es.length<big then _ else _)=_;rw[if_pos g]
 unfold nN aI;rw[e]
def  Nt(f:Fn):Prop:=∀(m:Nat)(ls:oS)(gs:List Gr),cF ls->ls.length=m->Good m gs->∃c,c≠Cat.sh/\f [lsD' ls,bR gs]=!(c,gR (levs ls gs))
def wx(h0:d8 Y i=!(c,.lst ds))(j:c≠.sh)(h:g Y=!(s,Y))(l:ds.length+1<big):cX i g Y=!.nx (Y.set i !(newCat c s,.lst (ds++[s.2]))):=by unfold cX;rw[Dh h0 j,h];show(ownL Y i).bind _=_;rw[Dh h0 j];grind
def lt_big(h:n<=100):n<big:=Ux h !2
def m6(a b:List Ud):gR (a++b)=.lst (a.map aN++b.map aN):=by unfold gR;rw[List.map_append]
def Ke{α o:Type}{out:α->Option Out}{P:α->Prop}{xs:List o}{mk}(I:Nat->Ev->Prop)(r:J (bV Y)=!xs.map mk)(h0:I 0 Y)(p:∀(i:Nat)(x:o)(Y:Ev),xs[i]?=!x->I i Y->∃Y',(tg (mk x) Y).bind F=!.nx Y'/\I (i+1) Y')(k:∀Y',I xs.length Y'->∃a,G Y'=out a/\P a):∃a,ab (zv j J tg F) G Y=out a/\P a:=by
 have l:∀(i:Nat)(d:D)(Y:Ev),(xs.map mk)[i]?=!d->I i Y->∃Y',(tg d Y).bind F=!.nx Y'/\I (i+1) Y':=λi d Y hd hi=>by rw[getElem?_map]at hd;cases g:xs[i]?with
|none=>rw[g]at hd;cases hd|some x=>rw[g]at hd;cases hd;exact p i x Y g hi
 let[Y',e,i]:=gi (xs.map mk) I _ h0 l;rw[length_map]at i;have t:cE J tg F Y=!.nx Y':=by unfold cE;rw[r];exact e
 refine pw ?_ (k _ i);unfold zv aI;rw[t]
def Nu{p}(hg:Q4 p):Nt (aQ 2 5 (iU p)):=λm ls gs C T G=>by
 have J:az 5 [lsD' ls,bR gs]=[!(.sh,lsD' ls),!(.sh,bR gs),none,none,none]:=rfl;have key:∃c,iU p [!(.sh,lsD' ls),!(.sh,bR gs),none,none,none]=!.rt (c,gR (levs ls gs))/\c≠Cat.sh:=by
  unfold iU;refine x_set (s:=(.deep,.lst [])) (Y':=[!(.sh,lsD' ls),!(.sh,bR gs),none,none,none]) (!9) (Ke (xs:=gs) (mk:=lb) (λi Y=>∃c t r,c≠Cat.sh/\Y=[!(.sh,lsD' ls),!(.sh,bR gs),!(c,gR (levs ls (gs.take i))),t,r]) rfl #[.deep,none,none,by simp,rfl] ?_ ?_)
  .rintro i g Y l⟨c,t,r,j,rfl⟩;have o:g∈gs:=UH l;have hfl:=G.len;have U:=G.le;have e:=hg ls g C (G.kd g o) (G.ne g o) (λa ha=>by rw[T];exact G.lt o ha) (by have:=wu o;lia);have I:∀x∈gs.take (i+1),x.2≠[]:=λx l=>G.ne x (List.mem_of_mem_take l);have b1:=(gp C I).1;have b2:=qB (gs:=gs) (i:=i+1);rw[lS l,length_append]at b1;refine#[_,(ai (Di (c:=c) (ds:=(levs ls (gs.take i)).map aN) (es:=(pB ls g).map aN) rfl j ?_ ?_)).trans rfl,#[extC c ((pB ls g).map aN),!(.sh,.str (kdS g.1)),!(.sh,rowD g.2),r9 j _,?_]];.show bu p _ [!lsD' ls,!bR gs,_,!.str (kdS g.1),!rowD g.2]=_;simp only[sB,e];rfl
   .rw[length_map,length_map];exact lt_big (by lia)
   .rw[lS l,m6];rfl
  .rintro Y⟨c,t,r,j,rfl⟩;refine#[c,?_,j];rw[List.take_length];rfl
 let[c,e,j]:=key;exact#[c,j,ar rfl (by rw[J];exact e)]
def  lT(cq cQ ck:Fn)(y:Addr):uT:=stI (cG (bI (jv (bu ck (x2 (va 2) (cb (va 1)))))) (ab noO' aB) aB) (rh y 0 "groups" (aY (bb (au [3,4] (jX ac (va 2)) (nE 2 (aC (bc 3) (aC (bc 4) cv))) tQ (dA (x2 (va 3) (jK !13))))) (au [3,4] (jX ac (va 2)) (nE 2 (aC (bc 3) (aC (bc 4) cv))) tQ (dA (x2 (va 3) (jK !13)))) (zN [3,4] (jX ac (va 2)) (nE 2 (aC (bc 3) (aC (bc 4) cv))) tQ (aZ (dA (x2 (va 3) (jK !13))) ac (oi (x2 (aZ (va 3) ac ac) (aZ (jK !13) (ue !13) (gT !13))))))) (rh y 0 "level_letters" (j8 cQ (x2 (va 1) (va 2))) (BX y 0 "level_numbers" "level_letters" cq A9)))
def F7{R L Sp}(h:R Y=!d)(f:lfD d=false)(j:L Y=none)(g:Sp Y=!e):aZ R L Sp Y=!e:=by unfold aZ aI;simp only[h,j,nJ,fL,Option.bind_none,Option.bind_some,f,g];rfl
def lg(r:Ub):mw [rowD r]=!!8:=rfl
def Kf(h:j≠[]):dS (j.map lb)=false:=by cases j with
|nil=>exact absurd rfl h|cons g j=>rfl
instance gwDec(p:Prop):Decidable p:=Classical.propDecidable p
def  gW(I:Addr->uT):Uh->Option !39:=λds=>if h:∃r,∀y,rm 3 5 I y ds=!r then !Classical.choose h else none
def Kg(h:gW I ds=!r):∀y,rm 3 5 I y ds=!r:=by
 unfold gW at h;split at h;.rename_i q;cases h;exact Classical.choose_spec q
 .cases h
def Nv(h:∀y,rm 3 5 I y ds=!r):gW I ds=!r:=by have q:∃r,∀y,rm 3 5 I y ds=!r:=#[r,h];unfold gW;rw[dif_pos];have:=(Classical.choose_spec q 0).symm.trans (h 0);exact this
def  Tv(ls:oS)(gs:List Gr):List (Str×D):=[("groups",bR gs),("level_letters",gR (levs ls gs)),("level_numbers",uA (levs ls gs))]
def  bE(ls:oS)(gs:List Gr):D:=.obj "Wish" ["groups","level_letters","level_numbers"] [bR gs,gR (levs ls gs),uA (levs ls gs)]
def  Dj(g:Uh->Option !39):Prop:=∀(m:Nat)(ls:oS)(gs:List Gr),cF ls->ls.length=m->Good m gs->g [lsD' ls,bR gs]=!Tv ls gs
def xW{fs}(h:g Y=!(s,Y))(hi:d8 Y i=!(.sh,.adr x))(j:fs.length<900):rh x i f g G Y fs=G Y (nM f s.2 fs):=by unfold rh;grind
def F8{g:Fn}{fs}(hd:fs.lookup h=!d)(l:g [d]=!s)(hi:d8 Y i=!(.sh,.adr x))(j:fs.length<900):BX x i f h g G Y fs=G Y (nM f s.2 fs):=by unfold BX;grind
def Kh{num l o}(h1:Nq num)(h2:Nt l)(h3:sAre o):Dj (gW (lT num l o)):=λm ls j T J G=>Nv λy=>by
 have hfl:=G.len;have hle:=G.le;have hgl:=iT G.ne;let[b1,b2]:=gp T G.ne;let[c,hc,e2]:=h2 m ls j T J G;have C:=h1 (levs ls j) (by lia) (by lia);have t:=h3 m j G;have p:eZ [lsD' ls]=!.int (m:Int):=by rw[<-J];simp only[dZ,show seqD (lsD' ls)=some (ls.map ltD')from rfl,Option.bind_some,length_map]
 show lT num l o y [!(.sh,.adr y),!(.sh,lsD' ls),!(.sh,bR j),none,none] []=_;unfold lT;have c0:cG (bI (jv (bu o (x2 (va 2) (cb (va 1)))))) (ab noO' aB) aB [!(.sh,.adr y),!(.sh,lsD' ls),!(.sh,bR j),none,none]=!.nx [!(.sh,.adr y),!(.sh,lsD' ls),!(.sh,bR j),none,none]:=by refine(dQ ?_).trans rfl;simp only[sB,p,t,Bool.not_true]
 unfold L2.stI;rw[c0];show rh y 0 "groups" _ _ _ _=_;have c1:au [3,4] (jX ac (va 2)) (nE 2 (aC (bc 3) (aC (bc 4) cv))) tQ (dA (x2 (va 3) (jK !13))) [!.adr y,!lsD' ls,!bR j,none,none]=!j.map lb:=by refine aE (xs:=j) (mk:=lb) (out:=lb) rfl (λg r=>?_) (lt_big (by lia));show p0 _ _ _ _ (.tup [.str (kdS g.1),rowD g.2])=_;simp only[sB,Hw,uk,xJ,length_cons,List.length_nil,iJ,kQ,lg];rfl
 have c2:au [3,4] (jX ac (va 2)) (nE 2 (aC (bc 3) (aC (bc 4) cv))) tQ (aZ (dA (x2 (va 3) (jK !13))) ac (oi (x2 (aZ (va 3) ac ac) (aZ (jK !13) (ue !13) (gT !13))))) [!.adr y,!lsD' ls,!bR j,none,none]=!j.map lb:=by
  refine aE (xs:=j) (mk:=lb) (out:=lb) rfl (λg r=>?_) (lt_big (by lia));have C:aZ (va 3) ac ac [!.adr y,!lsD' ls,!bR j,!.str (kdS g.1),!rowD g.2]=!.str (kdS g.1):=ww rfl rfl;have e2:aZ (jK !13) (ue !13) (gT !13) [!.adr y,!lsD' ls,!bR j,!.str (kdS g.1),!rowD g.2]=!rowD g.2:=oB (by simp only[sB,kQ,lg]) (by simp only[sB,Ht,lg]) (lf_row _);have t:aZ (dA (x2 (va 3) (jK !13))) ac (oi (x2 (aZ (va 3) ac ac) (aZ (jK !13) (ue !13) (gT !13)))) [!.adr y,!lsD' ls,!bR j,!.str (kdS g.1),!rowD g.2]=!lb g:=by
   refine F7 (d:=lb g) ?_ rfl rfl ?_;.simp only[sB,iJ,kQ,lg];rfl
   .simp only[sB,Cq,consX_a (a:=aZ _ _ _),C,e2];rfl
  show p0 _ _ _ _ (.tup [.str (kdS g.1),rowD g.2])=_;simp only[sB,Hw,uk,xJ,length_cons,List.length_nil,t]
 refine(xW (s:=(.deep,bR j)) ?_ rfl !2).trans ?_;.cases r:j with
|nil=>rfl|cons g0 g1=>rw[<-r];refine rQ (d:=bR j) (ds:=j.map lb) (by simp only[sB,c1];rfl) rfl (by simp only[sB,c1]) (Kf (by rw[r];simp)) ?_;show(au _ _ _ _ _ _).bind _=_;simp only[sB,c2];rfl
 .have I:bu l (x2 (va 1) (va 2)) [!.adr y,!lsD' ls,!bR j,none,none]=!gR (levs ls j):=by simp only[sB,e2]
  have U:FC l (x2 (va 1) (va 2)) [!.adr y,!lsD' ls,!bR j,none,none]=fZ !(c,gR (levs ls j)):=by simp only[sB,e2]
  have ev:∃c',j8 l (x2 (va 1) (va 2)) [!(.sh,.adr y),!(.sh,lsD' ls),!(.sh,bR j),none,none]=!((c',gR (levs ls j)),[!(.sh,.adr y),!(.sh,lsD' ls),!(.sh,bR j),none,none]):=by cases c with
|sh=>exact absurd rfl hc|deep=>exact#[.deep,evX_call I rfl rfl U]|top=>exact#[.sh,lM I rfl rfl U rfl I]
  let[c',ev]:=ev;refine(xW ev rfl (by show 1<900;decide)).trans ((F8 (d:=gR (levs ls j)) (s:=(.deep,uA (levs ls j))) rfl C rfl (by show 2<900;decide)).trans ?_);rfl
def  At(w:Wd)(a n:Int):Prop:=eY w.1 w.2 (.inl a)=!.int n
def Nw(h:WOk k w)(n a:Int):At (pu n w a) a n:=by
 show eY (f7 w.1 (.inl a)) (f8 w.1 w.2 (.inl a) (.int n)) (.inl a)=_;unfold f7 f8;by_cases q:pd w.1 (.inl a)=true;.rw[if_pos q,if_pos q];let[e,g]:=De h.len (has_mem.mp q);rw[rY g,if_pos rfl]
 .rw[if_neg q,if_neg q,rZ h.len];cases g:eY w.1 w.2 (.inl a)with
|none=>exact if_pos rfl|some e=>exfalso;refine q (has_mem.mpr ?_);clear q h;let[ks,ds]:=w;dsimp only at g⊢;induction ks generalizing ds with
|nil=>cases ds<;>cases g|cons i ks l=>cases ds with
|nil=>cases g|cons x ds=>
     have j:(if i=Sum.inl a then !x else eY ks ds _)=!e:=g;by_cases q:i=Sum.inl a;.rw[q];exact Ut
     .rw[if_neg q]at j;exact Uu _ (l _ j)
def Nx(h:WOk k w)(n:Int)(g:At w b v)(ne:b≠a):At (pu n w a) b v:=by
 show eY (f7 w.1 (.inl a)) (f8 w.1 w.2 (.inl a) (.int n)) (.inl b)=_;unfold f7 f8;by_cases q:pd w.1 (.inl a)=true;.rw[if_pos q,if_pos q,rY g,if_neg λz=>ne (Sum.inl.inj z)]
 .rw[if_neg q,if_neg q,rZ h.len,show eY w.1 w.2 (.inl b)=some _ from g]
def lU:∀{l:Ud}{k:Nat}{w:Wd},WOk k w->∀{b v},At w b v->b∉l->At (gS n l w) b v
|[],k,w,_,b,v,h,_=>h|a::l,k,w,hw,b,v,h,nb=>lU (l:=l) (xU hw n a) (Nx hw n h λz=>nb (z▸Ut)) λz=>nb (Uu _ z)
def xX:∀{l:Ud}{k:Nat}{w:Wd},WOk k w->∀{b},b∈l->At (gS n l w) b n
|a::l,k,w,hw,b,h=>by
  by_cases hb:b∈l;.exact xX (l:=l) (xU hw n a) hb
  .rcases mem_cons.mp h with rfl|h;.exact lU (l:=l) (xU hw n b) (Nw hw n b) hb
   .exact absurd h hb
def uB:∀{lv:List Ud}{n k:Nat}{w:Wd},WOk k w->∀{b v},At w b v->b∉lv.flatten->At (lR lv n w) b v
|[],n,k,w,_,b,v,h,_=>h|l::lv,n,k,w,hw,b,v,h,nb=>by rw[List.flatten_cons,mem_append,not_or]at nb;exact uB (lv:=lv) (jn (n:=(n:Int)) (l:=l) hw) (lU hw h nb.1) nb.2
def Dk:∀{lv:List Ud}{n k:Nat}{w:Wd},WOk k w->lv.flatten.Nodup->∀{i:Nat}{l:Ud}{b},lv[i]?=!l->b∈l->At (lR lv n w) b ((n+i:Nat):Int)
|[],n,k,w,_,_,i,l,b,h,_=>by simp at h|x::lv,n,k,w,hw,nd,0,l,b,h,hb=>by rw[List.getElem?_cons_zero]at h;cases h;rw[List.flatten_cons]at nd;exact uB (lv:=lv) (jn (n:=(n:Int)) (l:=x) hw) (xX hw hb) λz=>(List.nodup_append.mp nd).2.2 b hb b z rfl|x::lv,n,k,w,hw,nd,i+1,l,b,h,hb=>by rw[List.getElem?_cons_succ]at h;rw[List.flatten_cons]at nd;have:=Dk (lv:=lv) (n:=n+1) (jn (n:=(n:Int)) (l:=x) hw) (List.nodup_append.mp nd).2.1 h hb;rw[show n+1+i=n+(i+1)by omega]at this;exact this
def xY(g:o.flatten.Nodup){i:Nat}(h:o[i]?=!l)(j:b∈l):ax (uA o) (.int b)=!.int (i:Int):=by have:=Dk R4 g h j (n:=0);rw[Nat.zero_add]at this;exact this
def  lh:TZ:=ab (av 2 (aY (bb (cH (x5 (cI 1) (aa dO (cI 10) (cI 9)) (aa dO (cI 10) (cI 18)) (aa dO (cI 10) (cI 27)) (aa dO (cI 10) (cI 36))))) (cH (x5 (cI 1) (aa dO (cI 10) (cI 9)) (aa dO (cI 10) (cI 18)) (aa dO (cI 10) (cI 27)) (aa dO (cI 10) (cI 36)))) (uf (x5 (aZ (cI 1) ac ac) (aZ (aa dO (cI 10) (cI 9)) ac ac) (aZ (aa dO (cI 10) (cI 18)) ac ac) (aZ (aa dO (cI 10) (cI 27)) ac ac) (aZ (aa dO (cI 10) (cI 36)) ac ac))))) (ab (av 3 sC) (ab (dF (jR (x1 (va 1))) (br 4) (ab (av 5 (bo (cI 0))) (ab (cG (ag (aa GX (aa aG (cI 1) (aa aJ (va 4) (cI 16))) (cb (va 0)))) (ab (av 5 (bo (aa ax (va 0) (aa aG (cI 1) (aa aJ (va 4) (cI 16)))))) aB) aB) (ab (cX 3 (bo (aa aJ (aa bv (va 5) (aa ax (va 2) (aa bv (va 4) (cI 16)))) (aa dO (cI 10) (cI 9))))) aB)))) (ab (rJ 3) aB)))
def  fP(eu:Fn):TZ:=ab (cG (yJ (ag (aa mJ (cb (va 0)) (cI 0))) (ag (aa (aP false) (aa aJ (aa ax (va 0) (cI 0)) (cI 2)) (cI 1)))) (gj (j8 eu (x2 (va 0) (va 1)))) aB) (ab (av 2 (bo (cI 7919))) (ab (dF (jX ac (va 0)) (br 3) (ab (av 2 (bo (aa aJ (aa aG (aa aG (aa aM (va 2) (va 2)) (aa aM (aa aJ (va 3) (aa dO (cI 10) (cI 60))) (cI 131))) (cI 17)) (cI 1000000000039)))) aB)) (ab (av 4 sC) (ab (dF (jR (x1 (va 1))) (br 5) (ab (av 2 (bo (aa aJ (aa aG (aa aG (aa aM (va 2) (va 2)) (aa aM (cI 48271) (va 5))) (cI 5)) (cI 1000000000039)))) (ab (pi 4 2 (bo (va 2)) (va 2)) aB))) (ab (dF (jR (x1 (cb (va 0)))) (br 5) (ab (av 7 (aY (aa aG (aa aM (aa ax (va 4) (aa aJ (va 5) (va 1))) (cI 1000003)) (va 5)) (fN (aI (aa aM (aa ax (va 4) (aa aJ (va 5) (va 1))) (cI 1000003)) (bb ac)) (va 5)) ac)) (ab (kP 4 (aa aJ (va 5) (va 1)) (bo (aa aJ (aa aG (va 7) (aa aJ (aa ax (va 0) (va 5)) (aa dO (cI 10) (cI 60)))) (cI 1000000000039))) (aa aJ (aa aG (va 7) (aa aJ (aa ax (va 0) (va 5)) (aa dO (cI 10) (cI 60)))) (cI 1000000000039))) aB))) (ab (av 6 sC) (ab (zv 4 (jX ac (va 4)) (br 7) (ab (cX 6 (bo (aa bv (aa aJ (aa aM (va 7) (va 7)) (cI 998244353)) (cI 7)))) aB)) (ab (rJ 6) aB))))))))
def Dl{i j:Int}(h:0<=j)(h2:j<=1000000)(g:i.natAbs<2^64):dO (.int i) (.int j)=!.int (i^j.toNat):=by unfold dO;exact if_pos #[h,h2,g]
def Tw{j:Int}(h:0<=j)(h2:j<=1000000):∃P:Int,0<P/\dO (.int 10) (.int j)=!.int P:=#[_,Int.pow_pos !2,Dl h h2 !2]
def Ki{i:Nat}{k g R}{Y:Ev}{o:Out}(h:iH i k g Y=!o):kP i k g R Y=!o:=by unfold kP aI;rw[h]
def  Tn(t:Int):Prop:=0<t/\t<2^200
def F9{j:Int}(h:0<=j)(h2:j<=1000000)(g:(10:Int)^j.toNat<2^200):∃P:Int,Tn P/\dO (.int 10) (.int j)=!.int P:=#[_,#[Int.pow_pos !2,g],Dl h h2 !2]
def Ny{i t:Int}(h:Tn t):bv (.int i) (.int t)=!.int (i/t):=uj h.1 (Nat.lt_trans ((Nat.log2_lt (by have:=h.1;lia)).mpr (show t.natAbs<2^200 by have:=h.2;have:=h.1;omega)) !2)
def Ga{a b c d q:Int}(l:Tn a)(j:Tn b)(g:Tn c)(hd:Tn d)(h0:0<=q)(o:q<5):∃t:Int,Tn t/\ax (.lst [.int 1,.int a,.int b,.int c,.int d]) (.int q)=!.int t:=by
 rcases show q=0\/q=1\/q=2\/q=3\/q=4 by lia with rfl|rfl|rfl|rfl|rfl;.exact#[1,#[by decide,by decide],rfl]
 .exact#[a,l,rfl]
 .exact#[b,j,rfl]
 .exact#[c,g,rfl]
 .exact#[d,hd,rfl]
def  wy(f:Fn):Prop:=∀ns:Ud,∃cs:Ud,cs.length=80/\f [aN ns,.int 80]=!(.deep,aN cs)
def Gc:wy (aQ 2 6 lh):=λns=>by
 have hs:az 6 [aN ns,.int 80]=[!(.sh,aN ns),!(.sh,.int 80),none,none,none,none]:=rfl;let[a,T,p]:=F9 (j:=9) (!2) (!2) !2;let[b,b0,I]:=F9 (j:=18) (!2) (!2) !2;let[c,c0,C]:=F9 (j:=27) (!2) (!2) !2;let[d,d0,r]:=F9 (j:=36) (!2) (!2) !2;have L:=kT (n:=80) (s:=4) (v:=λi=>(i:Int)) (J:=jR (x1 (va 1))) (F:=ab (av 5 (bo (cI 0))) (ab (cG (ag (aa GX (aa aG (cI 1) (aa aJ (va 4) (cI 16))) (cb (va 0)))) (ab (av 5 (bo (aa ax (va 0) (aa aG (cI 1) (aa aJ (va 4) (cI 16)))))) aB) aB) (ab (cX 3 (bo (aa aJ (aa bv (va 5) (aa ax (va 2) (aa bv (va 4) (cI 16)))) (aa dO (cI 10) (cI 9))))) aB))) (Y:=[!(.sh,aN ns),!(.sh,.int 80),!(.deep,.lst [.int 1,.int a,.int b,.int c,.int d]),!(.deep,.lst []),none,none]) (λi Y=>∃o l,∃cs:Ud,cs.length=i/\Y=[!(.sh,aN ns),!(.sh,.int 80),!(.deep,.lst [.int 1,.int a,.int b,.int c,.int d]),!(.deep,aN cs),o,l]) (gQ (by simp;exact bN !2)) #[none,none,[],rfl,rfl] (by
   rintro i Y hi⟨o,l,cs,g,rfl⟩;let[t,U,et]:=Ga T b0 c0 d0 (q:=(i:Int)/16) (by lia) (by lia);have hm:=md (i:Int) (show(0:Int)<16 by decide);have key:∃x:Int,(cG (ag (aa GX (aa aG (cI 1) (aa aJ (va 4) (cI 16))) (cb (va 0)))) (ab (av 5 (bo (aa ax (va 0) (aa aG (cI 1) (aa aJ (va 4) (cI 16)))))) aB) aB) [!(.sh,aN ns),!(.sh,.int 80),!(.deep,.lst [.int 1,.int a,.int b,.int c,.int d]),!(.deep,aN cs),!(.sh,.int (i:Int)),!(.deep,.int 0)]=!.nx [!(.sh,aN ns),!(.sh,.int 80),!(.deep,.lst [.int 1,.int a,.int b,.int c,.int d]),!(.deep,aN cs),!(.sh,.int (i:Int)),!(.deep,.int x)]:=by
    by_cases h:1+(i:Int)%16<(ns.length:Int)
    .let[x,ex]:=jN (ns:=ns) (i:=1+(i:Int)%16) (by lia) h;refine#[x,(ifS_t ?_).trans ((ai (bj (evX_lf (d:=.int x) ?_ rfl))).trans rfl)];.simp[eW _ 16,h]
     .simp[eW _ 16,ex]
    .refine#[0,(dQ ?_).trans rfl];simp[eW _ 16,h]
   let[x,ex]:=key;refine#[_,(ai (bj (evX_lf (d:=.int 0) rfl rfl))).trans ((ai ex).trans (ai (bP (ds:=cs.map D.int) (ds0:=cs.map D.int) (c0:=.deep) (d:=.int (x/t%a)) rfl (evX_lf ?_ rfl) rfl ?_))),#[!(.sh,.int i),!(.deep,.int x),cs++[x/t%a],by simp[g],?_]];.simp[bK,et,Ny U,p,eg T.1]
   .rw[length_map,g];exact Ux (show i+1<=80 by lia) !2 
   .simp only[aN,List.map_append];rfl);let[Y',e,o,l,cs,g,rfl]:=L;refine#[cs,g,ar rfl ?_];unfold lh;rw[hs];refine(ai (bj (evX_lfs (d:=.lst [.int 1,.int a,.int b,.int c,.int d]) (ds:=[.int 1,.int a,.int b,.int c,.int d]) (by simp[p,I,C,r]) rfl (by simp[p,I,C,r]) rfl))).trans ((ai (bj !9)).trans ((ai e).trans (seqF_rt ?_)));rfl
def  se(f:Fn):Prop:=∀ns:Ud,ns.length<1000->∃cs:Ud,cs.length=80/\f [aN ns,.int 80]=!(.deep,aN cs)
def Dm{pa}(hp:wy pa):se (aQ 2 8 (fP pa)):=λns hn=>by
 have hs:az 8 [aN ns,.int 80]=[!(.sh,aN ns),!(.sh,.int 80),none,none,none,none,none,none]:=rfl;let[P,P0,eP]:=Tw (j:=60) (!2) !2;have hT:∃c:Bool,yJ (ag (aa mJ (cb (va 0)) (cI 0))) (ag (aa (aP false) (aa aJ (aa ax (va 0) (cI 0)) (cI 2)) (cI 1))) [!aN ns,!.int 80,none,none,none,none,none,none]=!c:=by
  by_cases h:(0:Int)<(ns.length:Int);.let[x,ex]:=jN (ns:=ns) (i:=0) (!2) h;refine#[decide (x%2=1),?_];simp[ex,eW _ 2];intro e;subst e;simp at h
  .refine#[false,?_];simp;intro e;lia
 let[c,hT]:=hT;cases c with
|true=>
  let[cs,l,e]:=hp ns;refine#[cs,l,ar rfl ?_];unfold fP;rw[hs];refine seqF_rt ((ifS_t hT).trans (seqF_rt (b9 (evX_call (d:=aN cs) (e:=aN cs) ?_ rfl rfl ?_))));.simp[e]
  .simp[e]|false=>
  have L1:=jk (J:=jX ac (va 0)) (tg:=br 3) (F:=ab (av 2 (bo (aa aJ (aa aG (aa aG (aa aM (va 2) (va 2)) (aa aM (aa aJ (va 3) (aa dO (cI 10) (cI 60))) (cI 131))) (cI 17)) (cI 1000000000039)))) aB) (ds:=ns.map D.int) (Y:=[!(.sh,aN ns),!(.sh,.int 80),!(.deep,.int 7919),none,none,none,none,none]) (λi Y=>∃v o,0<=v/\v<1000000000039/\Y=[!(.sh,aN ns),!(.sh,.int 80),!(.deep,.int v),o,none,none,none,none]) (by simp) #[7919,none,by decide,by decide,rfl] (by rintro i d Y hd⟨v,o,h1,h2,rfl⟩;rw[getElem?_map]at hd;cases hq:ns[i]?with
|none=>rw[hq]at hd;cases hd|some p=>rw[hq]at hd;cases hd;refine#[_,ai (bj (evX_lf (d:=.int ((v*v+p%P*131+17)%1000000000039)) ?_ rfl)),#[_,_,Int.emod_nonneg _ !2,Int.emod_lt_of_pos _ !2,rfl]];simp[wn h1 h2,eP,eg P0,gB (show(-1000000:Int)<131 by decide) (show(131:Int)<1000000 by decide)];exact eg !2);let[Y1,e1,v1,C,g1,g2,rfl]:=L1;have L2:=kT (J:=jR (x1 (va 1))) (s:=5) (v:=λi=>(i:Int)) (n:=80) (F:=ab (av 2 (bo (aa aJ (aa aG (aa aG (aa aM (va 2) (va 2)) (aa aM (cI 48271) (va 5))) (cI 5)) (cI 1000000000039)))) (ab (pi 4 2 (bo (va 2)) (va 2)) aB)) (Y:=[!(.sh,aN ns),!(.sh,.int 80),!(.deep,.int v1),C,!(.deep,.lst []),none,none,none]) (λi Y=>∃v o,∃cs:Ud,cs.length=i/\(∀c∈cs,0<=c/\c<1000000000039)/\0<=v/\v<1000000000039/\Y=[!(.sh,aN ns),!(.sh,.int 80),!(.deep,.int v),C,!(.deep,aN cs),o,none,none]) (gQ (by simp;exact bN !2)) #[v1,none,[],rfl,(λ_ h=>nomatch h),g1,g2,rfl] (by
    rintro i Y hi⟨v,o,cs,r,t,h1,h2,rfl⟩;have hi':(i:Int)<1000000:=by lia
    refine#[_,(ai (bj (evX_lf (d:=.int ((v*v+48271*i+5)%1000000000039)) ?_ rfl))).trans (ai (qi (ds:=cs.map D.int) (ds0:=cs.map D.int) (c0:=.deep) (d:=.int ((v*v+48271*i+5)%1000000000039)) rfl (evX_lf rfl rfl) rfl (by rw[length_map,r];exact Nat.lt_trans (show i+1<1001 by lia) !2))),#[(v*v+48271*i+5)%1000000000039,!(.sh,.int i),cs++[(v*v+48271*i+5)%1000000000039],by simp[r],λc hc=>(mem_append.mp hc).elim (t c) λh=>by rw[mem_singleton.mp h];exact md _ !2,Int.emod_nonneg _ !2,Int.emod_lt_of_pos _ !2,?_]];.simp[vw_o,wn h1 h2,gB (by lia) hi'];exact eg !2 
    .simp only[aN,List.map_append];rfl);let[Y2,e2,v2,o2,I,l2,b2,_,_,rfl]:=L2;have L3:=kT (J:=jR (x1 (cb (va 0)))) (s:=5) (v:=λi=>(i:Int)) (n:=ns.length) (F:=ab (av 7 (aY (aa aG (aa aM (aa ax (va 4) (aa aJ (va 5) (va 1))) (cI 1000003)) (va 5)) (fN (aI (aa aM (aa ax (va 4) (aa aJ (va 5) (va 1))) (cI 1000003)) (bb ac)) (va 5)) ac)) (ab (kP 4 (aa aJ (va 5) (va 1)) (bo (aa aJ (aa aG (va 7) (aa aJ (aa ax (va 0) (va 5)) (aa dO (cI 10) (cI 60)))) (cI 1000000000039))) (aa aJ (aa aG (va 7) (aa aJ (aa ax (va 0) (va 5)) (aa dO (cI 10) (cI 60)))) (cI 1000000000039))) aB)) (Y:=[!(.sh,aN ns),!(.sh,.int 80),!(.deep,.int v2),C,!(.deep,aN I),o2,none,none]) (λi Y=>∃o T,∃cs:Ud,cs.length=80/\(∀c∈cs,0<=c/\c<1000000000039)/\Y=[!(.sh,aN ns),!(.sh,.int 80),!(.deep,.int v2),C,!(.deep,aN cs),o,none,T]) (gQ (by simp;exact bN (by lia))) #[o2,none,I,l2,b2,rfl] (by
    rintro i Y hi⟨o,T,cs,r,t,rfl⟩;have U:=md (i:Int) (show(0:Int)<80 by decide);let[x,ex]:=jN (ns:=cs) U.1 (by rw[r];exact U.2);let[y,ey]:=jN (ns:=ns) (i:=(i:Int)) (by lia) (by lia);refine#[_,(ai (bj (evX_lf (d:=.int (x*1000003+i)) ?_ rfl))).trans (ai (Ki (mF (ds:=cs.map D.int) (k:=(i:Int)%80) (d:=.int ((x*1000003+i+y%P)%1000000000039)) (evX_lf ?_ rfl) rfl ?_ U.1 (by rw[length_map,r];exact U.2)))),#[!(.sh,.int i),!(.deep,.int (x*1000003+i)),cs.set ((i:Int)%80).toNat ((x*1000003+i+y%P)%1000000000039),by simp[r],λc hc=>(List.mem_or_eq_of_mem_set hc).elim (t c) λh=>by rw[h];exact md _ !2,?_]];.simp[vw_o,eW _ 80,ex,Cw]
    .simp[vw_o,ey,eP,eg P0];exact eg !2 
    .simp[vw_o,eW _ 80]
    .simp only[aN,List.map_set];rfl);let[Y3,e3,o3,T,g,l3,b3,rfl]:=L3;refine#[g.map λc=>c*c%998244353/7,by rw[length_map,l3],ar rfl ?_];unfold fP;rw[hs];refine(ai ((dQ hT).trans rfl)).trans ((ai (bj (evX_lf (d:=.int 7919) rfl rfl))).trans ((ai e1).trans ((ai (bj !9)).trans ((ai e2).trans ((ai e3).trans ((ai (bj !9)).trans (J6 (xs:=g) (mk:=D.int) (λi Y=>∃o,Y=[!(.sh,aN ns),!(.sh,.int 80),!(.deep,.int v2),C,!(.sh,aN g),o3,!(.deep,aN ((g.take i).map λc=>c*c%998244353/7)),o]) ?_ ?_ #[T,rfl] ?_ ?_)))))));.simp only[set_cons_succ,set_cons_zero,xO,jX_none,va_a,shAt_s,shAt_0];rfl
  .simp only[set_cons_succ,set_cons_zero];rfl
  .rintro i x Y hx⟨o,rfl⟩;have t:=b3 x (UH hx);refine#[_,ai (bP (ds:=((g.take i).map λc=>c*c%998244353/7).map D.int) (ds0:=((g.take i).map λc=>c*c%998244353/7).map D.int) (c0:=.deep) (d:=.int (x*x%998244353/7)) rfl (evX_lf ?_ rfl) rfl ?_),#[!(.sh,.int x),?_]];.simp[vw_o,wn t.1 t.2,eg,bK]
   .rw[length_map,length_map,List.length_take];exact Ux (show min i g.length+1<=1000 by lia) !2 
   .rw[List.take_add_one,hx];simp only[aN,List.map_append];rfl
  .rintro Y⟨o,rfl⟩;rw[List.take_length];rfl
def  iV(lW:Fn):TZ:=ab (av 4 sC) (ab (dF (jX (K5 (x1 (va 0))) (bJ ke (x1 (va 0)))) (yR 2 (cx (br 5) (cx (br 6) mM))) (ab (cG (ag (aa nz (va 1) (aa ax (va 6) (cI 1)))) (ab (av 7 (bo (GY (ag (aa (aP false) (aa ax (va 6) (cI 0)) (cS "queue"))) (cI 1) (Qr (cI 1))))) (ab (nN 4 (bb (au [8,9] (jX ac (va 3)) (nE 2 (aC (bc 8) (aC (bc 9) cv))) tQ (dA (x2 (aa aG (aa aM (va 5) (va 2)) (bu lW (x3 (aa ax (va 6) (cI 0)) (va 2) (va 8)))) (aa aM (va 7) (va 9))))))) aB)) aB) aB)) (ab (rJ 4) aB))
def  li(fl:Str->Str->Bool)(df bM:Fn):TZ:=ab (av 3 (j8 bM (x1 (slF (flF fl "passes" (va 0)) noP (partF (va 2)))))) (ab (av 4 (aY (bb (cH (x1 (dA (x2 (aa cA (va 3) (cI 1)) (cI 1)))))) (cH (x1 (dA (x2 (aa cA (va 3) (cI 1)) (cI 1))))) (uf (x1 (aZ (dA (x2 (aa cA (va 3) (cI 1)) (cI 1))) ac (oi (x2 (aZ (aa cA (va 3) (cI 1)) ac ac) (aZ (cI 1) ac ac)))))))) (ab (dF (jX ac (slF (flF fl "passes" (va 0)) (partF (va 2)) noP)) (br 5) (ab (av 4 (j8 df (x4 (va 5) (va 1) (va 3) (va 4)))) (ab (av 3 (bo (aa aM (va 3) (cb (va 5))))) aB))) (gj (aY (sA (!13) (sy !13)) (sy !13) (gT !13)))))
def  jP(ce ju aK:Fn):TZ:=ab (mB (bu aK (x2 (va 0) (va 1)))) (ab (av 3 (j8 ju (x2 (va 1) (va 2)))) (gj (aY (bb (au [4,5] (jX ac (bu ce (x3 (va 0) (aa ax (aa ax (va 1) (va 2)) (cI 0)) (aa ax (aa ax (va 1) (va 2)) (cI 1))))) (nE 2 (aC (bc 4) (aC (bc 5) cv))) tQ (dA (x2 (va 4) (aa aM (va 5) (va 3)))))) (au [4,5] (jX ac (bu ce (x3 (va 0) (aa ax (aa ax (va 1) (va 2)) (cI 0)) (aa ax (aa ax (va 1) (va 2)) (cI 1))))) (nE 2 (aC (bc 4) (aC (bc 5) cv))) tQ (dA (x2 (va 4) (aa aM (va 5) (va 3))))) (zN [4,5] (jX ac (bu ce (x3 (va 0) (aa ax (aa ax (va 1) (va 2)) (cI 0)) (aa ax (aa ax (va 1) (va 2)) (cI 1))))) (nE 2 (aC (bc 4) (aC (bc 5) cv))) tQ (aZ (dA (x2 (va 4) (aa aM (va 5) (va 3)))) ac (oi (x2 (aZ (va 4) ac ac) (aZ (aa aM (va 5) (va 3)) ac ac))))))))
def  bL(dH:Fn):TZ:=ab (dF (jX ac (bu dH (x3 (va 0) (va 1) (va 2)))) (br 4) (ab (cG (kc (ag (aa (fj false) (va 3) cN)) (ag (aa mJ (va 4) (va 3)))) (ab (rJ 4) aB) aB) aB)) (gj (bo cN))
def wz(S:List Sd):dS (S.map sdD)=true:=ca λd hd=>by let[p,_,rfl]:=UA.mp hd;rfl
def wA(h:p[k]?=!a):gC p k=a:=by unfold gC;rw[List.getD_eq_getElem?_getD,h];rfl
def zJ{S:List Sd}(i:Nat):((List.range i).flatMap λk=>if s<=(gC p k).2 then S.map (bZ n k (gC p k))else[]).length<=i*S.length:=by induction i with
|zero=>exact Nat.le_of_eq (by simp)|succ i g=>
  rw[List.range_succ,List.flatMap_append,length_append,Nat.succ_mul];have:(List.flatMap (λk=>if s<=(gC p k).2 then S.map (bZ n k (gC p k))else[]) [i]).length<=S.length:=by
   rw[List.flatMap_cons,List.flatMap_nil,List.append_nil];split;.rw[length_map];exact UI _
   .exact Nat.zero_le _
  omega
def  sf(f:Fn):Prop:=∀(p:List Pk)(s:Int)(n:Nat)(S:List Sd),p.length<=6->n<=1000->S.length<=1000->f [iL p,.int s,.int (n:Int),.lst (S.map sdD)]=!(.deep,.lst ((C9 s n p S).map sdD))
def Dn{la}(hl:ql la):sf (aQ 4 10 (iV la)):=λp s n S hp hn hS=>by
 have hs:az 10 [iL p,.int s,.int (n:Int),.lst (S.map sdD)]=[!(.sh,iL p),!(.sh,.int s),!(.sh,.int (n:Int)),!(.sh,.lst (S.map sdD)),none,none,none,none,none,none]:=rfl;refine ar rfl ?_;rw[hs];unfold iV;refine q_set (!9) (q_forB (xs:=p.zipIdx) (mk:=λq=>.tup [.int (q.2:Nat),fz q.1]) (λi Y=>∃U J r,Y=[!(.sh,iL p),!(.sh,.int s),!(.sh,.int (n:Int)),!(.sh,.lst (S.map sdD)),!(.deep,.lst (((List.range i).flatMap λk=>if s<=(gC p k).2 then S.map (bZ n k (gC p k))else[]).map sdD)),U,J,r,none,none]) ?_ #[none,none,none,rfl] ?_ ?_);.refine Nm ?_;show(seqD (iL p)).bind (λxs=>!mC xs)=_;rw[show seqD (iL p)=some (p.map fz)from rfl,Option.bind_some,qp]
 .rintro i⟨⟨b,w⟩,j⟩Y l⟨U,J,r,rfl⟩;obtain⟨g,hq2⟩:p[i]?=!(b,w)/\i=j:=by rw[List.getElem?_zipIdx]at l;cases e:p[i]?with
|none=>rw[e]at l;cases l|some a=>rw[e]at l;cases l;exact#[rfl,by simp]
  subst hq2;have hi:i<p.length:=(Us.mp g).1;have pk:=wA g;have x0:ax (fz (b,w)) (.int 0)=!.str (kd b):=jL _ _;have x1:ax (fz (b,w)) (.int 1)=!.int w:=om _ _ _;have e1:((List.range (i+1)).flatMap λk=>if s<=(gC p k).2 then S.map (bZ n k (gC p k))else[])=((List.range i).flatMap λk=>if s<=(gC p k).2 then S.map (bZ n k (gC p k))else[])++if s<=w then S.map (bZ n i (b,w))else[]:=by rw[List.range_succ,List.flatMap_append];simp[pk]
  have o:=zJ (s:=s) (n:=n) (p:=p) (S:=S) i;have hlen2:i*S.length<=6*1000:=Nat.mul_le_mul (by lia) hS;rw[e1];generalize((List.range i).flatMap λk=>if s<=(gC p k).2 then S.map (bZ n k (gC p k))else[])=T at o;by_cases C:s<=w
  .rw[if_pos C];obtain⟨t,I,ht1⟩:∃t:Int,(if b then 1 else-1)=t/\(t=1\/t=-1):=#[_,rfl,by cases b<;>simp];have mi:aM (.int (i:Int)) (.int (n:Int))=!.int ((i:Int)*(n:Int)):=gB (by lia) (by lia);refine kW (b:=true) (by simp[vw_o,x1,C]) #[_,q_set (evX_lf (d:=.int t) ?_ rfl) (q_st (qr (ds:=T.map sdD) (es:=(S.map (bZ n i (b,w))).map sdD) rfl ?_ (wz _) ?_) rfl),#[_,rfl,#[!(.sh,.int (i:Int)),!(.sh,fz (b,w)),!(.deep,.int t),?_]]];.simp only[sB,Cs,x0,Hv];cases b with
|true=>
     have e:decide (kd true="queue")=true:=by decide+kernel
     simp only[e];subst I;rfl|false=>
     have e:decide (kd false="queue")=false:=by decide+kernel
     simp only[e];subst I;rfl
   .have hc:au [8,9] (jX ac (va 3)) (nE 2 (aC (bc 8) (aC (bc 9) cv))) tQ (dA (x2 (aa aG (aa aM (va 5) (va 2)) (bu la (x3 (aa ax (va 6) (cI 0)) (va 2) (va 8)))) (aa aM (va 7) (va 9)))) [!iL p,!.int s,!.int (n:Int),!.lst (S.map sdD),none,!.int (i:Int),!fz (b,w),!.int t,none,none]=!S.map λc=>sdD (bZ n i (b,w) c):=by
     refine aE (xs:=S) (mk:=sdD) (out:=λc=>sdD (bZ n i (b,w) c)) (by simp) (λc _=>?_) (Ux hS !2);have mt:aM (.int t) (.int c.2)=!.int (t*c.2):=rL (by lia) (by lia);simp[sdD,mi,x0,hl b (n:Int) c.1,mt];cases b with
|true=>subst I;simp[bZ,Hy]|false=>subst I;simp[bZ,Hy]
    show bb _ [!iL p,!.int s,!.int (n:Int),!.lst (S.map sdD),none,!.int (i:Int),!fz (b,w),!.int t,none,none]=_;rw[lsF_a,hc,List.map_map];rfl
   .rw[length_map,length_map,length_map];exact Ux (show T.length+S.length<=10000 by lia) !2 
   .rw[List.map_append];rfl
  .rw[if_neg C];refine kW (b:=false) (by simp[vw_o,x1,C]) #[_,rfl,#[_,rfl,#[!(.sh,.int (i:Int)),!(.sh,fz (b,w)),r,?_]]];rw[List.append_nil];rfl
 .rintro Y⟨U,J,r,rfl⟩;rw[List.length_zipIdx];rfl
def  wB(f:Fn):Prop:=∀(ps:T3)(s:Int)(t:Nat),Valid ps->prod ps<64->t<=ps.length->∃T:List Sd,T.Perm (uy s (prod !30) !4)/\T.Pairwise (λa b=>HT.lexLt [b.1,b.2] [a.1,a.2]=false)/\f [ak ps,.int s,.int (t:Int)]=!(.deep,.lst (T.map sdD))
def jp{α:Type}(l:List α)(t i:Nat)(a:α)(h:(l.drop t)[i]?=!a):(l.drop t).take (i+1)=(l.drop t).take i++[a]:=by rw[List.take_add_one,h];rfl
def iW(ps:T3)(t i:Nat):prod (!30)*prod ((!4).take i)=prod (ps.take (t+i)):=by rw[<-cL,List.take_add]
def jq(l:Valid ps)(k:Nat):prod (ps.take k)<=prod ps:=by
 have e:prod ps=prod (ps.take k)*prod (ps.drop k):=by rw[<-cL,List.take_append_drop]
 have h1:1<=prod (ps.drop k):=by
  have:∀g:T3,(∀p∈g,p∈ps)->1<=prod g:=λg=>by induction g with
|nil=>intro _;decide|cons p g j=>intro h;exact Nat.mul_pos (l.p (h p Ut)).1 (j λq o=>h q (Uu _ o))
  exact this _ λp r=>List.mem_of_mem_drop r
 rw[e];exact Nat.le_mul_of_pos_right _ h1
def oC(l:Valid ps)(t i:Nat):1<=prod ((!4).take i):=by
 have:∀g:T3,(∀p∈g,p∈ps)->1<=prod g:=λg=>by induction g with
|nil=>intro _;decide|cons p g j=>intro h;exact Nat.mul_pos (l.p (h p Ut)).1 (j λq o=>h q (Uu _ o))
 grind
def Do(g:Valid ps)(s:Int)(t i:Nat):(uy s (prod !30) ((!4).take i)).length<=prod ps:=by refine Uy (F3 _ _ _) ?_;exact Uy (Nat.le_mul_of_pos_left _ (by have:=oC g 0 t;rwa[List.drop_zero]at this)) (Uy (Nat.le_of_eq (iW ps t i)) (jq g (t+i)))
def Q6(g:j "Mill" "passes"=true){t:Nat}(h0:aO Y 0=!ak ps)(h1:aO Y 2=!.int (t:Int)):slF (flF j "passes" (va 0)) noP (partF (va 2)) Y=!.tup ((!30).map iL):=by unfold slF aI qU;simp[h0,h1,iM g,fB,kR]
def Q7(g:j "Mill" "passes"=true){t:Nat}(h0:aO Y 0=!ak ps)(h1:aO Y 2=!.int (t:Int)):slF (flF j "passes" (va 0)) (partF (va 2)) noP Y=!.tup ((!4).map iL):=by unfold slF aI qU;simp[h0,h1,iM g,fB,ou]
def zK(C:j6 co)(t:∀p∈ps,p.length<1000):co [.tup (ps.map iL)]=!(.deep,.int (prod ps:Nat)):=by
 have l:(ps.map λp=>(false,p)).map (·.2)=ps:=by rw[List.map_map];exact List.map_id ps
 have j:(ps.map λp=>(false,p)).map rO=ps.map iL:=by rw[List.map_map];rfl
 have q:=C false (ps.map λp=>(false,p)) λp g=>by let[r,o,rfl]:=UA.mp g;exact t r o
 rw[l,j]at q;exact q
def Gd{fl sb co}(C:fl "Mill" "passes"=true)(J:sf sb)(hco:j6 co):wB (aQ 3 6 (li fl sb co)):=λps s t l h64 ht=>by
 have hs:az 6 [ak ps,.int s,.int (t:Int)]=[!(.sh,ak ps),!(.sh,.int s),!(.sh,.int (t:Int)),none,none,none]:=rfl;obtain⟨g,j⟩:∃n,n=prod !30:=#[_,rfl];have ec:co [.tup ((!30).map iL)]=!(.deep,.int (g:Nat)):=by rw[j];exact zK hco λp r=>by have:=(l.p (List.mem_of_mem_take r)).2.1;lia
 have hle:∀i,g*prod ((!4).take i)<=prod ps:=λi=>by rw[j,iW];exact jq l _
 have o:∀i,(uy s g ((!4).take i)).length<=prod ps:=λi=>by rw[j];exact Do l s t i
 let[T,h1,h2,h3]:=F0 (S:=uy s g !4) (by have:=o (!4).length;rw[List.take_length]at this;lia);rw[<-j];refine#[T,h1,h2,ar rfl ?_];rw[hs];unfold li;refine q_set (evX_lf (d:=.int (g:Int)) ?_ rfl) (q_set (evX_lfs (d:=.lst [sdD ((g:Int)-1,1)]) (ds:=[sdD ((g:Int)-1,1)]) ?_ rfl ?_ rfl) (q_forB (xs:=ps.drop t) (mk:=iL) (λi Y=>∃I,Y=[!(.sh,ak ps),!(.sh,.int s),!(.sh,.int (t:Int)),!(.deep,.int ((g*prod ((!4).take i):Nat):Int)),!(.deep,.lst ((uy s g ((!4).take i)).map sdD)),I]) ?_ #[none,?_] ?_ ?_));.simp only[sB,(Q6 C (Y:=[!ak ps,!.int s,!.int (t:Int),none,none,none]) (ps:=ps) (t:=t) rfl rfl),ec]
 .simp[sdD]
 .simp[sdD]
 .show jX ac _ (bV _)=_;rw[jX_none,Q7 C rfl rfl];rfl
 .have e:g*prod ((!4).take 0)=g:=Nat.mul_one g;rw[e];rfl
 .rintro i p Y r⟨I,rfl⟩;have U:p∈ps:=List.mem_of_mem_drop (UH r);have hl6:=(l.p U).2.1;have hb:=hle i;have hc:=l.codes;have e:=J p s (g*prod ((!4).take i)) (uy s g ((!4).take i)) hl6 (by lia) (by have:=o i;lia);rw[<-Da,<-jp ps t i p r]at e;refine#[_,q_set (evX_call (d:=.lst ((uy s g ((!4).take (i+1))).map sdD)) (e:=.lst ((uy s g ((!4).take (i+1))).map sdD)) ?_ rfl rfl ?_) (q_set (evX_lf (d:=.int ((g*prod ((!4).take i)*p.length:Nat):Int)) ?_ rfl) rfl),#[!(.sh,iL p),?_]];.simp only[sB,e]
  .simp only[sB,e,wc]
  .have y:seqD (iL p)=!p.map fz:=rfl;simp only[sB,dZ,y,length_map,xM (show g*prod ((!4).take i)<1000000 by lia)]
  .rw[jp ps t i p r,bQ,<-Nat.mul_assoc];rfl
 .rintro Y⟨I,rfl⟩;rw[List.take_length];have s1:sy (!13) (vw [!(.sh,ak ps),!(.sh,.int s),!(.sh,.int (t:Int)),!(.deep,.int ((g*prod !4:Nat):Int)),!(.deep,.lst ((uy s g !4).map sdD)),I])=!T.map sdD:=by show(x1 (va 4) _).bind c7=_;simp only[sB,h3]
  refine q_ret (evX_lfs (d:=.lst (T.map sdD)) (ds:=T.map sdD) (liG_l s1) rfl s1 (wz T))
noncomputable abbrev Lz:=Int×Nat
def  qC(l:Lz):D:=.tup [.int l.1,.int (l.2:Int)]
def  ay(ls:List Lz):D:=.lst (ls.map qC)
structure LzOk(ps:T3)(l:Lz):Prop where
 s1:1<=l.1s9:l.1<=9t:l.2<=ps.length
def  oE(f:Fn):Prop:=∀(ps:T3)(l:Lz),LzOk ps l->f [ak ps,qC l]=!(.deep,.bl true)
def zL(p:xL j)(o:CH g):oE (aQ 2 2 (uv j g)):=λps l h=>by
 refine ar rfl ((ai ((dQ ?_).trans rfl)).trans (seqF_rt (b9 (evX_lf ?_ rfl))));.simp[az,qC]
 .simp[az,qC,o l.1,p ps l.2 h.t,h.s1,h.s9]
def  oF(f:Fn):Prop:=∀(ps:T3)(ls:List Lz),ls.length<=24->(∀l∈ls,LzOk ps l)->f [ak ps,ay ls]=!(.deep,.non)
def Ge(r:oE le):oF (aQ 2 3 (kU le)):=λps ls j h=>by
 have o:az 3 [ak ps,ay ls]=[!_,!_,none]:=rfl;refine ul rfl (Y:=az 3 [ak ps,ay ls]) ?_;rw[o];refine(ai ((dQ ?_).trans rfl)).trans ((ai ((dQ ?_).trans rfl)).trans rfl)
 .have h':¬(24:Int)<(ls.length:Int):=by lia
  simp[ay,h']
 .have p:au [2] (jX ac (va 1)) (bc 2) tQ (bu le (x2 (va 0) (va 2))) [!ak ps,!ay ls,none]=!ls.map λ_=>.bl true:=by refine aE (mk:=qC) (by simp[ay]) (λl g=>?_) (Ux j !2);simp[r ps l (h l g)]
  simp[p,iK ls λ_=>true]
def Dp{k:Nat}(h:ls[k]?=!l):ax (ay ls) (.int (k:Int))=!qC l:=bn h
def  wC(f:Fn):Prop:=∀(ls:List Lz)(k:Nat)(l:Lz),ls.length<=24->ls[k]?=!l->f [ay ls,.int (k:Int)]=!(.deep,.int ((k:Int)+(ls.length:Int)*(l.2:Int)))
def Gg:wC (aQ 2 2 qo):=λls k l r p=>by have o:az 2 [ay ls,.int (k:Int)]=[!(.sh,ay ls),!(.sh,.int (k:Int))]:=rfl;have x1:ax (qC l) (.int 1)=!.int (l.2:Int):=om _ _ _;have j:=Dp p;have g:seqD (ay ls)=!ls.map qC:=rfl;refine ar rfl ?_;rw[o];unfold qo;refine seqF_rt (b9 (evX_lf (d:=.int ((k:Int)+(ls.length:Int)*(l.2:Int))) ?_ rfl));simp only[sB,j,x1,g,dZ,length_map,wq (show ls.length<1000000 by lia)]
abbrev rnk(ls:List Lz)(k:Nat)(l:Lz):Int:=(k:Int)+(ls.length:Int)*(l.2:Int)
def  wE(f:Fn):Prop:=∀(ps:T3)(ls:List Lz)(k:Nat)(l:Lz),Valid ps->prod ps<64->ls.length<=24->(∀l∈ls,LzOk ps l)->ls[k]?=!l->∃T:List Sd,T.Perm (uy l.1 (prod (ps.take l.2)) (ps.drop l.2))/\T.Pairwise (λa b=>HT.lexLt [b.1,b.2] [a.1,a.2]=false)/\f [ak ps,ay ls,.int (k:Int)]=!(.deep,.lst ((T.map (rkd (rnk ls k l))).map sdD))
def HC(j:Valid ps)(g:ls.length<=24)(h:LzOk ps l)(o:ls[k]?=!l):0<=rnk ls k l/\rnk ls k l<1000:=by have h1:=(Us.mp o).1;have h2:=h.t;have r:=j.len;have p:ls.length*l.2<=24*6:=Nat.mul_le_mul g (by lia);unfold rnk;lia
def Gh{os rk lo}(r:wB os)(p:wC rk)(C:oF lo):wE (aQ 3 6 (jP os rk lo)):=λps ls k l o I g h j=>by
 have hs:az 6 [ak ps,ay ls,.int (k:Int)]=[!(.sh,ak ps),!(.sh,ay ls),!(.sh,.int (k:Int)),none,none,none]:=rfl;have J:=h l (UH j);let[T,h1,h2,h3]:=r ps l.1 l.2 o I J.t;have x0:ax (qC l) (.int 0)=!.int l.1:=jL _ _;have x1:ax (qC l) (.int 1)=!.int (l.2:Int):=om _ _ _;have y1:=Dp j;have hr:=HC o g J j;have er:=p ls k l g j;have hT:T.length<big:=by rw[h1.length_eq];refine Ux (?_:_<=1000) !2;have:=Do o l.1 l.2 (ps.drop l.2).length;rw[List.take_length]at this;lia
 have U:au [4,5] (jX ac (bu os (x3 (va 0) (aa ax (aa ax (va 1) (va 2)) (cI 0)) (aa ax (aa ax (va 1) (va 2)) (cI 1))))) (nE 2 (aC (bc 4) (aC (bc 5) cv))) tQ (dA (x2 (va 4) (aa aM (va 5) (va 3)))) [!ak ps,!ay ls,!.int (k:Int),!.int (rnk ls k l),none,none]=!T.map λc=>sdD (rkd (rnk ls k l) c):=by
  refine aE (xs:=T) (mk:=sdD) (out:=λc=>sdD (rkd (rnk ls k l) c)) ?_ (λc _=>?_) hT;.simp only[sB,jX_none,y1,x0,x1,h3,Cv]
  .have m:aM (.int c.2) (.int (rnk ls k l))=!.int (c.2*rnk ls k l):=gB (!6) !6;simp[sdD,rkd,m]
 refine#[T,h1,h2,ar rfl ?_];rw[hs];unfold jP;refine rR (d:=.non) ?_ (q_set (evX_lf (d:=.int (rnk ls k l)) ?_ rfl) (q_ret (evX_lfs (d:=.lst ((T.map (rkd (rnk ls k l))).map sdD)) (ds:=(T.map (rkd (rnk ls k l))).map sdD) ?_ rfl ?_ (wz _))));.simp only[sB,C ps ls g h]
 .simp only[sB,er]
 .show bb _ [!ak ps,!ay ls,!.int (k:Int),!.int (rnk ls k l),none,none]=_;rw[lsF_a,U,List.map_map];rfl
 .show au _ _ _ _ _ [!ak ps,!ay ls,!.int (k:Int),!.int (rnk ls k l),none,none]=_;rw[U,List.map_map];rfl
def  bD:Option Sd->D
|none=>.non|some q=>sdD q
def  pC(b:Option Sd)(p:Sd):Bool:=match b with
|none=>true|some q=>HT.lexLt [q.1,q.2] [p.1,p.2]
def forD_find{α:Type}{step}{p}{mk}{I:Ev->Prop}:∀(xs:List α)(Y:Ev),I Y->(∀x Y,I Y->(p x=true->step (mk x) Y=!.rt (.sh,mk x))/\(p x=false->∃Y',step (mk x) Y=!.nx Y'/\I Y'))->(∃x,xs.find? p=!x/\cC step (xs.map mk) Y=!.rt (.sh,mk x))\/xs.find? p=none/\∃Y',cC step (xs.map mk) Y=!.nx Y'/\I Y'
|[],Y,h,_=>.inr #[rfl,Y,rfl,h]|x::xs,Y,h,hs=>by rw[List.find?_cons,List.map_cons];unfold cC;cases e:p x with
|true=>exact .inl #[x,rfl,by rw[(hs x Y h).1 e];rfl]|false=>let[Y',e1,h1]:=(hs x Y h).2 e;rw[e1];exact forD_find xs Y' h1 hs
def  uC(f:Fn):Prop:=∀(ps:T3)(ls:List Lz)(k:Nat)(l:Lz),Valid ps->prod ps<64->ls.length<=24->(∀l∈ls,LzOk ps l)->ls[k]?=!l->∃T:List Sd,T.Perm (uy l.1 (prod (ps.take l.2)) (ps.drop l.2))/\T.Pairwise (λa b=>HT.lexLt [b.1,b.2] [a.1,a.2]=false)/\∀b:Option Sd,bw (f [ak ps,ay ls,.int (k:Int),bD b])=!bD ((T.map (rkd (rnk ls k l))).find? (pC b))
def Kj{op}(j:wE op):uC (aQ 4 5 (bL op)):=λps ls k l hv o r h hk=>by
 let[T,h1,h2,h3]:=j ps ls k l hv o r h hk;refine#[T,h1,h2,λb=>?_];generalize T.map (rkd (rnk ls k l))=P at h3;have C:az 5 [ak ps,ay ls,.int (k:Int),bD b]=[!(.sh,ak ps),!(.sh,ay ls),!(.sh,.int (k:Int)),!(.sh,bD b),none]:=rfl;have U:jX ac (bu op (x3 (va 0) (va 1) (va 2))) (bV [!(.sh,ak ps),!(.sh,ay ls),!(.sh,.int (k:Int)),!(.sh,bD b),none])=!P.map sdD:=by show jX ac _ [!ak ps,!ay ls,!.int (k:Int),!bD b,none]=_;simp only[sB,jX_none,h3,Cv]
 have J:∀(x:Sd)(g:T6),kc (ag (aa (fj false) (va 3) cN)) (ag (aa mJ (va 4) (va 3))) (vw [!(.sh,ak ps),!(.sh,ay ls),!(.sh,.int (k:Int)),!(.sh,bD b),!(.sh,sdD x)])=!pC b x:=λx g=>by cases b with
|none=>rfl|some q=>rfl
 rcases forD_find (step:=dY (br 4) (ab (cG (kc (ag (aa (fj false) (va 3) cN)) (ag (aa mJ (va 4) (va 3)))) (ab (rJ 4) aB) aB) aB)) (p:=pC b) (mk:=sdD) (I:=λY=>∃g,Y=[!(.sh,ak ps),!(.sh,ay ls),!(.sh,.int (k:Int)),!(.sh,bD b),g]) P [!(.sh,ak ps),!(.sh,ay ls),!(.sh,.int (k:Int)),!(.sh,bD b),none] #[none,rfl] (by
   rintro x Y⟨g,rfl⟩;refine#[λe=>?_,λe=>#[_,?_,#[!(.sh,sdD x),rfl]]];.have z:=J x none;rw[e]at z;exact seqF_rt ((ifS_t z).trans (seqF_rt rfl))
   .have z:=J x none;rw[e]at z;exact(ai ((dQ z).trans rfl)).trans rfl)with⟨x,t,e2⟩|⟨t,Y',e2,_⟩
 .have e:bL op (az 5 [ak ps,ay ls,.int (k:Int),bD b])=!.rt (.sh,sdD x):=by rw[C];unfold bL;refine seqF_rt ?_;unfold dF aI cE;rw[U];simp only[Option.bind_some,e2]
  have z:aQ 4 5 (bL op) [ak ps,ay ls,.int (k:Int),bD b]=!(.sh,sdD x):=ar rfl e;rw[z,t];rfl
 .have e:bL op (az 5 [ak ps,ay ls,.int (k:Int),bD b])=!.rt (.deep,.non):=by rw[C];unfold bL;refine q_st (Y':=Y') ?_ (q_ret (evX_lf (d:=.non) rfl rfl));unfold dF aI cE;rw[U];simp only[Option.bind_some,e2]
  have z:aQ 4 5 (bL op) [ak ps,ay ls,.int (k:Int),bD b]=!(.deep,.non):=ar rfl e;rw[z,t];rfl
def  iX(fl:Str->Str->Bool)(lW:Fn)(mt_codes:MT)(kk:Nat)(aF de:Fn):TZ:=ab (mB (bu de (x2 (va 0) (va 1)))) (ab (cG (bI (jv (bu aF (x3 (va 2) (cI 0) (aa cA (pj (va 0) aw mt_codes kk "codes") (cI 1)))))) (ab noO' aB) aB) (ab (av 3 sC) (ab (av 4 (bo (pj (va 0) aw mt_codes kk "codes"))) (ab (av 5 (bo (va 2))) (ab (dF (jX (M4 (x1 (slF (flF fl "passes" (va 0)) (partF (va 1)) noP))) (bJ ke (x1 (slF (flF fl "passes" (va 0)) (partF (va 1)) noP)))) (br 6) (ab (av 4 (bo (aa bv (va 4) (cb (va 6))))) (ab (av 7 (bo (aa bv (va 5) (va 4)))) (ab (av 5 (j8 lW (x3 (aa ax (aa ax (va 6) (va 7)) (cI 0)) (va 4) (aa cA (va 5) (aa aM (va 7) (va 4)))))) (ab (pi 3 7 (bo (va 7)) (va 7)) aB))))) (ab (cG (ag (aa (aP true) (va 5) (aa cA (va 4) (cI 1)))) (gj (bo cN)) aB) (gj (aY (Ti (x1 (va 3))) ac (gT (x1 (bJ ke (x1 (va 3)))))))))))))
def  eh(fl:Str->Str->Bool)(bM:Fn):TZ:=gj (j8 bM (x1 (flF fl "passes" (va 0))))
def  R5(mt:MT)(k:Nat):Prop:=∀ps:T3,Valid ps->jG mt k "codes" (ak ps) []=!(.deep,.int (prod ps:Nat))
def Q8{g co}(l:g "Mill" "passes"=true)(r:j6 co){ps:T3}(o:Valid ps):aQ 1 1 (eh g co) [ak ps]=!(.deep,.int (prod ps:Nat)):=by
 have t:re g "passes" (ak ps)=!fB ps:=by simp[re,ak,l]
 have j:co [fB ps]=!(.deep,.int (prod ps:Nat)):=zA r ps λp j=>by have:=(o.p j).2.1;lia
 refine ar rfl ?_;show eh g co [!(.sh,ak ps)]=_;unfold eh;refine q_ret (evX_lf (d:=.int (prod ps:Nat)) ?_ rfl);simp only[sB,Hs,t,j]
def Nz(h:(xs Y).bind Oq=!ds):jX (M4 xs) R Y=!ds:=by unfold jX aI M4;simp[h]
noncomputable def  layN(q:Bool)(a c:Nat):Nat:=if q=true then c else a-1-c
def xZ(q:Bool)(h:c<a):layN q a c<a:=by unfold layN;split<;>omega
def Dq(q:Bool){a c:Nat}(h:c<a):Hy q (a:Int) (c:Int)=((layN q a c:Nat):Int):=by unfold Hy layN;split<;>omega
def Gi(q:Bool){a c:Nat}(h:c<a):Hy q (a:Int) ((layN q a c:Nat):Int)=(c:Int):=by unfold Hy layN;split<;>omega
def  DY(s:Nat×Nat×List Nat)(p:List Pk):Nat×Nat×List Nat:=(s.1/p.length,layN (pkAt (s.2.1/!31,p)).1 (!31) (s.2.1%!31),s.2.2++[s.2.1/!31])
def  zP(s:Nat×Nat×List Nat)(rs:T3):Nat×Nat×List Nat:=rs.foldl DY s
def uD(s)(g:T3)(i:Nat)(p)(h:g[i]?=!p):zP s (g.take (i+1))=DY (zP s (g.take i)) p:=by unfold zP;rw[List.take_succ,h];simp
def sg:∀{ps:T3},(∀p∈ps,1<=p.length)->1<=prod ps
|[],_=>UI 1|p::r,h=>Nat.mul_le_mul (h p (Ut ..)) (sg λq hq=>h q (Uu _ hq))
def x8(g:Valid ps)(k:Nat):1<=prod (ps.take k)/\prod (ps.take k)<=1000/\prod ps=prod (ps.take k)*prod (ps.drop k):=by
 have h1:1<=prod (ps.take k):=sg λp j=>(g.p (List.mem_of_mem_take j)).1;have r:prod ps=prod (ps.take k)*prod (ps.drop k):=by rw[<-cL,List.take_append_drop]
 have o:=g.codes;have l:prod (ps.take k)*1<=prod (ps.take k)*prod (ps.drop k):=Nat.mul_le_mul_left _ (sg λp j=>(g.p (List.mem_of_mem_drop j)).1);grind
def rev_at{ps:T3}(h:(!4).reverse[i]?=!p):i+t<ps.length/\ps[ps.length-1-i]?=!p:=by
 have hi:i<(!4).reverse.length:=by
  rcases Nat.lt_or_ge i (!4).reverse.length with h'|h';.exact h'
  .rw[List.getElem?_eq_none h']at h;cases h
 rw[List.length_reverse]at hi;rw[List.getElem?_reverse hi,List.getElem?_drop,List.length_drop]at h;rw[List.length_drop]at hi;refine#[by omega,?_];rw[<-h];congr 1;lia
structure BkOk(ps:T3)(c i:Nat)(s:Nat×Nat×List Nat):Prop where
 a:s.1=prod (ps.take (ps.length-i))l:s.2.1<s.1n:s.2.2.length=i
 w:∀q∈s.2.2.reverse.zip (ps.drop (ps.length-i)),q.1<q.2.length
 c:Hz ((s.1:Nat),(s.2.1:Nat)) (s.2.2.reverse.zip (ps.drop (ps.length-i)))=(((prod ps:Nat):Int),(c:Int))
def x9(o:Valid ps)(ok:BkOk ps c i s)(g:(!4).reverse[i]?=!p):s.1/p.length=prod (ps.take (ps.length-(i+1)))/\s.1=s.1/p.length*p.length/\0<s.1/p.length/\s.1/p.length<=1000/\s.2.1/(!31)<p.length/\s.2.1%(!31)<s.1/p.length:=by
 let[hi,g]:=rev_at g;have J:=o.p (UH g);have C:ps.length-i=ps.length-1-i+1:=by lia
 have T:ps.length-(i+1)=ps.length-1-i:=by lia
 have j:s.1=prod (ps.take (ps.length-1-i))*p.length:=by rw[ok.a,C,List.take_succ,g,Option.toList_some,bQ]
 have I:=x8 o (ps.length-1-i);have r:s.1/p.length=prod (ps.take (ps.length-1-i)):=by rw[j];exact Nat.mul_div_cancel _ (by lia)
 rw[r,T];refine#[rfl,j,by lia,by lia,?_,Nat.mod_lt _ (by lia)];have:=ok.l;rw[j]at this;exact Nat.div_lt_of_lt_mul this
def Gj(C:Valid ps)(ok:BkOk ps c i s)(l:(!4).reverse[i]?=!p):BkOk ps c (i+1) (DY s p):=by
 let[h1,h2,h3,h4,J,o]:=x9 C ok l;let[hi,g]:=rev_at l;have e2:ps.length-(i+1)=ps.length-1-i:=by lia
 have e1:ps.length-i=ps.length-1-i+1:=by lia
 have U:ps.drop (ps.length-(i+1))=p::ps.drop (ps.length-i):=by
  rw[e2,e1];have I:ps.length-1-i<ps.length:=by lia
  rw[List.drop_eq_getElem_cons];rw[getElem?_eq_getElem I]at g;cases g;rfl
 have T:(s.2.2++[s.2.1/!31]).reverse=s.2.1/(!31)::s.2.2.reverse:=by rw[List.reverse_append];rfl
 have r:(DY s p).2.2.reverse.zip (ps.drop (ps.length-(i+1)))=(s.2.1/!31,p)::s.2.2.reverse.zip (ps.drop (ps.length-i)):=by show(s.2.2++[s.2.1/!31]).reverse.zip _=_;rw[T,U,List.zip_cons_cons]
 refine#[h1,xZ _ o,?_,?_,?_];.show(s.2.2++[s.2.1/!31]).length=i+1;rw[length_append,ok.n];rfl
 .rw[r];intro q j;rcases mem_cons.mp j with rfl|j;.exact J
  .exact ok.w q j
 .rw[r,<-ok.c];show Hz (OO (((s.1/p.length:Nat):Int),((layN (pkAt (s.2.1/!31,p)).1 (!31) (s.2.1%!31):Nat):Int)) (s.2.1/!31,p)) _=_;have es:OO (((s.1/p.length:Nat):Int),((layN (pkAt (s.2.1/!31,p)).1 (!31) (s.2.1%!31):Nat):Int)) (s.2.1/!31,p)=(((s.1:Nat):Int),((s.2.1:Nat):Int)):=by
   unfold OO;rw[Gi _ o];refine Prod.ext ?_ ?_;.show((s.1/p.length:Nat):Int)*((p.length:Nat):Int)=_;rw[<-Int.natCast_mul,<-h2]
   .show((s.2.1/!31:Nat):Int)*((s.1/p.length:Nat):Int)+((s.2.1%!31:Nat):Int)=((s.2.1:Nat):Int);rw[<-Int.natCast_mul,<-Int.natCast_add,Nat.div_add_mod']
  rw[es]
def Q9(l:c<prod ps):BkOk ps c 0 (prod ps,c,[]):=by refine#[by rw[Nat.sub_zero,List.take_length],l,rfl,λq j=>?_,rfl];have g:=j;simp at g
def Dr(hv:Valid ps)(hc:c<prod ps)(t:Nat):∀i,i<=ps.length-t->BkOk ps c i (zP (prod ps,c,[]) ((!4).reverse.take i))
|0,_=>Q9 hc|i+1,h=>by
  have hi:i<(!4).reverse.length:=by rw[List.length_reverse,List.length_drop];omega
  rw[uD _ _ _ _ (getElem?_eq_getElem hi)];exact Gj hv (Dr hv hc t i !6) (getElem?_eq_getElem hi)
abbrev sW(ps:T3)(t c:Nat)(ws:Ub)(A L:Nat)(o6 o7:T6):Ev:=[sn (ak ps),sn (iN t),sn (iN c),dp (rowD ws),dp (iN A),dp (iN L),o6,o7]
abbrev FB(la:Fn):TZ:=ab (av 4 (bo (aa bv (va 4) (cb (va 6))))) (ab (av 7 (bo (aa bv (va 5) (va 4)))) (ab (av 5 (j8 la (x3 (aa ax (aa ax (va 6) (va 7)) (cI 0)) (va 4) (aa cA (va 5) (aa aM (va 7) (va 4)))))) (ab (pi 3 7 (bo (va 7)) (va 7)) aB)))
def cw_step{T}(hl:ql T){ps:T3}(r:Valid ps){t c i:Nat}{s:Nat×Nat×List Nat}(ok:BkOk ps c i s){p:List Pk}(U:(!4).reverse[i]?=!p)(o6 o:T6):∃l j,(br 6 (iL p) (sW ps t c s.2.2 s.1 s.2.1 o6 o)).bind (FB T)=!.nx (sW ps t c (DY s p).2.2 (DY s p).1 (DY s p).2.1 l j):=by
 let[h1,h2,h3,h4,J,I]:=x9 r ok U;let[hi,C]:=rev_at U;have h66:=r.len;have hq:=r.p (UH C);let[A,L,g]:=s;have hn:g.length=i:=ok.n;have h3:0<A/p.length:=h3;have h4:A/p.length<=1000:=h4;have J:L/(A/p.length)<p.length:=J;have I:L%(A/p.length)<A/p.length:=I;have eA:(A:Int)/(p.length:Int)=((A/p.length:Nat):Int):=rfl;have eK:(L:Int)/((A/p.length:Nat):Int)=((L/(A/p.length):Nat):Int):=rfl;show∃l j,_=!Out.nx (sW ps t c (g++[L/(A/p.length)]) (A/p.length) (layN (pkAt (L/(A/p.length),p)).1 (A/p.length) (L%(A/p.length))) l j);have eM:(L:Int)-((L/(A/p.length):Nat):Int)*((A/p.length:Nat):Int)=((L%(A/p.length):Nat):Int):=by have:=Nat.div_add_mod' L (A/p.length);rw[((Int.natCast_mul _ _).symm)];lia
 generalize hB:A/p.length=B at*;generalize hk:L/B=k at*;have e0:∀q:Pk,ax (fz q) (.int 0)=!.str (kd q.1):=λq=>jL _ _;have e6:ax (iL p) (iN k)=!fz (pkAt (k,p)):=Nj (q:=(k,p)) J;have e7:seqD (iL p)=!p.map fz:=rfl;have el:=hl (pkAt (k,p)).1 (B:Int) ((L%B:Nat):Int);rw[Dq _ I]at el;have ec:∀Y:Vv,aO Y 6=!iL p->aO Y 7=!iN k->aO Y 4=!iN B->aO Y 5=!iN L->x3 (aa ax (aa ax (va 6) (va 7)) (cI 0)) (va 4) (aa cA (va 5) (aa aM (va 7) (va 4))) Y=![.str (kd (pkAt (k,p)).1),.int (B:Int),.int ((L%B:Nat):Int)]:=λY g6 g7 g4 g5=>by simp only[sB,g4,g5,g6,g7,wq (show k<1000000 by lia),eM,e6,e0]
 refine#[sn (iL p),dp (iN k),?_];show ab _ _ (sW ps t c g A L (sn (iL p)) o)=_;refine q_set (evX_lf (d:=iN B) ?_ rfl) ?_;.simp only[sB,dZ,e7,length_map];rw[bK (show(0:Int)<(p.length:Int)by omega) !6,eA]
 show ab _ _ (sW ps t c g B L (sn (iL p)) o)=_;refine q_set (evX_lf (d:=iN k) ?_ rfl) ?_;.simp only[sB];rw[bK (show(0:Int)<(B:Int)by lia) (by lia),eK]
 show ab _ _ (sW ps t c g B L (sn (iL p)) (dp (iN k)))=_;refine q_set (evX_lf (d:=iN (layN (pkAt (k,p)).1 B (L%B))) ?_ rfl) ?_;.rw[clF_a,ec _ rfl rfl rfl rfl,Option.bind_some,el];rfl
 refine q_st (qi (ds:=g.map λ(k:Nat)=>D.int (k:Int)) (ds0:=g.map λ(k:Nat)=>D.int (k:Int)) (c0:=.deep) (d:=iN k) rfl (evX_lf rfl rfl) rfl ?_) ?_;.rw[length_map,hn];exact Ux (show i+1<=6 by lia) !2 
 have em:rowD (g++[k])=.lst ((g.map λ(k:Nat)=>D.int (k:Int))++[iN k]):=by unfold rowD;rw[List.map_append];rfl
 simp only[sW,em];rfl
def cw_loop(hf:o "Mill" "passes"=true)(U:ql T)(r:Valid ps)(ht:t<=ps.length)(hc:c<prod ps):∃j g,dF (jX (M4 (x1 (slF (flF o "passes" (va 0)) (partF (va 1)) noP))) (bJ ke (x1 (slF (flF o "passes" (va 0)) (partF (va 1)) noP)))) (br 6) (FB T) (sW ps t c [] (prod ps) c none none)=!.nx (sW ps t c (zP (prod ps,c,[]) (!4).reverse).2.2 (zP (prod ps,c,[]) (!4).reverse).1 (zP (prod ps,c,[]) (!4).reverse).2.1 j g):=by
 let[Y',e,j,g,rfl]:=jk (J:=jX (M4 (x1 (slF _ _ noP))) (bJ ke (x1 (slF _ _ noP)))) (ds:=((!4).reverse).map iL) (Y:=sW ps t c [] (prod ps) c none none) (λi Y=>∃j g,Y=sW ps t c (zP (prod ps,c,[]) ((!4).reverse.take i)).2.2 (zP (prod ps,c,[]) ((!4).reverse.take i)).1 (zP (prod ps,c,[]) ((!4).reverse.take i)).2.1 j g) (Nz (by rw[eX,consX_a,(FK hf rfl rfl)];show some ((!4).map iL).reverse=_;rw[List.map_reverse])) #[none,none,rfl] (by rintro i d Y hd⟨j,g,rfl⟩;rw[getElem?_map]at hd;cases l:(!4).reverse[i]?with
|none=>rw[l]at hd;cases hd|some p=>rw[l]at hd;cases hd;have hi:=(Us.mp l).1;rw[List.length_reverse,List.length_drop]at hi;let[I,C,e]:=cw_step U r (Dr r hc t i (by lia)) l j g;refine#[_,e,I,C,?_];rw[uD _ _ _ _ l]);rw[length_map,List.take_length]at e;exact#[j,g,e]
def Gk:∀(g:T3)(w:Ub)(n:Nat)(c:Sd)(j:Ub),0<n->0<=c.1->c.1<n->w.length=g.length->(∀q∈w.zip g,q.1<q.2.length)->0<=(pl n g w c).1/\(pl n g w c).1<((n*prod g:Nat):Int)/\zP (n*prod g,(pl n g w c).1.toNat,j) g.reverse=(n,c.1.toNat,j++w.reverse):=by
 refine mY (λw n c j U h0 h1 o t=>?_) λg p ih w n c j U h0 h1 o t=>?_;.cases w with
|nil=>refine#[h0,by show c.1<((n*1:Nat):Int);rw[Nat.mul_one];exact h1,?_];show(n*1,c.1.toNat,j)=(n,c.1.toNat,j++[]);rw[Nat.mul_one,List.append_nil]|cons _ _=>cases o
 .obtain⟨v,k,rfl⟩:∃v k,w=v++[k]:=by
   have r:w≠[]:=λz=>by rw[z,length_append]at o;cases o
   exact#[w.dropLast,w.getLast r,(List.dropLast_concat_getLast r).symm]
  have l:v.length=g.length:=by rw[length_append,length_append]at o;exact Nat.add_right_cancel o
  rw[List.zip_append l]at t;have hk:k<p.length:=t (k,p) (UD _ Ut);have hp:0<p.length:=by lia
  have I:∀q∈v.zip g,q.1<q.2.length:=λq hq=>t q (UC _ hq);rw[mX n c p k l,bQ,<-Nat.mul_assoc];let[_,_,b2]:=ih v n c (j++[k]) U h0 h1 l I;generalize hm:n*prod g=m at*;generalize pl n g v c=q at*;obtain⟨y,T⟩:∃y:Nat,q.1=(y:Int):=#[q.1.toNat,by lia];have C:y<m:=by lia
  have e0:pkAt (k,p)=gC p k:=by unfold pkAt gC;rw[List.getD_eq_getElem?_getD]
  have e1:(bZ m k (gC p k) q).1=((k*m+layN (pkAt (k,p)).1 m y:Nat):Int):=by
   unfold bZ layN;rw[e0,T];split;.push_cast;rfl
   .push_cast;lia
  have J:=xZ (pkAt (k,p)).1 C;have ll:layN (pkAt (k,p)).1 m (layN (pkAt (k,p)).1 m y)=y:=by unfold layN;split<;>lia
  generalize layN (pkAt (k,p)).1 m y=z at*;rw[e1,Int.toNat_natCast];have d1:(k*m+z)/m=k:=by rw[Nat.add_comm,Nat.add_mul_div_right _ _ (by lia),Nat.div_eq_of_lt J,Nat.zero_add]
  have d2:(k*m+z)%m=z:=by rw[Nat.add_comm,Nat.add_mul_mod_self_right,Nat.mod_eq_of_lt J]
  refine#[by lia,?_,?_];.have:=Nat.mul_le_mul_right m (show k+1<=p.length by lia);rw[Nat.succ_mul,Nat.mul_comm p.length]at this;lia
  .rw[List.reverse_append,List.reverse_append];show zP (DY (m*p.length,k*m+z,j) p) g.reverse=_;have:DY (m*p.length,k*m+z,j) p=(m,y,j++[k]):=by unfold DY;rw[(Nat.mul_div_cancel _ hp),d1,d2,ll]
   rw[this];rw[T,Int.toNat_natCast]at b2;rw[b2,List.append_assoc];rfl
def  NA(f:Fn):Prop:=∀(ps:T3)(t:Nat)(w:Ub),Valid ps->t<=ps.length->w.length=(!4).length->(∀q∈w.zip !4,q.1<q.2.length)->f [ak ps,iN t,.int (pl (prod !30) (!4) w (((prod !30:Nat):Int)-1,1)).1]=dp (wD w)
def Gm{T p mt g o lo}(hf:T "Mill" "passes"=true)(hl:ql p)(hm:R5 mt g)(hw:fA o)(I:wm lo):NA (aQ 3 8 (iX T p mt g o lo)):=λps t w r U j C=>by
 let[p1,p2,p3]:=x8 r t;let[b0,b1,l]:=Gk (!4) w (prod !30) (((prod !30:Nat):Int)-1,1) [] (by lia) (by show(0:Int)<=(prod !30:Nat)-1;lia) (by show((prod !30:Nat):Int)-1<_;lia) j C;rw[<-p3]at b1 l;obtain⟨c,hc⟩:∃c:Nat,(pl (prod !30) (!4) w (((prod !30:Nat):Int)-1,1)).1=(c:Int):=#[_,(Int.toNat_of_nonneg b0).symm];rw[hc]at b1 l⊢;rw[Int.toNat_natCast]at l;have J:c<prod ps:=by lia
 let[o6,o7,e]:=cw_loop hf hl r U J;rw[l,List.nil_append]at e;dsimp only at e;have em:∀Y:Vv,aO Y 0=!ak ps->pj (va 0) aw mt g "codes" Y=!.int (prod ps:Nat):=λY h=>by show bw (kA (va 0) aw mt g "codes" Y)=_;unfold kA;rw[va_a,h,Option.bind_some];show bw (jG mt g "codes" (ak ps) [])=_;rw[hm ps r];rfl
 have e2:decide ((c:Int)<=((prod ps:Nat):Int)-1)=true:=decide_eq_true (by lia);refine ar rfl ?_;show iX T p mt g o lo [sn (ak ps),sn (iN t),sn (iN c),none,none,none,none,none]=_;unfold iX;refine rR (d:=.non) ?_ (q_if0 ?_ (q_set (evX_lfs (d:=.lst []) (ds:=[]) rfl rfl rfl rfl) (q_set (evX_lf (d:=.int (prod ps:Nat)) (em _ rfl) rfl) (q_set (evX_lf (d:=iN c) rfl rfl) (q_st e (q_if0 ?_ (q_ret (evX_lf ?_ (wk _)))))))));.simp only[sB,I ps t U]
 .rw[notQ_a,trF_a,clF_a,J8,consX_a,pA,consX_a,eX,consX_a,bin2_a,em _ rfl];simp only[sB,hw (c:Int) 0 (((prod ps:Nat):Int)-1),e2];rw[decide_eq_true (show(0:Int)<=(c:Int)by lia)];rfl
 .simp only[sB,xI];have:(((((prod !30:Nat):Int)-1).toNat:Nat):Int)=((prod !30:Nat):Int)-1:=by lia
  rw[this];simp
 .show some (D.tup (w.reverse.map λ(k:Nat)=>D.int (k:Int)).reverse)=_;rw[<-List.map_reverse,List.reverse_reverse];rfl
section
variable(F:Nat->List Sd)(lvl:Nat->Nat)
def  due:Option Sd->Int->Ub->Bool
|_,_,[]=>false|b,last,k::ch=>if(lvl k:Int)<=last then false else match(F k).find? (pC b)with
|none=>ch.isEmpty|some x=>due (!x) (lvl k) ch
end
structure Lvs(n:Nat)(lv:List Ud)(lvl:Nat->Nat):Prop where
 lt:∀a,a<n->lvl a<lv.length
 at_:∀a,a<n->∀j,j<lv.length->((a:Int)∈lv.getD j []↔j=lvl a)le:lv.length<=100
def forD_ret{step}:∀(ds:Uh)(I:Nat->Ev->Prop)(Y:Ev),I 0 Y->(∀(i:Nat)(d:D)(Y:Ev),ds[i]?=!d->I i Y->(∃Y',step d Y=!.nx Y'/\I (i+1) Y')\/step d Y=!.rt val)->(∃Y',cC step ds Y=!.nx Y'/\I ds.length Y')\/cC step ds Y=!.rt val
|[],I,Y,h0,_=>.inl #[Y,rfl,h0]|d::ds,I,Y,h0,hs=>by
  rcases hs 0 d Y rfl h0 with⟨Y1,e1,i1⟩|e1;.have:=forD_ret ds (λi=>I (i+1)) Y1 i1 λi d Y hd hi=>hs (i+1) d Y (by simpa using hd) hi;show(∃Y',(step d Y).bind _=_/\_)\/(step d Y).bind _=_;rw[e1];exact this
  .right;show(step d Y).bind _=_;rw[e1];rfl
def Kk(I:Nat->Ev->Prop)(t:J (bV Y)=!(!22).map λ(i:Nat)=>D.int (i:Int))(h0:I 0 Y)(r:∀(i:Nat)(Y:Ev),i<n->I i Y->(∃Y',g (Y.set s (sn (iN i)))=!.nx Y'/\I (i+1) Y')\/g (Y.set s (sn (iN i)))=!.rt val)(k:∀Y',I n Y'->G Y'=!.rt val):ab (dF J (br s) g) G Y=!.rt val:=by
 have e:∀o,cC (dY (br s) g) ((!22).map λ(i:Nat)=>D.int (i:Int)) Y=!o->dF J (br s) g Y=!o:=λo h=>by unfold dF aI;rw[show cE J (br s) g Y=some o by unfold cE;rw[t];exact h]
 rcases forD_ret (step:=dY (br s) g) ((!22).map λ(i:Nat)=>D.int (i:Int)) I Y h0 λi d Y hd hi=>by
  rw[getElem?_map]at hd;have j:i<n:=by
   rcases Nat.lt_or_ge i n with z|z;.exact z
   .rw[List.getElem?_eq_none (by rw[length_range];exact z)]at hd;cases hd
  rw[List.getElem?_range j]at hd;cases hd;exact r i Y j hi with⟨Y',l,p⟩|l;.rw[length_map,length_range]at p;exact(ai (e _ l)).trans (k _ p)
 .exact seqF_rt (e _ l)
noncomputable def  wF(lv:List Ud)(a:Nat):Nat:=lv.findIdx λl=>decide ((a:Int)∈l)
def Kl(J:cF ls)(G:Good m g):Lvs m (levs ls g) (wF (levs ls g))/\∀a,a<m->ax (uA (levs ls g)) (iN a)=!iN (wF (levs ls g) a):=by
 have pm:=jo J g;have I:(levs ls g).flatten.Nodup:=by exact pm.nodup_iff.mpr (List.Pairwise.map _ λa b(h:a≠b)=>show(a:Int)≠(b:Int)by lia (G.pm.nodup_iff.mpr List.nodup_range))
 have le:=(gp J G.ne).1;have hfl:=G.len;have U:=G.le;have hex:∀a,a<m->∃l∈levs ls g,(a:Int)∈l:=λa o=>by refine List.mem_flatten.mp (pm.mem_iff.mpr (UA.mpr #[a,G.pm.mem_iff.mpr (UG.mpr o),rfl]))
 have t:∀a,a<m->wF (levs ls g) a<(levs ls g).length:=λa o=>by let[l,h1,h2]:=hex a o;exact List.findIdx_lt_length_of_exists #[l,h1,decide_eq_true h2]
 have C:∀a(o:a<m),(a:Int)∈(levs ls g)[wF (levs ls g) a]'(t a o):=λa o=>Uv (List.findIdx_getElem (p:=λl=>decide ((a:Int)∈l)));have r:∀a,a<m->ax (uA (levs ls g)) (iN a)=!iN (wF _ a):=λa o=>xY I (getElem?_eq_getElem _) (C a o);refine#[#[t,λa o j T=>?_,by lia],r];have gd:(levs ls g).getD j []=(levs ls g)[j]:=by rw[List.getD_eq_getElem?_getD,getElem?_eq_getElem T];rfl
 rw[gd];constructor
 .intro h;have e2:=r a o;rw[show ax (uA (levs ls g)) (.int (a:Int))=some (.int (j:Int))from xY I (getElem?_eq_getElem T) h]at e2;have e3:(j:Int)=(wF (levs ls g) a:Int):=by injection e2 with e2;injection e2
  lia
 .rintro rfl;exact C a o
def  ltOf(ls:List Lz):oS:=ls.map λl=>(l.1,(l.2:Int))
def NB(ls:List Lz):ay ls=lsD' (ltOf ls):=by unfold ay lsD' ltOf;rw[List.map_map];rfl
def jQ{step}(h:step d Y=!.nx Y')(k:cC step ds Y'=out):cC step (d::ds) Y=out:=by unfold cC;rw[h];exact k
def uE{step}(h:step d Y=!.rt s):cC step (d::ds) Y=!.rt s:=by unfold cC;rw[h];rfl
def iY(g:J (bV Y)=!ds)(h:cC (dY tg F) ds Y=!o):dF J tg F Y=!o:=by unfold dF aI;rw[show cE J tg F Y=some o by unfold cE;rw[g];exact h]
def NC{b:Bool}(h:c (vw Y)=!b)(k1:(if b then F Y else g Y)=!.nx Y')(k:G Y'=out):ab (cG c F g) G Y=out:=by cases b with
|true=>exact(ai ((ifS_t h).trans k1)).trans k|false=>exact(ai ((dQ h).trans k1)).trans k
def ND(j:fa Y=!.lst a)(g:l Y=!.lst b)(h:(a++b).length<big):fN fa l Y=!a++b:=by unfold fN;rw[j,Option.bind_some,g,Option.bind_some];exact c9 h
def NE(a:Int)(l:Ud):GZ (.int a) (aN l)=!.bl (decide (a∈l)):=by
 have h1:(l.map D.int).all bB=true:=by rw[List.all_map];simp[Function.comp,bB]
 have h2:K0 (.int a) (l.map D.int)=decide (a∈l):=by
  show(List.any ((l.map D.int).map mL) λy=>DT y (mL (.int a)))=_;rw[List.map_map,List.any_map,Bool.eq_iff_iff,List.any_eq_true,decide_eq_true_iff];constructor;.rintro⟨x,g,e⟩;rwa[<-Uv e]
  .intro h;exact#[a,h,show decide (a=a)=true from decide_eq_true rfl]
 show(if(bB (.int a)&&(l.map D.int).all bB)=true then !D.bl (K0 (.int a) (l.map D.int))else none)=_;rw[h1,h2];rfl
def  si(aW cR:Fn):TZ:=ab (av 3 (aY (aa aM (bb (cH (x1 cN))) (cb (va 1))) (Bg (cH (x1 cN)) (cb (va 1))) ac)) (ab (av 4 (bo cN)) (ab (dF (jX ac (va 2)) (br 5) (ab (av 6 sC) (ab (dF (jX ac (va 5)) (br 7) (ab (av 8 (j8 cR (x2 (bu aW (x3 (va 0) (va 1) (va 7))) (va 4)))) (ab (cG (ag (aa (fj false) (va 8) cN)) (gj (bo cN)) aB) (ab (kP 3 (va 7) (bo (aa ax (va 8) (cI 1))) (aa ax (va 8) (cI 1))) (ab (cX 6 (bo (aa ax (va 8) (cI 0)))) aB))))) (ab (av 4 (aY (bJ jJ (x1 (va 6))) ac (gT (x1 (va 6))))) aB)))) (ab (rJ 3) aB)))
abbrev Pq:=Sd×List Nat
abbrev Os:=Option Sd
def  NF:Option Pq->D
|none=>.non|some q=>fdD q
def  wsD(P:List Ub):D:=.lst (P.map wD)
def HE(q:Pq):lfD (fdD q)=true:=by show(lfD (sdD q.1)&&(lfD (wD q.2)&&true))=true;rw[wk];rfl
def HF(q:Option Pq):lfD (NF q)=true:=by cases q with
|none=>rfl|some q=>exact HE q
def  oG(U:Nat->List Pq)(b:Os)(a:Nat):Option Pq:=(U a).find? λq=>pC b q.1
def  mx(l:Os)(p:Sd):Os:=if pC l p=true then !p else l
def  sj(U:Nat->List Pq)(b:Os):Ub->Os->List Ub->Option (Os×List Ub)
|[],l,P=>!(l,P)|a::L,l,P=>(oG U b a).bind λq=>sj U b L (mx l q.1) (P.set a q.2)
def  run(U:Nat->List Pq):List Ub->Os->List Ub->Option (List Ub)
|[],_,P=>!P|L::lv,b,P=>(sj U b L b P).bind λs=>run U lv s.1 s.2
def NG(p q:Sd):mJ (sdD p) (sdD q)=!.bl (HT.lexLt [q.1,q.2] [p.1,p.2]):=rfl
def NH{b:Os}(j:A Y=!bD b)(g:B Y=!sdD p):kc (ag (aa (fj false) A cN)) (ag (aa mJ B A)) Y=!pC b p:=by simp only[mE,testB_a,bin2_a,j,g,Qw,Option.bind_some];cases b with
|none=>rfl|some q=>show(mJ (sdD p) (sdD q)).bind D.asB=_;rw[NG];rfl
def  gU(lv:List Ub):D:=.lst (lv.map rowD)
def lf_ws(P:List Ub):dS (P.map wD)=true:=ca λd hd=>by let[w,_,rfl]:=UA.mp hd;exact wk w
def m7:∀{L:Ub}{l:Os}{P:List Ub}{s:Os×List Ub},sj U b L l P=!s->s.2.length=P.length
|[],l,P,s,h=>by cases h;rfl|a::L,l,P,s,h=>by let[q,_,h]:=Option.bind_eq_some_iff.mp h;rw[m7 h,List.length_set]
def sk:∀{lv:List Ub}{b:Os}{P P':List Ub},run U lv b P=!P'->P'.length=P.length
|[],b,P,P',h=>by cases h;rfl|L::lv,b,P,P',h=>by let[s,h1,h2]:=Option.bind_eq_some_iff.mp h;rw[sk h2,m7 h1]
def  R6:Option (List Ub)->D
|none=>.non|some P=>wsD P
def  jS(fl:Str->Str->Bool):TZ:=gj (aY (bb (au [1] (jX ac (flF fl "level_letters" (va 0))) (bc 1) tQ (jK (x1 (va 1))))) (au [1] (jX ac (flF fl "level_letters" (va 0))) (bc 1) tQ (jK (x1 (va 1)))) (zN [1] (jX ac (flF fl "level_letters" (va 0))) (bc 1) tQ (aZ (jK (x1 (va 1))) (ue (x1 (va 1))) (gT (x1 (va 1))))))
def  lj(mt_levels:MT)(kk:Nat)(cP bp aK:Fn):TZ:=ab (mB (bu aK (x2 (va 0) (va 1)))) (ab (av 3 (aY (bb (au [8] (jX ac (va 1)) (bc 8) tQ (dA aw))) (au [8] (jX ac (va 1)) (bc 8) tQ (dA aw)) (zN [8] (jX ac (va 1)) (bc 8) tQ (aZ (dA aw) ac (oi aw))))) (ab (av 4 (bo cN)) (ab (av 5 sC) (ab (dF (jX ac (pj (va 2) aw mt_levels kk "levels")) (br 6) (ab (av 7 (aY (bb (au [8] (jX ac (va 6)) (bc 8) tQ (bu bp !27))) (au [8] (jX ac (va 6)) (bc 8) tQ (bu bp !27)) (zN [8] (jX ac (va 6)) (bc 8) tQ (aZ (bu bp !27) ac (FC bp !27))))) (ab (cG (ag (aa Jz cN (va 7))) (gj (aY (dA (x2 (cS "chain") (aa aG (va 5) (bb (cH (x1 (aa ax (va 6) (ph (va 7) cN)))))))) ac (oi (x2 (aZ (cS "chain") ac ac) (aZ (aa aG (va 5) (bb (cH (x1 (aa ax (va 6) (ph (va 7) cN)))))) (fN (va 5) (bb (cH (x1 (aa ax (va 6) (ph (va 7) cN)))))) ac))))) aB) (ab (OA 6 7 (jX (Oz (x2 (va 6) (va 7))) (bJ ke (x2 (va 6) (va 7)))) (yR 2 (cx (br 8) (cx (br 9) mM))) (ab (kP 3 (va 8) (j8 cP (x3 (va 0) (aa ax (aa ax (va 1) (va 8)) (cI 1)) (aa ax (va 9) (cI 0)))) (bu cP (x3 (va 0) (aa ax (aa ax (va 1) (va 8)) (cI 1)) (aa ax (va 9) (cI 0))))) aB)) (ab (av 4 (aY (bJ jJ (x1 (va 7))) ac (gT (x1 (va 7))))) (ab (cX 5 (bo (aa ax (va 6) (ph (va 7) (va 4))))) aB)))))) (ab (aI (Ov "plan" 3) (bW (aY (dA (x2 (cS "plan") (va 3))) ac (oi (x2 (aZ (cS "plan") ac ac) (aZ (va 3) ac ac)))))) aB)))))
def ya:∀ps:List Sd,tR (ps.map sdD)=!!23
|[]=>rfl|p::ps=>by show((JC (sdD p)).bind λns=>(tR (ps.map sdD)).bind λr=>!ns::r)=_;rw[ya];rfl
def Ds(ps:List Sd):∀k,k<ps.length->(ps.take (k+1)).foldl mx none=ps[argBest (zj !23) k]?/\argBest (zj !23) k<ps.length
|0,h=>by cases ps with
  |nil=>cases h|cons p ps=>exact#[rfl,h]
|k+1,h=>by
  let[ih,hl]:=Ds ps k !6;have gd:∀i(hi:i<ps.length),(!23).getD i []=[ps[i].1,ps[i].2]:=λi hi=>by rw[List.getD_eq_getElem?_getD,getElem?_map,getElem?_eq_getElem hi];rfl
  rw[List.take_add_one,getElem?_eq_getElem h,List.foldl_append,ih,getElem?_eq_getElem hl];show mx (!_) _=_/\_;have e:argBest (zj !23) (k+1)=if zj (!23) (k+1) (argBest (zj !23) k)then k+1 else argBest (zj !23) k:=rfl;have e2:zj (!23) (k+1) (argBest (zj !23) k)=pC (some ps[argBest (zj !23) k]) ps[k+1]:=by show HT.lexLt ((!23).getD (argBest (zj !23) k) []) ((!23).getD (k+1) [])=_;rw[gd,gd];rfl
  rw[e,e2];unfold mx;split;.exact#[(getElem?_eq_getElem h).symm,h]
  .exact#[(getElem?_eq_getElem hl).symm,hl]
def Gn{ps:List Sd}(h:ps≠[]):∃m,ps.foldl mx none=!m/\tU [.lst (ps.map sdD)]=!sdD m/\m∈ps:=by
 have g:=List.length_pos_iff.mpr h;let[e,hi]:=Ds ps (ps.length-1) !6;rw[show ps.length-1+1=ps.length by lia,List.take_length,getElem?_eq_getElem hi]at e;refine#[_,e,?_,List.getElem_mem hi];unfold tU;dsimp only;rw[ya,Option.bind_some,if_neg (by cases ps with
|nil=>exact absurd rfl h|cons _ _=>exact Bool.false_ne_true),length_map,getElem?_map,getElem?_eq_getElem hi];rfl
def Dt{ps:List Sd}(h:ps≠[]):∃m,ps.foldl mx none=!m/\jJ [.lst (ps.map sdD)]=!sdD m/\m∈ps:=by let[m,h1,h2,g]:=Gn h;refine#[m,h1,?_,g];cases ps with
|nil=>exact absurd rfl h|cons p ps=>exact h2
def yb{b:Os}:∀{ps:List Sd},(∀p∈ps,pC b p=true)->ps≠[]->ps.foldl mx b=ps.foldl mx none
|[],_,h=>absurd rfl h|p::ps,g,_=>by show ps.foldl mx (mx b p)=ps.foldl mx (mx none p);unfold mx;rw[if_pos (g p mem_cons_self)];rfl
def wG:∀os:List Os,jF (os.map bD)=true/\bF (os.map bD)<=1
|[]=>#[rfl,Nat.zero_le _]|o::os=>by let[a,b]:=wG os;cases o with
|none=>exact#[a,by show max 0 (bF (os.map bD))<=1;omega]|some p=>exact#[by show(true&&jF (os.map bD))=true;rw[a];rfl,by show max (max 0 (max 0 0)+1) (bF (os.map bD))<=1;omega]
def NI(os:List Os):Jz .non (.lst (os.map bD))=!.bl (os.any Option.isNone):=by let[a,b]:=wG os;show(if(lG .non&&jF (os.map bD)&&decide (bF (os.map bD)<=50))=true then !D.bl ((os.map bD).any λc=>iD c .non)else none)=_;rw[a,decide_eq_true (by lia),if_pos (by rfl),List.any_map];congr 3;funext o;cases o<;>rfl
def Du{os:List Os}(h:o∈os):∃j,zh (os.map bD) (bD o)=!j/\os[j]?=!o:=by
 let[a,b]:=wG os;have ok:lG (bD o)=true:=by cases o<;>rfl
 have eq:∀o',iD (bD o') (bD o)=decide (o'=o):=λo'=>by cases o' with
|none=>cases o<;>rfl|some p=>cases o with
|none=>rfl|some q=>show(p.1==q.1&&(p.2==q.2&&true))=decide (some p=!q);rw[Bool.eq_iff_iff];simp[Prod.ext_iff]
 unfold zh;rw[ok,a,decide_eq_true (by lia),if_pos (by rfl),List.findIdx?_map];cases g:os.findIdx? ((λc=>iD c (bD o))∘bD)with
|none=>have:=List.findIdx?_eq_none_iff.mp g o h;simp[eq]at this|some j=>let[l,h1,_]:=List.findIdx?_eq_some_iff_getElem.mp g;have h1:iD (bD os[j]) (bD o)=true:=h1;rw[eq]at h1;exact#[j,rfl,by rw[getElem?_eq_getElem l,of_decide_eq_true h1]]
def  po(U:Nat->List Pq)(b:Os)(a:Nat):Os:=(oG U b a).map (·.1)
def lv1_no:∀{L:Ub}{l:Os}{P:List Ub},sj U b L l P=none↔(L.map (po U b)).any Option.isNone=true
|[],l,P=>by simp[sj]|a::L,l,P=>by rw[List.map_cons,List.any_cons,sj];unfold po;cases hq:oG U b a with
|none=>simp|some q=>simpa[po]using lv1_no
def yc:∀{L:Ub}{l:Os}{P:List Ub}{s:Os×List Ub},sj U b L l P=!s->∃qs:List Pq,L.map (oG U b)=qs.map some/\s.1=(qs.map (·.1)).foldl mx l/\s.2=(L.zip qs).foldl (λP x=>P.set x.1 x.2.2) P
|[],l,P,s,h=>by cases h;exact#[[],rfl,rfl,rfl]|a::L,l,P,s,h=>by let[q,hq,h]:=Option.bind_eq_some_iff.mp h;let[qs,e1,e2,e3]:=yc h;exact#[q::qs,by rw[List.map_cons,hq,e1];rfl,e2,e3]
def evX_sp{R L Sp}(h:R (vw Y)=none)(j:L (vw Y)=none)(g:Sp (vw Y)=!e):aY R L Sp Y=!((.deep,e),Y):=by
 have:aZ R L Sp (vw Y)=!e:=by unfold aZ aI;simp only[h,j,nJ,fL,Option.bind_none,g]
 unfold aY aI gy;rw[this];rfl
def Dv{R L Sp}(h:R Y=none)(g:L Y=!ds)(lf:dS ds=true):aZ R L Sp Y=!.lst ds:=by unfold aZ aI;simp only[h,g,nJ,fL,Option.bind_none,Option.bind_some,lf,if_true]
def Dw{fo fk:Fv}{os:List Os}{o:Os}(h1:fo Y=!.lst (os.map bD))(h2:fk Y=!bD o)(g:zh (os.map bD) (bD o)=!j):ph fo fk Y=!iN j:=by unfold ph;rw[h1,Option.bind_some];show((fk Y).bind λy=>(zh (os.map bD) y).bind λj=>!D.int (j:Int))=_;rw[h2,Option.bind_some,g];rfl
def NJ(os:List Os):dS (os.map bD)=true:=ca λd hd=>by let[o,_,rfl]:=UA.mp hd;cases o<;>rfl
abbrev sP(ps:T3)(ls:List Lz)(wd:D)(P:List Ub)(b:Os)(ch:Ub)(o6 o7 o8 o9:T6):Ev:=[sn (ak ps),sn (ay ls),sn wd,dp (wsD P),dp (bD b),dp (rowD ch),o6,o7,o8,o9]
abbrev X3:Fx:=x3 (va 0) (aa ax (aa ax (va 1) (va 8)) (cI 1)) (aa ax (va 9) (cI 0))
abbrev BZ(cw:Fn):TZ:=ab (kP 3 (va 8) (j8 cw X3) (bu cw X3)) aB
structure Opn(nx cw:Fn)(ps:T3)(ls:List Lz)(U:Nat->List Pq):Prop where
 n:ls.length<=24nx:∀a,a<ls.length->∀b:Os,bw (nx [ak ps,ay ls,iN a,bD b])=!bD (po U b a)cw:∀a l,ls[a]?=!l->∀q∈U a,cw [ak ps,iN l.2,.int q.1.1]=dp (wD q.2)
section
variable{nx cw:Fn}{ps:T3}{ls:List Lz}{wd:D}{U:Nat->List Pq}
def HG(W:Opn nx cw ps ls U):∀(zs:List (Nat×Pq))(P:List Ub)(o8 o9:T6),(∀z∈zs,z.1<ls.length/\z.2∈U z.1)->P.length=ls.length->∃o8' o9',cC (dY (yR 2 (cx (br 8) (cx (br 9) mM))) (BZ cw)) (zs.map λz=>.tup [iN z.1,sdD z.2.1]) (sP ps ls wd P b ch o6 o7 o8 o9)=!.nx (sP ps ls wd (zs.foldl (λP x=>P.set x.1 x.2.2) P) b ch o6 o7 o8' o9')
|[],P,o8,o9,_,_=>#[o8,o9,rfl]|z::zs,P,o8,o9,hz,hP=>by
  let[h1,h2]:=hz z Ut;have hl:=getElem?_eq_getElem h1;have ec:=W.cw z.1 _ hl z.2 h2;have a1:ax (ay ls) (iN z.1)=!_:=bn hl;have a2:ax (qC ls[z.1]) (.int 1)=!_:=om _ _ _;have a3:ax (sdD z.2.1) (.int 0)=!_:=jL _ _;let[o8',o9',ih]:=HG W zs (P.set z.1 z.2.2) (sn (iN z.1)) (sn (sdD z.2.1)) (λy hy=>hz y (Uu _ hy)) (by rw[List.length_set];exact hP);refine#[o8',o9',?_];rw[List.map_cons,List.foldl_cons,<-ih];refine jQ ?_ rfl;show ab _ _ (sP ps ls wd P b ch o6 o7 (sn (iN z.1)) (sn (sdD z.2.1)))=_;refine q_st (qk (d:=wD z.2.2) (evX_lf (clF_a.trans ?_) (wk _)) rfl rfl (!6) (by rw[length_map];omega)) ?_;.simp only[sB,a1,a2,a3,ec]
  .show some (Out.nx [_,_,_,dp (.lst ((P.map wD).set (z.1:Int).toNat (wD z.2.2))),_,_,_,_,_,_])=!Out.nx [_,_,_,dp (.lst _),_,_,_,_,_,_];rw[Int.toNat_natCast,List.map_set]
abbrev C7(nx:Fn):Fx:=au [8] (jX ac (va 6)) (bc 8) tQ (bu nx !27)
abbrev A5:Fx:=x1 (aa ax (va 6) (ph (va 7) cN))
abbrev BP(nx cw:Fn):TZ:=ab (av 7 (aY (bb (C7 nx)) (C7 nx) (zN [8] (jX ac (va 6)) (bc 8) tQ (aZ (bu nx !27) ac (FC nx !27))))) (ab (cG (ag (aa Jz cN (va 7))) (gj (aY (dA (x2 (cS "chain") (aa aG (va 5) (bb (cH A5))))) ac (oi (x2 (aZ (cS "chain") ac ac) (aZ (aa aG (va 5) (bb (cH A5))) (fN (va 5) (bb (cH A5))) ac))))) aB) (ab (OA 6 7 (jX (Oz (x2 (va 6) (va 7))) (bJ ke (x2 (va 6) (va 7)))) (yR 2 (cx (br 8) (cx (br 9) mM))) (BZ cw)) (ab (av 4 (aY (bJ jJ (x1 (va 7))) ac (gT (x1 (va 7))))) (ab (cX 5 (bo (aa ax (va 6) (ph (va 7) (va 4))))) aB))))
abbrev sQ(ps:T3)(ls:List Lz)(wd:D)(U:Nat->List Pq)(P:List Ub)(b:Os)(ch L:Ub)(o8 o9:T6):Ev:=sP ps ls wd P b ch (sn (rowD L)) (dp (.lst !36)) o8 o9
def frW_run(h0:J (bV Y)=none)(g:J (bV (frzS [i,j] Y))=!ds)(h:cC (dY tg F) ds (frzS [i,j] Y)=!o):OA i j J tg F Y=!o:=by
 unfold OA aI;have e:cE J tg F (frzS [i,j] Y)=!o:=by unfold cE;rw[g];exact h
 rw[show cE J tg F Y=none by unfold cE;rw[h0];rfl];dsimp only;rw[e]
def lp_step(W:Opn nx cw ps ls U){L:Ub}(hne:L≠[])(hL:∀a∈L,a<ls.length){b:Os}{P:List Ub}{ch:Ub}(hP:P.length=ls.length)(hch:ch.length<=24)(hl:L.length<=24)(o7 l g:T6):(sj U b L b P=none/\∃a∈L,po U b a=none/\BP nx cw (sP ps ls wd P b ch (sn (rowD L)) o7 l g)=!.rt (.deep,.tup [.str "chain",rowD (ch++[a])]))\/∃s a m o7' I C,sj U b L b P=!s/\s.1=!m/\a∈L/\po U b a=!m/\BP nx cw (sP ps ls wd P b ch (sn (rowD L)) o7 l g)=!.nx (sP ps ls wd s.2 (!m) (ch++[a]) (sn (rowD L)) o7' I C):=by
 have hC:∀o7 l g,C7 nx (vw (sP ps ls wd P b ch (sn (rowD L)) o7 l g))=!!36:=λo7 l g=>by rw[List.map_map];refine aE (xs:=L) (mk:=λ(k:Nat)=>D.int (k:Int)) (out:=bD∘po U b) rfl (λa J=>?_) (lt_big (by lia));simp only[sB,stepF_a,wipe_cons,wipe_nil,gNm_a,tQ_a,if_true,(W.nx a (hL a J) b)];rfl
 have e7:aY (bb (C7 nx)) (C7 nx) (zN [8] (jX ac (va 6)) (bc 8) tQ (aZ (bu nx !27) ac (FC nx !27))) (sP ps ls wd P b ch (sn (rowD L)) o7 l g)=!((.deep,.lst !36),sP ps ls wd P b ch (sn (rowD L)) o7 l g):=evX_lfs (d:=.lst !36) ((lsF_a ..).trans (congrArg (Option.map D.lst) (hC o7 l g))) rfl (hC o7 l g) (NJ _);have hT:ag (aa Jz cN (va 7)) (vw (sQ ps ls wd U P b ch L l g))=!(L.map (po U b)).any Option.isNone:=by rw[testB_a,bin2_a];show(Jz .non (.lst !36)).bind D.asB=_;rw[NI];rfl
 have at_:∀j o,(L.map (po U b))[j]?=!o->∃a,L[j]?=!a/\po U b a=o:=λj o h=>by rw[getElem?_map]at h;exact Option.map_eq_some_iff.mp h
 cases hs:sj U b L b P with
|none=>
  have hn:=lv1_no.mp hs;rw[hn]at hT;let[o,ho,hi]:=List.any_eq_true.mp hn;obtain rfl:o=none:=Option.isNone_iff_eq_none.mp hi;let[j,hj,T]:=Du ho;let[a,J,ea]:=at_ j none T;have i6:ax (rowD L) (iN j)=!iN a:=bn (mk:=λ(k:Nat)=>D.int (k:Int)) J;have eA:A5 (vw (sQ ps ls wd U P b ch L l g))=![iN a]:=by have:=Dw (fo:=va 7) (fk:=cN) (Y:=vw (sQ ps ls wd U P b ch L l g)) (o:=none) rfl rfl hj;simp only[eX,consX_a,bin2_a,this];show((ax (rowD L) (iN j)).bind λd=>![d])=_;rw[i6];rfl
  have eD:bb (cH A5) (vw (sQ ps ls wd U P b ch L l g))=!.lst [iN a]:=by rw[lsF_a,dpF_a,eA,capL_1];rfl
  have eR:aa aG (va 5) (bb (cH A5)) (vw (sQ ps ls wd U P b ch L l g))=none:=by rw[bin2_a,eD];rfl
  have eC:fN (va 5) (bb (cH A5)) (vw (sQ ps ls wd U P b ch L l g))=!(ch++[a]).map λ(k:Nat)=>D.int (k:Int):=by rw[List.map_append];exact ND (a:=ch.map λ(k:Nat)=>D.int (k:Int)) (b:=[iN a]) rfl eD (by rw[length_append,length_map];exact lt_big (by show ch.length+1<=100;lia))
  refine .inl #[rfl,a,UH J,ea,q_set e7 (seqF_rt ((ifS_t hT).trans (q_ret (evX_sp ?_ rfl ?_))))];.rw[iJ,pA,consX_a,eX,consX_a];exact congrArg (λo:Uj=>(bT ((cS "chain" (vw (sQ ps ls wd U P b ch L l g))).bind λd=>(o.bind λd=>![d]).bind λr=>!d::r)).bind λds=>!D.tup ds) eR
  .rw[Cq,pA,consX_a,eX,consX_a];exact congrArg (λo:Uj=>(bT ((aZ (cS "chain") ac ac (vw (sQ ps ls wd U P b ch L l g))).bind λd=>(o.bind λd=>![d]).bind λr=>!d::r)).bind λds=>!D.tup ds) (Dv (Sp:=ac) eR eC (lf_row _))|some s=>
  let[t,q1,q2,q3]:=yc hs;have hf:(L.map (po U b)).any Option.isNone=false:=Bool.eq_false_iff.mpr λz=>by rw[lv1_no.mpr z]at hs;cases hs
  rw[hf]at hT;have eos:L.map (po U b)=(t.map (·.1)).map some:=by have:=congrArg (List.map (Option.map (·.1))) q1;rw[List.map_map,List.map_map]at this;rw[List.map_map];exact this
  have hlen:t.length=L.length:=by have:=congrArg List.length q1;rw[length_map,length_map]at this;exact this.symm
  have pk:∀z∈L.zip t,oG U b z.1=!z.2:=λz hz=>by let[i,hi]:=List.mem_iff_getElem?.mp hz;let[h1,h2]:=List.getElem?_zip_eq_some.mp hi;have:=congrArg (·[i]?) q1;simp only[getElem?_map,h1,h2,map_some]at this;exact Option.some.inj this
  have hz:∀z∈L.zip t,z.1<ls.length/\z.2∈U z.1:=λz hz=>#[hL _ (List.of_mem_zip hz).1,List.mem_of_find?_eq_some (pk z hz)];have hby:∀p∈t.map (·.1),pC b p=true:=λp hp=>by
   let[q,hq,rfl]:=UA.mp hp;have:some q∈L.map (oG U b):=by rw[q1];exact List.mem_map_of_mem hq
   let[a,_,J]:=UA.mp this;exact List.find?_some (p:=λq:Pq=>pC b q.1) J
  have hps:t.map (·.1)≠[]:=λz=>by have:=congrArg List.length z;rw[length_map,hlen]at this;exact hne (List.eq_nil_of_length_eq_zero this)
  let[m,m1,m2,m3]:=Dt hps;have hm:s.1=!m:=by rw[q2,yb hby hps,m1]
  let[j,hj,T]:=Du (os:=L.map (po U b)) (o:=!m) (by rw[eos];exact List.mem_map_of_mem m3);let[a,J,ea]:=at_ j (!m) T;have i6:ax (rowD L) (iN j)=!iN a:=bn (mk:=λ(k:Nat)=>D.int (k:Int)) J;let[I,C,ez]:=HG (wd:=wd) W (b:=b) (ch:=ch) (o6:=sn (rowD L)) (o7:=sn (.lst !36)) (L.zip t) P l g hz hP;rw[<-q3]at ez;have bd:(L.map (po U b)).map bD=(t.map (·.1)).map sdD:=by rw[eos,List.map_map];rfl
  refine .inr #[s,a,m,sn (.lst !36),I,C,rfl,hm,UH J,ea,q_set e7 (q_if0 hT (q_st (frW_run rfl ?_ ez) (q_set (s:=(.deep,sdD m)) (Y':=sP ps ls wd s.2 b ch (sn (rowD L)) (sn (.lst !36)) I C) (evX_lf (biF_a.trans ?_) rfl) (q_st (bP (ds:=ch.map λ(k:Nat)=>D.int (k:Int)) (ds0:=ch.map λ(k:Nat)=>D.int (k:Int)) (c0:=.deep) (d:=iN a) rfl (evX_lf ?_ rfl) rfl (by rw[length_map];exact lt_big (by lia))) ?_))))];.refine M9 ?_;show vk [rowD L,.lst !36]=_;rw[bd,CD (xs:=L.map λ(k:Nat)=>D.int (k:Int)) (ys:=(t.map (·.1)).map sdD) rfl rfl,we,List.zip_map_right,List.map_map];rfl
  .show jJ [.lst !36]=_;rw[bd];exact m2
  .rw[bin2_a,Dw (fo:=va 7) (fk:=va 4) (o:=!m) rfl rfl hj];exact i6
  .show some (Out.nx [_,_,_,_,_,dp (.lst ((ch.map λ(k:Nat)=>D.int (k:Int))++[iN a])),_,_,_,_])=!Out.nx [_,_,_,_,_,dp (.lst ((ch++[a]).map λ(k:Nat)=>D.int (k:Int))),_,_,_,_];rw[List.map_append];rfl
end
def  fs(U:Nat->List Pq)(a:Nat):List Sd:=(U a).map (·.1)
def Dx(U:Nat->List Pq)(b:Os)(a:Nat):(fs U a).find? (pC b)=po U b a:=by unfold fs po oG;rw[List.find?_map];rfl
structure Lvn(n:Nat)(lv:List Ub)(lvl:Nat->Nat):Prop where
 le:lv.length<=24at_:∀i L,lv[i]?=!L->L≠[]/\L.length<=24/\∀a∈L,a<n/\lvl a=i
section
variable{nx cw:Fn}{ps:T3}{ls:List Lz}{wd:D}{U:Nat->List Pq}
def  NK(n:Nat)(U:Nat->List Pq)(lvl:Nat->Nat)(ch:Ub):Prop:=(∀a∈ch,a<n)/\ch.length<=24/\due (fs U) lvl none (-1) ch=true
def lp_out(W:Opn nx cw ps ls U)(V:Lvn ls.length lv lvl):∀(lw:List Ub)(i:Nat),lv.drop i=lw->∀(b:Os)(P:List Ub)(ch:Ub)(o6 o7 o8 o9:T6),P.length=ls.length->ch.length=i->(∀a∈ch,a<ls.length)->(∀tl,due (fs U) lvl none (-1) (ch++tl)=due (fs U) lvl b ((i:Int)-1) tl)->(∃P' b' ch' o6' o7' o8' o9',run U lw b P=!P'/\cC (dY (br 6) (BP nx cw)) (lw.map rowD) (sP ps ls wd P b ch o6 o7 o8 o9)=!.nx (sP ps ls wd P' b' ch' o6' o7' o8' o9'))\/run U lw b P=none/\∃ch',NK ls.length U lvl ch'/\cC (dY (br 6) (BP nx cw)) (lw.map rowD) (sP ps ls wd P b ch o6 o7 o8 o9)=!.rt (.deep,.tup [.str "chain",rowD ch'])
|[],i,_,b,P,ch,o6,o7,o8,o9,_,_,_,_=>.inl #[P,b,ch,o6,o7,o8,o9,rfl,rfl]|L::lw,i,hd,b,P,ch,o6,o7,o8,o9,hP,hc,hcn,hdu=>by
  have hi:lv[i]?=!L:=by have:=congrArg (·[0]?) hd;simpa[List.getElem?_drop]using this
  have hd':lv.drop (i+1)=lw:=by rw[<-List.drop_drop,hd];rfl
  have il:i<lv.length:=(Us.mp hi).1;have hle:=V.le;let[v1,v2,v3]:=V.at_ i L hi;have du:∀a∈L,∀tl,due (fs U) lvl b ((i:Int)-1) (a::tl)=match po U b a with
|none=>tl.isEmpty|some x=>due (fs U) lvl (!x) (i:Int) tl:=λa ha tl=>by
   rw[due,(v3 a ha).2,if_neg !6,Dx];cases po U b a<;>rfl
  rw[List.map_cons];rcases lp_step (wd:=wd) W v1 (λa ha=>(v3 a ha).1) (b:=b) (ch:=ch) hP (!6) v2 o7 o8 o9 with⟨s1,a,ha,ea,e⟩|⟨s,a,m,p7,p8,p9,s1,s2,ha,ea,e⟩
  .refine .inr #[by rw[run,s1];rfl,ch++[a],#[λx hx=>?_,by rw[length_append];show ch.length+1<=24;omega,by rw[hdu,du a ha,ea];rfl],uE e];rcases mem_append.mp hx with z|z;.exact hcn x z
   .rw[mem_singleton.mp z];exact(v3 a ha).1
  .have ih:=lp_out W V lw (i+1) hd' (!m) s.2 (ch++[a]) (sn (rowD L)) p7 p8 p9 (by rw[m7 s1];exact hP) (by rw[length_append,hc];rfl) (λx hx=>by
    rcases mem_append.mp hx with z|z;.exact hcn x z
    .rw[mem_singleton.mp z];exact(v3 a ha).1) λtl=>by rw[List.append_assoc,hdu];show due (fs U) lvl b ((i:Int)-1) (a::tl)=_;rw[du a ha,ea,show((i+1:Nat):Int)-1=(i:Int)by omega] 
   have er:run U (L::lw) b P=run U lw (!m) s.2:=by rw[run,s1,Option.bind_some,s2]
   rw[er];rcases ih with⟨P',b',ch',q6,q7,q8,q9,r1,r2⟩|⟨r1,ch',r2,r3⟩;.exact .inl #[P',b',ch',q6,q7,q8,q9,r1,jQ e r2]
   .exact .inr #[r1,ch',r2,jQ e r3]
end
def Dy{R L Sp}(h:R Y=!.lst ds)(j:L Y=!ds)(g:dS ds=false->Sp Y=!.lst ds):aZ R L Sp Y=!.lst ds:=by unfold aZ aI;simp only[h,j,nJ,fL,Option.bind_some,xH];cases l:dS ds with
|true=>rfl|false=>exact g l
def  Tz(f:Fn):Prop:=∀(lt:oS)(gs:List Gr),(levs lt gs).length<=100->f [bE lt gs]=dp (gR (levs lt gs))
def Ra(I:j "Wish" "level_letters"=true):Tz (aQ 1 2 (jS j)):=λlt g p=>by
 have C:re j "level_letters" (bE lt g)=!gR (levs lt g):=by simp[re,bE,I];rfl
 have r:jX ac (flF j "level_letters" (va 0)) [!bE lt g,none]=!(levs lt g).map aN:=by simp only[jX_none,Hs,va_a,shAt_0,Option.bind_some,C];rfl
 have o:∀l:Ud,jK (x1 (va 1)) [!bE lt g,!aN l]=!aN l:=λl=>by rw[kQ];rfl
 have t:au [1] (jX ac (flF j "level_letters" (va 0))) (bc 1) tQ (jK (x1 (va 1))) [!bE lt g,none]=!(levs lt g).map aN:=aE r λl _=>by simp only[stepF_a,wipe_cons,wipe_nil,gNm_a,tQ_a,set_cons_succ,set_cons_zero,Option.bind_some,if_true,o] (lt_big p);have J:zN [1] (jX ac (flF j "level_letters" (va 0))) (bc 1) tQ (aZ (jK (x1 (va 1))) (ue (x1 (va 1))) (gT (x1 (va 1)))) [!bE lt g,none]=!gR (levs lt g):=by
  have:au [1] (jX ac (flF j "level_letters" (va 0))) (bc 1) tQ (aZ (jK (x1 (va 1))) (ue (x1 (va 1))) (gT (x1 (va 1)))) [!bE lt g,none]=!_:=aE r λl _=>by have:=Dy (Sp:=gT (x1 (va 1))) (o l) (show ue (x1 (va 1)) [!_,!aN l]=some _ from rfl) (λz=>by rw[CN]at z;cases z);simp only[stepF_a,wipe_cons,wipe_nil,gNm_a,tQ_a,set_cons_succ,set_cons_zero,Option.bind_some,if_true,this];rfl (lt_big p);unfold zN;rw[this];rfl
 refine ar rfl ?_;show jS j [sn (bE lt g),none]=_;have:=Dy ((lsF_a ..).trans (congrArg _ t)) t λ_=>J;refine q_ret (Y':=[sn (bE lt g),none]) ?_;unfold aY aI gy;rw[show vw [sn (bE lt g),none]=[!_,none]from rfl,this];rfl
def  lm(fG bS bh eE:Fn):TZ:=ab (cG (kc (bI (jv (bJ fg (x2 (va 0) (cT "tuple"))))) (kc (ag (aa (aP true) (cb (va 0)) (cI 3))) (bI (jv (bJ fg (x2 (!38) (cT "list"))))))) (gj (bo (cB false))) aB) (ab (av 4 (aY (bJ jJ (x1 (bb (fN (bb (cH (x1 (cI 0)))) (bb (au [8,9] (jX ac (va 2)) (nE 2 (aC (bc 8) (aC (bc 9) cv))) tQ (va 9))))))) ac (gT (x1 (bb (fN (bb (cH (x1 (cI 0)))) (bb (au [8,9] (jX ac (va 2)) (nE 2 (aC (bc 8) (aC (bc 9) cv))) tQ (va 9))))))))) (ab (dF (jX (Qu (x2 (va 4) (aa aG (cb (va 1)) (cI 1)))) (bJ ke (x2 (va 4) (aa aG (cb (va 1)) (cI 1))))) (br 5) (ab (av 6 (aY (slF (va 1) noP (partF (va 5))) (nH (va 1) noP (partF (va 5))) ac)) (ab (av 7 (j8 eE (x3 (va 6) (va 2) (va 3)))) (ab (cG (ag (aa (fj true) (va 7) cN)) (ab (cG (kc (bI (jv (bu bh (x1 (aa ax (va 0) (cI 0)))))) (kc (ag (aa (aP true) (aa ax (va 0) (cI 0)) (va 5))) (ag (aa (aP true) (cb !38) (aa cA (va 5) (va 4)))))) (gj (bo (cB false))) aB) (gj (j8 bS (x2 (aa ax (va 0) (cI 1)) (va 7))))) aB) (ab (cG (ag (aa nz (cb !38) (aa cA (va 5) (va 4)))) (gj (bo (cB false))) aB) (ab (cG (bI (jv (bu fG (x4 (va 6) (va 2) (va 3) (aa ax (!38) (aa cA (va 5) (va 4))))))) (gj (bo (cB false))) aB) aB)))))) (gj (bo (mK (aa (fj false) (aa ax (va 0) (cI 0)) cN) (mK (aa (fj false) (aa ax (va 0) (cI 1)) cN) (aa (aP false) (cb !38) (aa cA (aa aG (cb (va 1)) (cI 1)) (va 4)))))))))
def HH{x:α}{y:j}(h:f x=!y):aI f g x=!y:=by unfold aI;rw[h]
def Km(n:Nat):(List.replicate n []).map wD=(!22).map λ_=>wD []:=by rw[List.map_const',length_range,List.map_replicate]
def  R7(mt:MT)(k:Nat):Prop:=∀(lt:oS)(gs:List Gr),(levs lt gs).length<=100->jG mt k "levels" (bE lt gs) []=dp (gR (levs lt gs))
def  Rb(nx cw f:Fn):Prop:=∀(ps:T3)(ls:List Lz)(lt:oS)(gs:List Gr)(U:Nat->List Pq)(lv:List Ub)(lvl:Nat->Nat),Opn nx cw ps ls U->(∀l∈ls,LzOk ps l)->(levs lt gs).length<=100->gR (levs lt gs)=gU lv->Lvn ls.length lv lvl->(∃P,run U lv none (!26)=!P/\f [ak ps,ay ls,bE lt gs]=dp (.tup [.str "plan",wsD P]))\/run U lv none (!26)=none/\∃ch,NK ls.length U lvl ch/\f [ak ps,ay ls,bE lt gs]=dp (.tup [.str "chain",rowD ch])
def Go{mt g}{cw nx lo}(hm:R7 mt g)(C:oF lo):Rb nx cw (aQ 3 10 (lj mt g cw nx lo)):=λps ls lt j U lv lvl W r l t V=>by
 have el:=C ps ls W.n r;have n24:=W.n;have J:∀Y:Vv,aO Y 2=!bE lt j->jX ac (pj (va 2) aw mt g "levels") Y=!_:=λY h=>by show(bw (kA (va 2) aw mt g "levels" Y)).bind seqD=_;unfold kA;rw[va_a,h,Option.bind_some];show(bw (jG mt g "levels" (bE lt j) [])).bind seqD=_;rw[hm lt j l,t];rfl
 have I:au [8] (jX ac (va 1)) (bc 8) tQ (dA aw) (vw [sn (ak ps),sn (ay ls),sn (bE lt j),none,none,none,none,none,none,none])=!(!26).map wD:=by rw[Km,show((List.range ls.length).map λ_=>wD [])=ls.map λ_=>wD []by rw[List.map_const',List.map_const',length_range]];exact aE rfl (λk _=>rfl) (lt_big (by lia))
 have pre:∀s:Sl,ab (dF (jX ac (pj (va 2) aw mt g "levels")) (br 6) (BP nx cw)) (ab (aI (Ov "plan" 3) (bW (aY (dA (x2 (cS "plan") (va 3))) ac (oi (x2 (aZ (cS "plan") ac ac) (aZ (va 3) ac ac)))))) aB) (sP ps ls (bE lt j) (!26) none [] none none none none)=!.rt s->aQ 3 10 (lj mt g cw nx lo) [ak ps,ay ls,bE lt j]=!s:=λs h=>by refine ar rfl (rR (clF_a.trans (congrArg bw el)) (q_set (evX_lfs ((lsF_a ..).trans (congrArg _ I)) rfl I (lf_ws _)) (q_set (evX_lf rfl rfl) (q_set (evX_lfs rfl rfl rfl rfl) h))))
 rcases lp_out W V lv 0 rfl none (!26) [] none none none none (List.length_replicate ..) rfl (λ_ h=>nomatch h) λtl=>rfl with⟨P,b,T,o6,o7,o8,o9,p,o⟩|⟨p,T,o,r3⟩;.exact .inl #[P,p,pre _ (q_st (iY (J _ rfl) o) (seqF_rt (HH rfl)))]
 .exact .inr #[p,T,o,pre _ (seqF_rt (iY (J _ rfl) r3))]
def  pD:TZ:=ab (av 2 (bo (aa ax (bb (cH (ae (cI 2) (ae (cI 1) (ae (cI 3) (ae (cI 2) (x6 (cI 0) (cI 2) (cI 3) (cI 4) (cI 6) (cI 5)))))))) (aa aJ (aa ax (va 0) (va 1)) (cI 10))))) (ab (av 3 sC) (ab (av 4 (bo (cI 1))) (ab (dF (jR (x1 (va 2))) (br 5) (ab (av 6 (bo (aa ax (va 0) (aa aG (aa aG (va 1) (cI 1)) (va 5))))) (ab (av 7 (aY (aa aG (cI 1) (aa aJ (va 6) (cI 3))) (fN (cI 1) (aa aJ (va 6) (cI 3))) ac)) (ab (cG (ag (aa (aP false) (aa aJ (aa bv (va 6) (cI 3)) (cI 5)) (cI 0))) (ab (av 7 (aY (aa aG (cI 1) (aa aJ (aa bv (va 6) (cI 15)) (cI 6))) (fN (cI 1) (aa aJ (aa bv (va 6) (cI 15)) (cI 6))) ac)) aB) aB) (ab (av 7 (aY (bJ jJ (x2 (cI 1) (bJ ED (x2 (va 7) (aa bv (cI 54) (va 4)))))) ac (gT (x2 (cI 1) (bJ ED (x2 (va 7) (aa bv (cI 54) (va 4)))))))) (ab (av 4 (bo (aa aM (va 4) (va 7)))) (ab (av 8 sC) (ab (dF (jR (x1 (va 7))) (br 9) (ab (av 10 (bo (aa ax (bb (cH (x2 (cS "queue") (cS "pile")))) (aa aJ (aa bv (va 6) (aa td (cI 90) (va 9))) (cI 2))))) (ab (av 11 (aY (bb (cH (x4 (cI 9) (cI 9) (aa aJ (aa bv (va 6) (aa aG (cI 7) (va 9))) (cI 10)) (aa aJ (aa bv (va 6) (aa aG (cI 7) (va 9))) (cI 4))))) (cH (x4 (cI 9) (cI 9) (aa aJ (aa bv (va 6) (aa aG (cI 7) (va 9))) (cI 10)) (aa aJ (aa bv (va 6) (aa aG (cI 7) (va 9))) (cI 4)))) (uf (x4 (aZ (cI 9) ac ac) (aZ (cI 9) ac ac) (aZ (aa aJ (aa bv (va 6) (aa aG (cI 7) (va 9))) (cI 10)) ac ac) (aZ (aa aJ (aa bv (va 6) (aa aG (cI 7) (va 9))) (cI 4)) ac ac))))) (ab (cX 8 (aY (dA (x2 (va 10) (aa ax (va 11) (aa aJ (aa bv (va 6) (aa td (cI 5760) (va 9))) (cI 4))))) ac (oi (x2 (aZ (va 10) ac ac) (aZ (aa ax (va 11) (aa aJ (aa bv (va 6) (aa td (cI 5760) (va 9))) (cI 4))) ac ac))))) aB)))) (ab (pi 3 8 (bo (va 8)) (va 8)) aB))))))))) (ab (rJ 3) aB))))
def  oH(fl:Str->Str->Bool)(lV:Uh->Option !39)(mt_many:MT)(kk:Nat)(aF:Fn):TZ:=ab (cG (bI (jv (bu aF (x3 (va 1) (cI 0) (pj (va 0) aw mt_many kk "many"))))) (ab noO' aB) aB) (gj (aY (M3 "Mill" lV (x1 (slF (flF fl "passes" (va 0)) noP (partF (va 1))))) ac (gT (x1 (slF (flF fl "passes" (va 0)) noP (partF (va 1)))))))
def Kn(h:0<=j)(h2:j<=1000000)(g:i.natAbs<2^64):td (.int i) (.int j)=!.int (i*2^j.toNat):=by unfold td;exact if_pos #[h,h2,g]
def ye(hi:0<i)(l:i<10000)(h:0<=j)(h2:j<=6):∃v,(td (.int i) (.int j)).bind (bv (.int n))=!.int v:=by
 rw[Kn h (by lia) !6];have e:(2:Int)^j.toNat<=64:=by
  have:j.toNat<=6:=by lia
  have z:∀k:Nat,k<=6->(2:Int)^k<=64:=by decide
  exact z _ this
 have g:(0:Int)<2^j.toNat:=Int.pow_pos !2;generalize(2:Int)^j.toNat=q at e g;refine#[n/(i*q),?_];have h2:i*q<=10000*64:=Int.mul_le_mul (by lia) e (by lia) (by lia);exact bK (Int.mul_pos hi g) (by lia)
def Gp(h1:cX i g Y=none)(h0:ownL Y i=!(c0,ds0))(h2:R (bV (frzS [j] Y))=!d)(l:ownL (frzS [j] Y) i=!(c,ds))(p:newCat c (.sh,d)=.top)(o:ds.length+1<big):pi i j g R Y=!.nx ((frzS [j] Y).set i !(.top,.lst (ds++[d]))):=by
 unfold pi aI;rw[h1];unfold cX qX;simp only[h0,h2,l,Option.bind_some];rw[if_pos o,p]
def  yg(f:Fn):Prop:=∀cs:Ud,cs.length=80->∃c,∃ps:T3,Valid ps/\prod ps<=54/\f [aN cs,.int 25]=!(c,bz ps)
def Gq(h:zO p=true):1<=p.length:=by unfold zO at h;rw[and_eq_true,and_eq_true]at h;exact Uv h.1.1
def uF:∀{ps:T3},(∀p∈ps,zO p=true)->1<=prod ps
|[],_=>by decide|p::ps,h=>Nat.mul_pos (Gq (h p Ut)) (uF λq hq=>h q (Uu _ hq))
def Dz(g:Valid ps)(c:Nat):Valid (ps.take c):=by
 have e:prod ps=prod (ps.take c)*prod (ps.drop c):=by rw[<-cL,List.take_append_drop]
 have h2:prod (ps.take c)*1<=prod (ps.take c)*prod (ps.drop c):=Nat.mul_le_mul_left _ (uF (ps:=ps.drop c) λp j=>g.each p (List.mem_of_mem_drop j));have o:=g.codes;have l:=g.len;exact#[by rw[List.length_take];lia,λp j=>g.each p (List.mem_of_mem_take j),by lia]
def DA(g:ur l)(r:Valid ps):l [.tup (ps.map iL)]=![(("passes":Str),fB ps)]:=by
 have j:(ps.map λp=>(false,p)).map (·.2)=ps:=by rw[List.map_map];exact List.map_id ps
 have o:(ps.map λp=>(false,p)).map rO=ps.map iL:=by rw[List.map_map];rfl
 have q:=g false (ps.map λp=>(false,p)) (by rw[j];exact r);rw[j,o]at q;exact q
def  so(f:Fn):Prop:=∀(ps:T3)(c:Nat),Valid ps->c<=ps.length->f [ak ps,.int (c:Int)]=!(.sh,ak (ps.take c))
def Gs{g j mt r p}(o:g "Mill" "passes"=true)(l:ur j)(J:xK mt r)(t:fA p):so (aQ 2 2 (oH g j mt r p)):=λps c C U=>by
 have I:az 2 [ak ps,.int (c:Int)]=[!_,!(.sh,.int (c:Int))]:=rfl;have T:=DA l (Dz C c);have mk:∀Y:Vv,aO Y 0=!ak ps->aO Y 1=!.int (c:Int)->M3 "Mill" j (x1 (slF (flF g "passes" (va 0)) noP (partF (va 1)))) Y=!ak _:=λY h0 h1=>by simp only[ui,consX_a,nilX_a,CL o h0 h1,Option.bind_some,T];rfl
 have h1:(c:Int)<=(ps.length:Int):=by lia
 refine ar rfl ?_;rw[I];refine q_if0 ?_ (q_ret (lM (mk _ rfl rfl) rfl rfl ?_ rfl (mk _ rfl rfl)));.simp[J ps,t (c:Int) 0 (ps.length:Int),h1]
 .show(x1 _ _).bind ke=none;cases x1 (slF (flF g "passes" (va 0)) noP (partF (va 1))) (vw [!(.sh,ak ps),!(.sh,.int (c:Int))])<;>rfl
def HI{t:Nat}(h0:aO Y i=!bz ps)(h1:aO Y j=!.int (t:Int)):slF (va i) noP (partF (va j)) Y=!bz !30:=by unfold slF aI qU nH;simp[h0,h1,bz,kR]
def  oI(mt_many:MT)(kk:Nat):TZ:=ab (av 2 (bo (Qs (x1 (bb (au [3,4] (jX ac (va 1)) (nE 2 (aC (bc 3) (aC (bc 4) cv))) tQ (va 4)))) 0))) (gj (aY (sA (x1 (bJ ke !20)) (aI (FA !20) (ue (x1 (bJ ke !20))))) (aI (FA !20) (ue (x1 (bJ ke !20)))) (gT (x1 (bJ ke !20)))))
def  uG(dh dg cf aK:Fn):TZ:=ab (mB (bu aK (x2 (va 0) (va 1)))) (ab (av 3 sC) (ab (dF (jX ac (bu dh (x2 (va 0) (va 1)))) (br 4) (ab (av 5 (j8 cf (x3 (bu dg (x2 (va 0) (va 4))) (va 1) (va 2)))) (ab (cG (ag (aa (aP false) (aa ax (va 5) (cI 0)) (cS "plan"))) (ab (aI (bW (ze (va 4) (zd 5 1) 3)) (bW (aY (dA (x3 (va 4) (aa ax (va 5) (cI 1)) (va 3))) ac (oi (x3 (aZ (va 4) ac ac) (aZ (aa ax (va 5) (cI 1)) ac ac) (aZ (va 3) ac ac)))))) aB) aB) (ab (cX 3 (zd 5 1)) aB)))) (ab (aI (bW (ze cN (bo cN) 3)) (bW (aY (dA (x3 cN cN (va 3))) ac (oi (x3 (aZ cN ac ac) (aZ cN ac ac) (aZ (va 3) ac ac)))))) aB)))
def  bse:List Lz->Nat
|[]=>0|l::ls=>max l.2 (bse ls)
def oJ:∀{ls:List Lz}{l:Lz},l∈ls->l.2<=bse ls
|l0::ls,l,h=>by
  show l.2<=max l0.2 (bse ls);rcases mem_cons.mp h with rfl|h;.omega
  .have:=oJ h;omega
def bse_in:∀ls:List Lz,bse ls=0\/∃l∈ls,l.2=bse ls
|[]=>.inl rfl|l::ls=>by
  show max l.2 (bse ls)=0\/∃l'∈l::ls,l'.2=max l.2 (bse ls);rcases bse_in ls with h|⟨l',h1,h2⟩;.exact .inr #[l,Ut,by omega]
  .rcases Nat.le_total l.2 (bse ls)with c|c;.exact .inr #[l',Uu _ h1,by omega]
   .exact .inr #[l,Ut,by omega]
def DB(h1:m∈ns)(h2:∀y∈ns,y<=m):BO ns=m:=by let[a,b]:=BQ (ns:=ns) (λz=>by subst z;cases h1);have:=h2 _ a;have:=b _ h1;lia
def Ko(ls:List Lz):(if(ls.map λl=>(l.2:Int)).isEmpty=true then(0:Int)else BO (ls.map λl=>(l.2:Int)))=(bse ls:Int):=by cases ls with
|nil=>rfl|cons l ls=>
  refine DB ?_ λy j=>?_
  .rcases bse_in (l::ls)with h|⟨g,h1,h2⟩;.have:=oJ (Ut (a:=l) (l:=ls));exact UA.mpr #[l,Ut,by lia]
   .exact UA.mpr #[g,h1,by rw[h2]]
  .let[g,h1,rfl]:=UA.mp j;have:=oJ h1;lia
def DC(ls:List Lz):aX (ls.map λl=>.int (l.2:Int))=!ls.map λl=>(l.2:Int):=by induction ls with
|nil=>rfl|cons l ls g=>show(aX (ls.map λl=>.int (l.2:Int))).bind _=_;rw[g];rfl
def Kp{R L Sp}(h:R (vw Y)=!.lst ds)(g:L (vw Y)=!ds)(lf:dS ds=true):aY R L Sp Y=!((.deep,.lst ds),Y):=evX_lfs h rfl g lf
def Kq{mt}(h:jG mt g m d []=!s)(h0:aO Y 0=!d):pj (va 0) aw mt g m Y=!s.2:=by show bw (kA (va 0) aw mt g m Y)=_;unfold kA;rw[va_a,h0,Option.bind_some];show bw (jG mt g m d [])=_;rw[h];rfl
noncomputable def  wH(b n:Nat):Ub:=(List.range (n+1-b)).map λi=>b+i
def  Rc(f:Fn):Prop:=∀(ps:T3)(ls:List Lz),Valid ps->ls.length<=24->(∀l∈ls,LzOk ps l)->f [ak ps,ay ls]=dp (.lst !32)
def Re{mt g}(r:xK mt g):Rc (aQ 2 5 (oI mt g)):=λps ls o I j=>by
 have U:bse ls<=6:=by
  have:=o.len;rcases bse_in ls with h|⟨l,h1,h2⟩;.lia
  .have:=(j l h1).3;lia
 have t:=o.len;refine ar rfl ?_;have C:au [3,4] (jX ac (va 1)) (nE 2 (aC (bc 3) (aC (bc 4) cv))) tQ (va 4) [!ak ps,!ay ls,none,none,none]=!ls.map λl=>.int (l.2:Int):=aE rfl (λl _=>rfl) (lt_big (by lia));have J:pj (va 0) aw mt g "many" [!ak ps,!ay ls,!iN (bse ls),none,none]=!iN ps.length:=by exact Kq (r ps) rfl
 have ex:x2 (va 2) (aa aG (pj (va 0) aw mt g "many") (cI 1)) [!ak ps,!ay ls,!iN (bse ls),none,none]=![iN (bse ls),.int ((ps.length:Int)+1)]:=by rw[pA,consX_a,eX,consX_a,bin2_a,J];rfl
 have T:x1 (bJ ke (x2 (va 2) (aa aG (pj (va 0) aw mt g "many") (cI 1)))) [!ak ps,!ay ls,!iN (bse ls),none,none]=none:=by rw[eX,consX_a,biF_a,ex];rfl
 have p:FA (x2 (va 2) (aa aG (pj (va 0) aw mt g "many") (cI 1))) [!ak ps,!ay ls,!iN (bse ls),none,none]=!!32:=by unfold FA;rw[ex];show(if vh (bse ls:Int)/\vh ((ps.length:Int)+1)/\((ps.length:Int)+1-(bse ls:Int)).toNat<1000 then !gx (bse ls:Int) ((ps.length:Int)+1-(bse ls:Int)).toNat else none)=_;rw[if_pos #[#[Int.le_trans (!2) (Int.natCast_nonneg _),Int.lt_of_le_of_lt (show(bse ls:Int)<=6 by lia) !2],#[Int.le_trans (show-(2^62:Int)<=0 by decide) (by lia),Int.lt_of_le_of_lt (show(ps.length:Int)+1<=7 by lia) !2],by lia]];unfold gx wH;rw[List.map_map,show((ps.length:Int)+1-(bse ls:Int)).toNat=ps.length+1-bse ls by lia];refine congrArg some (List.map_congr_left λi _=>?_);congr 1
 have lf:dS (!32)=true:=ca λd hd=>by let[k,_,rfl]:=UA.mp hd;rfl
 refine q_set (s:=(.deep,iN (bse ls))) (evX_lf ?_ rfl) (q_ret (Kp ?_ ?_ lf));.show Qs _ 0 [!ak ps,!ay ls,none,none,none]=_;unfold Qs;rw[eX,consX_a,lsF_a,C];show(aX (ls.map λl=>.int (l.2:Int))).bind _=_;rw[DC];exact congrArg (λx=>!_) (Ko ls)
 .show sA _ _ [!ak ps,!ay ls,!iN (bse ls),none,none]=_;unfold sA aI;dsimp only;rw[T,lsF_a];rw[p];rfl
 .show aI _ _ [!ak ps,!ay ls,!iN (bse ls),none,none]=_;unfold aI;rw[p]
def  bg(chs:List Ub):D:=.lst (chs.map rowD)
def  R8(lp:Fn)(ps:T3)(ls:List Lz)(wd:D)(U:Nat->Nat->List Pq)(lv:List Ub)(lvl:Nat->Nat)(c:Nat):Prop:=(∃P,run (U c) lv none (!26)=!P/\lp [ak (ps.take c),ay ls,wd]=dp (.tup [.str "plan",wsD P]))\/run (U c) lv none (!26)=none/\∃ch,NK ls.length (U c) lvl ch/\lp [ak (ps.take c),ay ls,wd]=dp (.tup [.str "chain",rowD ch])
def  Rf(n:Nat)(U:Nat->Nat->List Pq)(lv:List Ub)(lvl:Nat->Nat)(b:Nat)(chs:List Ub):Prop:=∀i ch,chs[i]?=!ch->run (U (b+i)) lv none (List.replicate n [])=none/\NK n (U (b+i)) lvl ch
def  Rg(n m:Nat)(U:Nat->Nat->List Pq)(lv:List Ub)(lvl:Nat->Nat)(b:Nat)(d:D):Prop:=∃chs,Rf n U lv lvl b chs/\((∃c P,c=b+chs.length/\c<=m/\run (U c) lv none (List.replicate n [])=!P/\d=.tup [iN c,wsD P,bg chs])\/chs.length=m+1-b/\d=.tup [.non,.non,bg chs])
abbrev sF(ps:T3)(ls:List Lz)(wd:D)(chs:List Ub)(o4 o5:T6):Ev:=[sn (ak ps),sn (ay ls),sn wd,dp (bg chs),o4,o5]
abbrev OR(fp lp:Fn):TZ:=ab (av 5 (j8 lp (x3 (bu fp (x2 (va 0) (va 4))) (va 1) (va 2)))) (ab (cG (ag (aa (aP false) (aa ax (va 5) (cI 0)) (cS "plan"))) (ab (aI (bW (ze (va 4) (zd 5 1) 3)) (bW (aY (dA (x3 (va 4) (aa ax (va 5) (cI 1)) (va 3))) ac (oi (x3 (aZ (va 4) ac ac) (aZ (aa ax (va 5) (cI 1)) ac ac) (aZ (va 3) ac ac)))))) aB) aB) (ab (cX 3 (zd 5 1)) aB))
def few_in(hfp:so fp)(hv:Valid ps)(b:Nat)(hL:∀c,b<=c->c<=ps.length->R8 lp ps ls wd U lv lvl c):∀(k:Nat)(chs:List Ub)(o4 o5:T6),b+chs.length+k=ps.length+1->Rf ls.length U lv lvl b chs->(∃d,Rg ls.length ps.length U lv lvl b d/\cC (dY (br 4) (OR fp lp)) ((List.range k).map λi=>D.int ((b+chs.length+i:Nat):Int)) (sF ps ls wd chs o4 o5)=!.rt (.deep,d))\/∃chs' o4' o5',chs'.length=ps.length+1-b/\Rf ls.length U lv lvl b chs'/\cC (dY (br 4) (OR fp lp)) ((List.range k).map λi=>D.int ((b+chs.length+i:Nat):Int)) (sF ps ls wd chs o4 o5)=!.nx (sF ps ls wd chs' o4' o5')
|0,chs,o4,o5,hk,hC=>.inr #[chs,o4,o5,by omega,hC,rfl]|k+1,chs,o4,o5,hk,hC=>by
  have e1:((List.range (k+1)).map λi=>D.int ((b+chs.length+i:Nat):Int))=iN (b+chs.length)::(List.range k).map λi=>D.int ((b+chs.length+(i+1):Nat):Int):=by rw[List.range_succ_eq_map,List.map_cons,List.map_map];rfl
  have hf:=hfp ps (b+chs.length) hv !6;have hx:∀o5,x3 (bu fp (x2 (va 0) (va 4))) (va 1) (va 2) (vw (sF ps ls wd chs (sn (iN (b+chs.length))) o5))=![ak (ps.take (b+chs.length)),ay ls,wd]:=λo5=>by rw[J8,consX_a,clF_a];show(bw (fp [ak ps,iN (b+chs.length)])).bind _=_;rw[hf];rfl
  have i0:∀(s:Str)(d:D),ax (.tup [.str s,d]) (.int 0)=!.str s:=λs d=>jL _ _;rw[e1];rcases hL (b+chs.length) (!6) !6 with⟨P,r1,r2⟩|⟨r1,ch,r2,r3⟩
  .refine .inl #[.tup [iN (b+chs.length),wsD P,bg chs],#[chs,hC,.inl #[_,P,rfl,by omega,r1,rfl]],uE ?_];show ab _ _ (sF ps ls wd chs (sn (iN (b+chs.length))) o5)=_;refine q_set (s:=(.deep,.tup [.str "plan",wsD P])) (evX_call (d:=.tup [.str "plan",wsD P]) (clF_a.trans ((congrArg (·.bind λds=>bw (lp ds)) (hx o5)).trans (congrArg bw r2))) rfl rfl (fCl_a.trans ((congrArg (·.bind λds=>fZ (lp ds)) (hx o5)).trans (congrArg fZ r2)))) (seqF_rt ((ifS_t ?_).trans (seqF_rt ?_)));.rfl
   .rfl
  .have rc:=few_in hfp hv b hL k (chs++[ch]) (sn (iN (b+chs.length))) none (by rw[length_append];show b+(chs.length+1)+k=_;omega) λi c hi=>by
    by_cases c1:i<chs.length;.rw[getElem?_append_left c1]at hi;exact hC i c hi
    .rw[getElem?_append_right !6]at hi;have c2:i-chs.length=0:=by
      rcases Nat.eq_zero_or_pos (i-chs.length)with z|z;.exact z
      .rw[List.getElem?_eq_none (by show 1<=i-chs.length;omega)]at hi;cases hi
     rw[c2]at hi;cases hi;rw[show i=chs.length by omega];exact#[r1,r2] 
   have e2:((List.range k).map λi=>D.int ((b+(chs++[ch]).length+i:Nat):Int))=(List.range k).map λi=>D.int ((b+chs.length+(i+1):Nat):Int):=List.map_congr_left λi _=>by congr 2;rw[length_append];show b+(chs.length+1)+i=_;omega
   rw[e2]at rc;have st:dY (br 4) (OR fp lp) (iN (b+chs.length)) (sF ps ls wd chs o4 o5)=!.nx (sF ps ls wd (chs++[ch]) (sn (iN (b+chs.length))) none):=by show ab _ _ (sF ps ls wd chs (sn (iN (b+chs.length))) o5)=_;refine q_set (s:=(.deep,.tup [.str "chain",rowD ch])) (evX_call (d:=.tup [.str "chain",rowD ch]) (clF_a.trans ((congrArg (·.bind λds=>bw (lp ds)) (hx o5)).trans (congrArg bw r3))) rfl rfl (fCl_a.trans ((congrArg (·.bind λds=>fZ (lp ds)) (hx o5)).trans (congrArg fZ r3)))) (q_if0 rfl (q_st (bP (ds:=chs.map rowD) (ds0:=chs.map rowD) (c0:=.deep) (d:=rowD ch) (Y':=sF ps ls wd chs (sn (iN (b+chs.length))) none) rfl rfl rfl (by rw[length_map];have:=hv.len;exact Ux (show chs.length+1<=10 by omega) !2)) ?_));show some (Out.nx [_,_,_,dp (.lst (chs.map rowD++[rowD ch])),_,_])=!Out.nx [_,_,_,dp (.lst ((chs++[ch]).map rowD)),_,_];rw[List.map_append];rfl
   rcases rc with⟨d,h1,h2⟩|⟨chs',p4,p5,h1,h2,h3⟩;.exact .inl #[d,h1,(jQ st rfl).trans h2]
   .exact .inr #[chs',p4,p5,h1,h2,(jQ st rfl).trans h3]
def  Gu(lp f:Fn):Prop:=∀(ps:T3)(ls:List Lz)(wd:D)(U:Nat->Nat->List Pq)(lv:List Ub)(lvl:Nat->Nat),Valid ps->ls.length<=24->(∀l∈ls,LzOk ps l)->(∀c,bse ls<=c->c<=ps.length->R8 lp ps ls wd U lv lvl c)->∃d,Rg ls.length ps.length U lv lvl (bse ls) d/\f [ak ps,ay ls,wd]=dp d
def NM{r fp t lo}(T:Rc r)(J:so fp)(I:oF lo):Gu t (aQ 3 6 (uG r fp t lo)):=λps ls wd U lv lvl hv j g hL=>by
 have hb:bse ls<=ps.length:=by
  rcases bse_in ls with h|⟨l,h1,h2⟩;.lia
  .have:=(g l h1).3;lia
 have ej:(!32)=(List.range (ps.length+1-bse ls)).map λi=>D.int ((bse ls+([]:List Ub).length+i:Nat):Int):=by unfold wH;rw[List.map_map];rfl
 have C:jX ac (bu r (x2 (va 0) (va 1))) (bV (sF ps ls wd [] none none))=!!32:=by rw[jX_none,clF_a];exact congrArg (λo=>(bw o).bind seqD) (T ps ls hv j g)
 rw[ej]at C;have pre:∀{out:Option Out},ab (dF (jX ac (bu r (x2 (va 0) (va 1)))) (br 4) (OR fp t)) (ab (aI (bW (ze cN (bo cN) 3)) (bW (aY (dA (x3 cN cN (va 3))) ac (oi (x3 (aZ cN ac ac) (aZ cN ac ac) (aZ (va 3) ac ac)))))) aB) (sF ps ls wd [] none none)=out->uG r fp t lo [sn _,sn _,sn wd,none,none,none]=out:=λ{out}h=>by exact rR (clF_a.trans (congrArg bw (I ps ls j g))) (q_set (evX_lfs rfl rfl rfl rfl) h)
 rcases few_in J hv (bse ls) hL (ps.length+1-bse ls) [] none none (by show bse ls+0+_=_;lia) λi c hi=>by simp at hi with⟨d,h1,h2⟩|⟨p,o4,o5,h1,h2,h3⟩;.exact#[d,h1,ar rfl (pre (seqF_rt (iY C h2)))]
 .refine#[.tup [.non,.non,bg p],#[p,h2,.inr #[h1,rfl]],ar rfl (pre (q_st (iY C h3) ?_))];rfl
def  mO:TZ:=gj (bo (mK (bJ fg (x2 (va 0) (cT "int"))) (Aw (bJ fg (x2 (va 0) (cT "bool"))))))
def  jT:TZ:=ab (av 2 (aY (sA (x1 (bJ ke (x1 (cb (va 1))))) (aI (JR (x1 (cb (va 1)))) (ue (x1 (bJ ke (x1 (cb (va 1)))))))) (aI (JR (x1 (cb (va 1)))) (ue (x1 (bJ ke (x1 (cb (va 1))))))) (gT (x1 (bJ ke (x1 (cb (va 1)))))))) (ab (av 3 sC) (ab (dF (jR (x1 (cb (va 1)))) (br 4) (ab (av 5 (bo (aa ax (va 0) (aa aG (cI 32) (va 4))))) (ab (cG (kc (ag (aa (aP false) (va 4) (cI 0))) (ag (aa (aP false) (aa aJ (va 5) (cI 3)) (cI 0)))) (ab (cX 3 (aY (dA (x2 (aa ax (bb (cH (x3 (cS "any") (cS "come") (cS "row")))) (aa aJ (aa bv (va 5) (cI 3)) (cI 3))) (bb (cH aw)))) ac (oi (x2 (aZ (aa ax (bb (cH (x3 (cS "any") (cS "come") (cS "row")))) (aa aJ (aa bv (va 5) (cI 3)) (cI 3))) ac ac) (aZ (bb (cH aw)) (cH aw) (uf aw)))))) aB) aB) (ab (zc 3 2 (aa aJ (aa bv (va 5) (cI 9)) (cb (va 2)))) aB)))) (ab (rJ 3) aB)))
def Gv(h0:0<=q)(h:q<3):q.toNat<3/\ax (.lst [.str "any",.str "come",.str "row"]) (.int q)=!.str (kdS q.toNat):=by rcases show q=0\/q=1\/q=2 by lia with rfl|rfl|rfl<;>exact#[by decide,rfl]
def Kr(a b c:D):bT (![a,b,c])=![a,b,c]:=c9 (show 3<big by decide)
def  sr(f:Fn):Prop:=∀n:Int,f [.int n]=!(.deep,.bl true)
def Gw:sr (aQ 1 1 mO):=λn=>by refine ar rfl (q_ret (evX_lf ?_ rfl));simp[az]
def NO{j:List Gr}(h:j≠[]):∃g0 g,j=g0++[g]:=#[j.dropLast,j.getLast h,(List.dropLast_concat_getLast h).symm]
def DD{α β:Type}(f:α->β):∀(l:List α)(q:Nat),(l.map f).eraseIdx q=(l.eraseIdx q).map f
|[],_=>rfl|a::l,0=>rfl|a::l,q+1=>by show f a::(l.map f).eraseIdx q=f a::(l.eraseIdx q).map f;rw[DD f l q]
def yh{α:Type}:∀(l:List α)(q:Nat)(h:q<l.length),(l[q]::l.eraseIdx q).Perm l
|a::l,0,_=>.refl _|a::l,q+1,h=>by have ih:=yh l q (by rw[length_cons]at h;omega);exact(List.Perm.swap a _ _).trans (ih.cons a)
def Ks{k:Nat}{r rest}(hi:d8 Y i=!(.deep,bR (g0++[(k,r)])))(hj:d8 Y j=!(.deep,rowD rest))(hij:i≠j)(hR:R (vw Y)=!.int (q:Int))(hq:q<rest.length)(h1:rest.length<=24)(h2:r.length<=24):zc i j R Y=!.nx ((Y.set j !(.deep,rowD (rest.eraseIdx q))).set i !(.deep,bR (g0++[(k,r++[rest[q]])]))):=by
 unfold zc;have d1:nO Y i=!(g0++[(k,r)]).map lb:=by unfold nO;rw[show ownL Y i=some _ by unfold ownL;rw[hi];rfl];rfl
 have d2:nO Y j=!rest.map λ(k:Nat)=>D.int (k:Int):=by unfold nO;rw[show ownL Y j=some (.deep,rest.map λ(k:Nat)=>D.int (k:Int))by unfold ownL;rw[hj];rfl];rfl
 have d3:tM ((g0++[(k,r)]).map lb)=!(g0.length,.str (kdS k),r.map λ(k:Nat)=>D.int (k:Int)):=by
  unfold tM;have e:((g0++[(k,r)]).map lb).length-1=g0.length:=by rw[length_map,length_append];show g0.length+1-1=_;omega
  rw[if_neg (by rw[List.map_append];simp),e,List.map_append,getElem?_append_right (by rw[length_map];exact UI _),length_map,Nat.sub_self];exact if_pos rfl
 rw[d1,Option.bind_some,d3,Option.bind_some,d2,Option.bind_some,hR,Option.bind_some];have e1:Fj (rest.map λ(k:Nat)=>D.int (k:Int)).length (.int (q:Int))=!q:=by rw[length_map];show(if 0<=(q:Int)/\(q:Int)<=(rest.length:Int)then some (q:Int).toNat else none)=_;rw[if_pos #[by omega,by omega],Int.toNat_natCast]
 have e2:(rest.map λ(k:Nat)=>D.int (k:Int))[q]?=!.int (rest[q]:Nat):=by rw[getElem?_map,getElem?_eq_getElem hq];rfl
 rw[e1,Option.bind_some,e2,Option.bind_some,if_pos #[hij,rfl,by rw[length_map];exact lt_big !6,by show(r.map _).length+1<big;rw[length_map];exact lt_big !6]];have e3:(rest.map λ(k:Nat)=>D.int (k:Int)).eraseIdx q=(rest.eraseIdx q).map λ(k:Nat)=>D.int (k:Int):=DD _ _ _;have e4:((g0++[(k,r)]).map lb).set g0.length (.tup [.str (kdS k),.lst ((!8)++[.int (rest[q]:Nat)])])=(g0++[(k,r++[rest[q]])]).map lb:=by
  rw[List.map_append,List.set_append_right _ _ (by rw[length_map];exact UI _),length_map,Nat.sub_self,List.map_append];have e5:rowD (r++[rest[q]])=.lst ((!8)++[.int (rest[q]:Nat)]):=by unfold rowD;rw[List.map_append];rfl
  rw[<-e5];rfl
 rw[e3,e4];rfl
def  Kt(f:Fn):Prop:=∀(cs:Ud)(ls:oS),cs.length=80->ls.length<=24->∃gs:List Gr,Good ls.length gs/\f [aN cs,lsD' ls]=!(.deep,bR gs)
def gD(g0:List Gr)(g:Gr):bU (g0++[g])=bU g0++g.2:=by unfold bU;rw[List.flatMap_append];simp
def NP:Kt (aQ 2 6 jT):=λcs ls hc U=>by
 have hs:az 6 [aN cs,lsD' ls]=[!_,!_,none,none,none,none]:=rfl;have y:seqD (lsD' ls)=!_:=rfl;have l:eZ [lsD' ls]=!.int (ls.length:Int):=by simp only[dZ,y,Option.bind_some,length_map]
 have key:∃j,jT [!(.sh,aN cs),!(.sh,lsD' ls),none,none,none,none]=!.rt (.deep,bR j)/\Good ls.length j:=by
  have lr:aI (JR (x1 (cb (va 1)))) (ue (x1 (bJ ke (x1 (cb (va 1)))))) [!aN cs,!lsD' ls,none,none,none,none]=!(List.range ls.length).map λ(k:Nat)=>D.int (k:Int):=No U (by simp only[consX_a,nilX_a,biF_a,va_a,shAt_0,shAt_s,Option.bind_some,l]);refine x_set (evX_lfs (liG_l lr) rfl lr (lf_row _)) (x_set (s:=(.deep,bR [])) (evX_lfs (d:=.lst []) (by simp) rfl (by simp) rfl) (qu (n:=ls.length) (v:=λi=>(i:Int)) (λi Y=>∃rest j J I,rest.length+i=ls.length/\(bU j++rest).Perm (List.range ls.length)/\(∀g∈j,g.2≠[]/\g.1<3)/\(i=0\/j≠[])/\Y=[!_,!_,!(.deep,rowD rest),!(.deep,bR j),J,I]) ?_ #[List.range ls.length,[],none,none,by rw[length_range];rfl,.refl _,(λ_ h=>nomatch h),.inl rfl,rfl] ?_ ?_));.exact gQ (by show(x1 (cb (va 1)) [!aN cs,!lsD' ls,none,none,none,none]).bind nD=_;simp only[consX_a,nilX_a,biF_a,va_a,shAt_0,shAt_s,Option.bind_some,l];exact bN (by lia))
  .rintro i Y hi⟨rest,j,J,I,hl,pm,C,T,rfl⟩;let[x,ex]:=jN (ns:=cs) (i:=32+(i:Int)) (by lia) (by lia);have m3:=md (x/3) (show(0:Int)<3 by decide);let[k3,ek]:=Gv m3.1 m3.2;have mq:=md (x/9) (show(0:Int)<(rest.length:Int)by lia);have hfl:(bU j).length+rest.length=ls.length:=by have:=pm.length_eq;rw[length_append,length_range]at this;exact this
   obtain⟨q,hq⟩:∃q:Nat,x/9%(rest.length:Int)=(q:Int):=#[(x/9%(rest.length:Int)).toNat,by lia];have o:q<rest.length:=by lia
   refine x_set (s:=(.deep,.int x)) (evX_lf ?_ rfl) ?_;.show((!D.int (32+(i:Int))).bind λy=>ax (aN cs) y)=_;rw[Option.bind_some,ex]
   .have tail:∀(g0:List Gr)(k:Nat)(r:Ub),bU (g0++[(k,r)])=bU j->(∀g∈g0,g.2≠[]/\g.1<3)->k<3->∃a,ab (zc 3 2 (aa aJ (aa bv (va 5) (cI 9)) (cb (va 2)))) aB [!(.sh,aN cs),!(.sh,lsD' ls),!(.deep,rowD rest),!(.deep,bR (g0++[(k,r)])),!(.sh,.int (i:Int)),!(.deep,.int x)]=!.nx a/\∃rest j J I,rest.length+(i+1)=ls.length/\(bU j++rest).Perm (List.range ls.length)/\(∀g∈j,g.2≠[]/\g.1<3)/\(i+1=0\/j≠[])/\a=[!(.sh,aN cs),!(.sh,lsD' ls),!(.deep,rowD rest),!(.deep,bR j),J,I]:=by
     intro g0 k r hf h0 hk;have hrl:r.length<=(bU j).length:=by rw[<-hf,gD,length_append];show r.length<=_+r.length;lia
     refine C4 (Ks rfl rfl (!2) ?_ o (by lia) (by lia)) #[rest.eraseIdx q,g0++[(k,r++[rest[q]])],!(.sh,.int (i:Int)),!_,?_,?_,λg p=>?_,.inr (by simp),rfl];.show((bv (.int x) (.int 9)).bind λa=>(eZ [rowD rest]).bind λb=>aJ a b)=_;rw[bK (!2) !2,rV,Option.bind_some,Option.bind_some,eW _ _ (by lia),hq]
     .rw[List.length_eraseIdx_of_lt o];lia
     .refine List.Perm.trans ?_ pm;rw[<-hf,gD,gD,<-List.append_assoc,List.append_assoc];exact(yh rest q o).append_left _
     .rcases mem_append.mp p with h|h;.exact h0 g h
      .rw[mem_singleton.mp h];exact#[by simp,hk]
    have ct:kc (ag (aa (aP false) (va 4) (cI 0))) (ag (aa (aP false) (aa aJ (va 5) (cI 3)) (cI 0))) (vw [!(.sh,aN cs),!(.sh,lsD' ls),!(.deep,rowD rest),!(.deep,bR j),!(.sh,.int (i:Int)),!(.deep,.int x)])=!decide (i=0\/x%3=0):=by
     simp only[mE,testB_a,bin2_a,va_a,vw_some,vw_nil,shAt_0,shAt_s,cI_a,Option.bind_some,xI,eW _ 3,show(0:Int)<3 from by decide,asB_bl];by_cases h1:i=0;.simp[h1]
     .simp[h1]
    by_cases h:i=0\/x%3=0
    .rw[decide_eq_true h]at ct;refine kW ct #[_,(ai (wx (s:=(.deep,lb ((x/3%3).toNat,[]))) rfl (!2) ?_ ?_)).trans rfl,?_]
     .have kk:aa ax (bb (cH (x3 (cS "any") (cS "come") (cS "row")))) (aa aJ (aa bv (va 5) (cI 3)) (cI 3)) [!aN cs,!lsD' ls,!rowD rest,!bR j,!.int (i:Int),!.int x]=!.str (kdS (x/3%3).toNat):=by simp only[bin2_a,lsF_a,dpF_a,consX_a,nilX_a,cS_a,Option.bind_some,Kr,map_some,va_a,shAt_0,shAt_s,cI_a,bK (show(0:Int)<3 by decide) !2,eW _ 3,show(0:Int)<3 from by decide,ek]
      have f1:=ww (L:=ac) (Sp:=ac) kk rfl;refine evX_call (d:=lb ((x/3%3).toNat,[])) ?_ rfl rfl ?_;.show dA _ [!aN cs,!lsD' ls,!rowD rest,!bR j,!.int (i:Int),!.int x]=_;simp only[iJ,consX_a,kk,consX_a,lsF_a,dpF_a,nilX_a,Option.bind_some,capL_2,JT,map_some];rfl
      .show oi _ [!aN cs,!lsD' ls,!rowD rest,!bR j,!.int (i:Int),!.int x]=_;have f2:aZ (bb (cH aw)) (cH aw) (uf aw) [!aN cs,!lsD' ls,!rowD rest,!bR j,!.int (i:Int),!.int x]=!_:=oB rfl rfl rfl;simp only[Cq,consX_a,f1,f2,nilX_a,Option.bind_some,capL_2];rfl
     .rw[length_map];have:=iT λg h=>(C g h).1;exact lt_big (by lia)
     .have t:=tail j (x/3%3).toNat [] (by rw[gD];exact List.append_nil _) C k3;have e:bR (j++[((x/3%3).toNat,[])])=.lst (j.map lb++[lb ((x/3%3).toNat,[])]):=by unfold bR;rw[List.map_append];rfl
      rw[e]at t;exact t
    .rw[decide_eq_false h]at ct;let[g0,[k,r],rfl]:=NO (T.resolve_left λz=>h (.inl z));exact kW ct #[_,rfl,tail g0 k r rfl (λg p=>C g (UC _ p)) (C (k,r) (UD _ Ut)).2]
  .rintro Y⟨rest,j,J,I,hl,pm,C,T,rfl⟩;have:rest=[]:=List.length_eq_zero_iff.mp (by lia);subst this;rw[List.append_nil]at pm;exact#[j,rfl,pm,λg h=>(C g h).1,λg h=>(C g h).2,U]
 let[j,e,G]:=key;exact#[j,G,ar rfl (by rw[hs];exact e)]
def  iZ:TZ:=ab (av 3 (bo (aa aJ (aa bv (aa ax (va 0) (cI 0)) (cI 12)) (cI 2)))) (ab (av 4 sC) (ab (dF (jR (x1 (va 1))) (br 5) (ab (av 6 (bo (aa ax (va 0) (aa aG (cI 1) (va 5))))) (ab (av 7 (bo (aa ax (bb (cH (x5 (cI 1) (cI 1) (cI 2) (cI 3) (aa aG (cI 1) (aa aJ (aa bv (va 6) (cI 5)) (cI 9)))))) (aa aJ (va 6) (cI 5))))) (ab (cX 4 (aY (dA (x2 (va 7) (aa aM (aa aJ (aa bv (va 6) (cI 45)) (aa aG (va 2) (cI 1))) (va 3)))) ac (oi (x2 (aZ (va 7) ac ac) (aZ (aa aM (aa aJ (aa bv (va 6) (cI 45)) (aa aG (va 2) (cI 1))) (va 3)) ac ac))))) aB)))) (ab (rJ 4) aB)))
def Rh(a b c d e:D):bT (![a,b,c,d,e])=![a,b,c,d,e]:=c9 (show 5<big by decide)
def  Ku(f:Fn):Prop:=∀(cs:Ud)(ps:T3)(n:Nat),cs.length=80->n<=8->Valid ps->∃ls:List Lz,ls.length=n/\(∀l∈ls,LzOk ps l)/\f [aN cs,iN n,iN ps.length]=dp (ay ls)
abbrev R9(cs:Ud)(n m:Nat)(t:Int)(ls:List Lz)(o5 o6 o7:T6):Ev:=[sn (aN cs),sn (iN n),sn (iN m),dp (.int t),dp (ay ls),o5,o6,o7]
def TB(x:Int):∃s:Int,1<=s/\s<=9/\ax (.lst [.int 1,.int 1,.int 2,.int 3,.int (1+x/5%9)]) (.int (x%5))=!.int s:=by
 have g:=md x (show(0:Int)<5 by decide);let[d,[s,h1,h2,rfl],e]:=FM (ds:=[.int 1,.int 1,.int 2,.int 3,.int (1+x/5%9)]) (λd=>∃s:Int,1<=s/\s<=9/\d=.int s) g.1 g.2 (by intro d hd;simp only[mem_cons,List.not_mem_nil,or_false]at hd;rcases hd with rfl|rfl|rfl|rfl|rfl<;>exact#[_,by lia,by lia,rfl]);exact#[s,h1,h2,e]
def NQ:Ku (aQ 3 8 iZ):=λcs ps n hc hn hv=>by
 let[p,e0]:=jN (ns:=cs) (i:=0) (!2) (by lia);have ht:=md (p/12) (show(0:Int)<2 by decide);have H:∃ls:List Lz,iZ [sn (aN cs),sn (iN n),sn (iN ps.length),none,none,none,none,none]=!.rt (.deep,ay ls)/\ls.length=n/\∀l∈ls,LzOk ps l:=by
  refine x_set (evX_lf (d:=.int (p/12%2)) ?_ rfl) (x_set (evX_lfs rfl rfl rfl rfl) ?_);.simp only[sB,e0,bK (show(0:Int)<12 by decide) !2,eW _ 2 !2]
  generalize p/12%2=t at ht;refine qu (λi Y=>∃I C r,∃ls:List Lz,ls.length=i/\(∀l∈ls,LzOk ps l)/\Y=R9 cs n ps.length t ls I C r) (gQ (bN (by lia))) #[none,none,none,[],rfl,λ_ h=>(nomatch h),rfl] ?_ ?_
  .rintro i Y hi⟨I,C,r,ls,o,j,rfl⟩;let[x,ex]:=jN (ns:=cs) (i:=1+(i:Int)) (by lia) (by lia);let[s,U,T,es]:=TB x;have g:(0:Int)<(ps.length:Int)+1:=by lia
   have ml:=md (x/45) g;obtain⟨u,hu,J⟩:∃u:Nat,x/45%((ps.length:Int)+1)*t=(u:Int)/\u<=ps.length:=by
    rcases show t=0\/t=1 by lia with rfl|rfl;.exact#[0,by lia,Nat.zero_le _]
    .exact#[(x/45%((ps.length:Int)+1)).toNat,by lia,by lia]
   refine#[_,q_set (evX_lf (d:=.int x) ?_ rfl) (q_set (evX_lf (d:=.int s) ?_ rfl) (q_st (bP (d:=qC (s,u)) rfl (evX_lf ?_ rfl) rfl (by rw[length_map,o];exact Nat.lt_trans (show i+1<1001 by lia) !2)) rfl)),#[sn (iN i),dp (.int x),dp (.int s),ls++[(s,u)],by simp[o],λl hm=>?_,?_]];.simp only[sB,ex]
   .simp only[sB,Rh,bK (show(0:Int)<5 by decide) !2,eW _ 9 !2,eW _ 5 !2,es]
   .simp only[sB,iJ,bK (show(0:Int)<45 by decide) !2,eg g,gB (show(-1000000:Int)<t by lia) (by lia),hu];rfl
   .rcases mem_append.mp hm with z|z;.exact j l z
    .rw[mem_singleton.mp z];exact#[U,T,J]
   .unfold R9 ay;rw[List.map_append];rfl
  .rintro Y⟨I,C,r,ls,o,j,rfl⟩;exact#[ls,rfl,o,j]
 let[ls,h1,h2,h3]:=H;exact#[ls,h2,h3,ar rfl h1]
def  jU:TZ:=ab (av 2 sC) (ab (dF (jX ac (va 1)) (yR 2 (cx (br 3) (cx (br 4) mM))) (ab (cG (ag (aa (aP false) (va 3) (cS "any"))) (ab (cX 2 (aY (sA (!13) (sy !13)) (sy !13) (gT !13))) aB) (ab (cG (ag (aa (aP false) (va 3) (cS "row"))) (ab (aI (nN 2 (bb (au [6] (jX ac (va 4)) (bc 6) tQ (bb (cH (x1 (va 6))))))) (Jx 2 (aY (bb (au [6] (jX ac (va 4)) (bc 6) tQ (bb (cH (x1 (va 6)))))) (au [6] (jX ac (va 4)) (bc 6) tQ (bb (cH (x1 (va 6))))) (zN [6] (jX ac (va 4)) (bc 6) tQ (aZ (bb (cH (x1 (va 6)))) (cH (x1 (va 6))) (uf (x1 (aZ (va 6) ac ac)))))))) aB) (ab (dF (jR (x1 (cI 7))) (br 5) (ab (dF (jX ac (sA (!13) (sy !13))) (br 6) (ab (cG (ag (aa (aP false) (aa ax (aa ax (va 0) (va 6)) (cI 1)) (va 5))) (ab (cX 2 (aY (bb (cH (x1 (va 6)))) (cH (x1 (va 6))) (uf (x1 (aZ (va 6) ac ac))))) aB) aB) aB)) aB)) aB)) aB)) aB)) (ab (rJ 2) aB))
def TC(h:∀p∈ls,0<=p.2/\p.2<7):db (aR ls) l 7=db (aR ls) l 10:=by
 have z:∀t:Nat,7<=t->(l.filter λa=>decide (aR ls a=(t:Int)))=[]:=λt g=>List.filter_eq_nil_iff.mpr λa _=>by
  have:aR ls a<7:=by unfold aR;rw[List.getD_eq_getElem?_getD];cases e:ls[a.toNat]?with
|none=>exact(by decide:(0:Int)<7)|some p=>exact(h p (UH e)).2
  simp;lia
 rw[cM _ _ 9,cM _ _ 8,cM _ _ 7,z 9 !2,z 8 !2,z 7 !2];simp
def  Kv(f:Fn):Prop:=∀(m:Nat)(ls:oS)(gs:List Gr),(∀p∈ls,0<=p.2/\p.2<7)->ls.length=m->Good m gs->∃c,c≠Cat.sh/\f [lsD' ls,bR gs]=!(c,gR (levs ls gs))
def DE(A:List Ud)(F:Ud)(a:Int):A++(F++[a]).map ([·])=(A++F.map ([·]))++[[a]]:=by rw[List.map_append,<-List.append_assoc];rfl
def wI(h0:∀a∈l,0<=f a)(n:Nat):(db f l n).length<=l.length:=by rw[(iO h0 n).length_eq];exact List.length_filter_le _ _
def Kw:Kv (aQ 2 7 jU):=λm ls gs h7 hm G=>by
 have hl:cF ls:=λp hp=>#[(h7 p hp).1,by have:=(h7 p hp).2;lia];have hs:az 7 [lsD' ls,bR gs]=[!_,!_,none,none,none,none,none]:=rfl;have key:∃c,jU [!(.sh,lsD' ls),!(.sh,bR gs),none,none,none,none,none]=!.rt (c,gR (levs ls gs))/\c≠Cat.sh:=by
  refine x_set (s:=(.deep,.lst [])) (evX_lfs (d:=.lst []) (by simp) rfl (by simp) rfl) (x_for (λi Y=>∃c o3 o4 o g,c≠Cat.sh/\Y=[!_,!_,!(c,gR (levs ls (gs.take i))),o3,o4,o,g]) rfl #[.deep,none,none,none,none,by simp,rfl] ?_ ?_)
  .rintro i⟨k,r⟩Y T⟨c,o3,o4,o,g,l,rfl⟩;have gm:=UH T;have hfl:=G.len;have hle:=G.le;have hr:r.length<=24:=by have:=wu gm;have:r.length<=(bU gs).length:=this;lia
   have n1:∀x∈gs.take i,x.2≠[]:=λx T=>G.ne x (List.mem_of_mem_take T);have b1:=(gp hl n1).1;have b2:=qB (gs:=gs) (i:=i);have s1:∀Y:Vv,aO Y 4=!rowD r->sy _ Y=!(srtZ (izs r)).map D.int:=λY h=>by show(x1 (va 4) Y).bind c7=_;simp only[consX_a,nilX_a,va_a,h,Option.bind_some,kN (uz hr)]
   have C:levs ls (gs.take (i+1))=levs ls _++pB ls (k,r):=lS T;rcases show k=0\/k=1\/k=2 by have:k<3:=G.kd _ gm;lia with rfl|rfl|rfl
   .refine kW rfl #[_,(ai (wx (s:=(.deep,aN (srtZ (izs r)))) rfl l ?_ ?_)).trans rfl,x_end #[newCat c (.deep,aN (srtZ (izs r))),!(.sh,.str (kdS 0)),!(.sh,rowD r),o,g,jg _ _,?_]];.have z:=s1 (vw [!(.sh,lsD' ls),!(.sh,bR gs),!(c,gR (levs ls (gs.take i))),!(.sh,.str (kdS 0)),!(.sh,rowD r),o,g]) rfl;exact evX_lfs (liG_l z) rfl z (rW _)
    .rw[length_map];exact lt_big (by lia)
    .rw[C,m6];rfl
   .have lt0:∀a∈srtZ (izs r),0<=aR ls a:=λa _=>(lP hl a).1;have sl:(srtZ (izs r)).length=r.length:=by rw[(gk _).length_eq,mZ]
    have at1:∀a∈srtZ (izs r),ax (lsD' ls) (.int a)=!.tup [.int (ls.getD a.toNat (0,0)).1,.int (aR ls a)]:=λa U=>by
     let[n,hn,rfl]:=UA.mp ((gk _).mem_iff.mp U);have J:n<ls.length:=by rw[hm];exact G.lt gm hn
     have e:ls.getD (n:Int).toNat (0,0)=ls[n]:=by rw[Int.toNat_natCast,List.getD_eq_getElem?_getD,getElem?_eq_getElem J];rfl
     unfold aR;rw[e];exact bn (mk:=ltD') (getElem?_eq_getElem J) 
    obtain⟨Y',e,c',q3,q4,q5,q6,hc',rfl⟩:∃Y',ab (dF (jR (x1 (cI 7))) (br 5) (ab (dF (jX ac (sA (!13) (sy !13))) (br 6) (ab (cG (ag (aa (aP false) (aa ax (aa ax (va 0) (va 6)) (cI 1)) (va 5))) (ab (cX 2 (aY (bb (cH (x1 (va 6)))) (cH (x1 (va 6))) (uf (x1 (aZ (va 6) ac ac))))) aB) aB) aB)) aB)) aB [!(.sh,lsD' ls),!(.sh,bR gs),!(c,gR (levs ls (gs.take i))),!(.sh,.str (kdS 1)),!(.sh,rowD r),o,g]=!_/\∃c' q3 q4 q5 q6,c'≠Cat.sh/\Y'=[!_,!_,!(c',gR (levs ls _)),q3,q4,q5,q6]:=by
     refine qu (n:=7) (v:=λi=>(i:Int)) (λt Y=>∃c o g,c≠Cat.sh/\Y=[!(.sh,lsD' ls),!(.sh,bR gs),!(c,gR (levs ls (gs.take i)++(db (aR ls) (srtZ (izs r)) t).map ([·]))),!(.sh,.str (kdS 1)),!(.sh,rowD r),o,g]) ?_ #[c,o,g,l,?_] ?_ ?_;.exact gQ (bN !2)
     .rw[show db (aR ls) (srtZ (izs r)) 0=[]from rfl,List.map_nil,List.append_nil]
     .rintro t Y I⟨c,o,g,l,rfl⟩;have bl:=wI lt0 t;refine x_for (xs:=srtZ (izs r)) (mk:=D.int) (λj Y=>∃c g,c≠Cat.sh/\Y=[!(.sh,lsD' ls),!(.sh,bR gs),!(c,gR (levs ls (gs.take i)++(db (aR ls) (srtZ (izs r)) t).map ([·])++(((srtZ (izs r)).take j).filter λa=>decide (aR ls a=(t:Int))).map ([·]))),!(.sh,.str (kdS 1)),!(.sh,rowD r),!(.sh,.int (t:Int)),g]) ?_ #[c,g,l,?_] ?_ ?_;.exact jX_none.trans ((congrArg (λx=>Option.bind x seqD) (liG_l (s1 (bV [!(.sh,lsD' ls),!(.sh,bR gs),!(c,gR (levs ls (gs.take i)++(db (aR ls) (srtZ (izs r)) t).map ([·]))),!(.sh,.str (kdS 1)),!(.sh,rowD r),!(.sh,.int (t:Int)),g]) rfl))).trans rfl)
      .rw[List.take_zero,List.filter_nil,List.map_nil,List.append_nil];rfl
      .rintro j a Y U⟨c,g,l,rfl⟩;have am:=UH U;have fl:(((srtZ (izs r)).take j).filter λa=>decide (aR ls a=(t:Int))).length<=r.length:=by refine Uy (List.length_filter_le _ _) ?_;rw[List.length_take];lia
       have tk:(srtZ (izs r)).take (j+1)=(srtZ (izs r)).take j++[a]:=by rw[List.take_add_one,U];rfl
       have ct:ag (aa (aP false) (aa ax (aa ax (va 0) (va 6)) (cI 1)) (va 5)) (vw [!(.sh,lsD' ls),!(.sh,bR gs),!(c,gR (levs ls (gs.take i)++(db (aR ls) (srtZ (izs r)) t).map ([·])++(((srtZ (izs r)).take j).filter λa=>decide (aR ls a=(t:Int))).map ([·]))),!(.sh,.str (kdS 1)),!(.sh,rowD r),!(.sh,.int (t:Int)),!(.sh,.int a)])=!decide (aR ls a=(t:Int)):=by show(((ax (lsD' ls) (.int a)).bind λx=>ax x (.int 1)).bind λx=>aP false x (.int (t:Int))).bind D.asB=_;rw[at1 a am];show(aP false (.int (aR ls a)) (.int (t:Int))).bind D.asB=_;rw[xI];rfl
       by_cases I:aR ls a=(t:Int)
       .rw[decide_eq_true I]at ct;refine kW ct #[_,(ai (wx rfl l (evX_lfs rfl rfl rfl rfl) ?_)).trans rfl,x_end #[newCat c (.deep,.lst [.int a]),!(.sh,.int a),jg _ _,?_]];.rw[length_map,length_append,length_append,length_map,length_map];exact lt_big (by lia)
        .rw[tk,List.filter_append,show([a].filter λa=>decide (aR ls a=(t:Int)))=[a]by rw[List.filter_cons,if_pos (decide_eq_true I)];rfl,DE,m6 _ [[a]]];rfl
       .rw[decide_eq_false I]at ct;refine kW ct #[_,rfl,x_end #[c,!(.sh,.int a),l,?_]];rw[tk,List.filter_append,show([a].filter λa=>decide (aR ls a=(t:Int)))=[]by rw[List.filter_cons,if_neg (by rw[decide_eq_false I];decide)];rfl,List.append_nil];rfl
      .rintro Y⟨c,g,l,rfl⟩;refine x_end #[c,!(.sh,.int (t:Int)),g,l,?_];rw[List.take_length,cM,List.map_append,<-List.append_assoc]
     .rintro Y⟨c,o,g,l,rfl⟩;refine x_end #[c,!(.sh,.str (kdS 1)),!(.sh,rowD r),o,g,l,?_];rw[C,TC h7];rfl
    exact kW rfl #[_,(ai ((dQ rfl).trans e)).trans rfl,x_end #[c',q3,q4,q5,q6,hc',rfl]]
   .refine kW rfl #[_,(ai ((ifS_t rfl).trans ((ai (HH (Di (es:=((izs r).map ([·])).map aN) rfl l ?_ ?_))).trans rfl))).trans rfl,x_end #[extC c (((izs r).map ([·])).map aN),!(.sh,.str (kdS 2)),!(.sh,rowD r),o,g,r9 l _,?_]]
    .have q:au [6] (jX ac (va 4)) (bc 6) tQ (bb (cH (x1 (va 6)))) (bV [!(.sh,lsD' ls),!(.sh,bR gs),!(c,gR (levs ls (gs.take i))),!(.sh,.str (kdS 2)),!(.sh,rowD r),o,g])=!r.map λ(a:Nat)=>.lst [.int (a:Int)]:=by refine aE rfl (λa h=>?_) (lt_big (by lia));simp only[xO,stepF_a,wipe_cons,wipe_nil,gNm_a,tQ_a,set_cons_succ,set_cons_zero,Option.bind_some,if_true,lsF_a,dpF_a,consX_a,nilX_a,va_a,shAt_0,shAt_s,capL_1,map_some]
     refine(congrArg _ q).trans ?_;unfold izs;rw[List.map_map,List.map_map];rfl
    .rw[length_map,length_map,length_map,mZ];exact lt_big (by lia)
    .rw[C,m6];rfl
  .rintro Y⟨c,o3,o4,o,g,l,rfl⟩;refine#[c,?_,l];rw[List.take_length];rfl
 let[c,e,l]:=key;exact#[c,l,ar rfl (by rw[hs];exact e)]
def  lq:TZ:=ab (av 3 (aY (bb (cH (x1 (dA aw)))) (cH (x1 (dA aw))) (uf (x1 (aZ (dA aw) ac (oi aw)))))) (ab (dF (jX ac (slF (va 0) (partF (va 1)) noP)) (br 4) (ab (av 5 sC) (ab (zv 3 (jX ac (va 3)) (br 6) (ab (dF (jR (x1 (cb (va 4)))) (br 7) (ab (cG (ag (aa Ix (aa ax (aa ax (va 4) (va 7)) (cI 1)) (va 2))) (ab (cX 5 (aY (aa aG (va 6) (dA (x1 (va 7)))) (fN (va 6) (dA (x1 (va 7)))) ac)) aB) aB) aB)) aB)) (ab (av 3 (bo (va 5))) aB)))) (ab (rJ 3) aB))
def x_forW{α β:Type}{J:Fx}{out:α->Option Out}{r:α->Prop}{xs:List β}{mk}(I:Nat->Ev->Prop)(C:J (bV Y)=none/\g=frzS [j] Y\/g=Y)(U:J (bV g)=!xs.map mk)(h0:I 0 g)(t:∀(i:Nat)(x:β)(Y:Ev),xs[i]?=!x->I i Y->∃Y',(tg (mk x) Y).bind F=!.nx Y'/\I (i+1) Y')(k:∀Y',I xs.length Y'->∃a,G Y'=out a/\r a):∃a,ab (zv j J tg F) G Y=out a/\r a:=by
 have o:∀(i:Nat)(d:D)(Y:Ev),(xs.map mk)[i]?=!d->I i Y->∃Y',(tg d Y).bind F=!.nx Y'/\I (i+1) Y':=λi d Y hd hi=>by rw[getElem?_map]at hd;cases l:xs[i]?with
|none=>rw[l]at hd;cases hd|some x=>rw[l]at hd;cases hd;exact t i x Y l hi
 let[Y',e,i]:=gi (xs.map mk) I _ h0 o;rw[length_map]at i;have p:cE J tg F g=!.nx Y':=by unfold cE;rw[U];exact e
 refine pw ?_ (k _ i);rcases C with⟨T,rfl⟩|rfl;.exact C0 T p
 .unfold zv aI;rw[p]
def  fk(s:Int)(p:List Pk):Ub:=(List.range p.length).filter λk=>decide (s<=(gC p k).2)
def  wst(s:Int)(W:List Ub)(p:List Pk):List Ub:=W.flatMap λw=>(fk s p).map λk=>w++[k]
def  wdw(s:Int)(rs:T3):List Ub:=rs.foldl (wst s) [[]]
def uH(s:Int)(g:T3)(p:List Pk):wdw s (g++[p])=wst s (wdw s g) p:=by unfold wdw;rw[List.foldl_append];rfl
def yi{α β:Type}(g:α->β)(f:α->List β):∀l:List α,(l.flatMap λa=>g a::f a).Perm (l.map g++l.flatMap f)
|[]=>.nil|a::l=>by rw[List.flatMap_cons,List.flatMap_cons,List.map_cons,List.cons_append,List.cons_append];refine List.Perm.cons _ (((yi g f l).append_left (f a)).trans ?_);rw[<-List.append_assoc,<-List.append_assoc];exact List.perm_append_comm.append_right _
def uI(l:Ub):∀W:List Ub,(W.flatMap λw=>l.map λk=>w++[k]).Perm (l.flatMap λk=>W.map λw=>w++[k])
|[]=>by
  have:(l.flatMap λk=>([]:List Ub).map λw=>w++[k])=[]:=by simp
  rw[this];exact .nil|w::W=>by show(l.map _++W.flatMap λw=>l.map λk=>w++[k]).Perm _;exact((uI l W).append_left _).trans (yi (λk=>w++[k]) (λk=>W.map λw=>w++[k]) l).symm
def DF(q:Ub->Bool)(V:List Ub):∀l:Ub,(l.flatMap λk=>(V.map λw=>w++[k]).filter q)=(l.flatMap λk=>V.map λw=>w++[k]).filter q
|[]=>rfl|a::l=>by rw[List.flatMap_cons,List.flatMap_cons,List.filter_append,DF q V l]
def oK(s:Int):∀g:T3,(wdw s g).Perm ((wds g).filter (iQ s g)):=mY (List.Perm.refl _) λg p o=>by
 rw[uH,kX];refine(List.Perm.flatMap_right _ o).trans ((uI _ _).trans ?_);show List.Perm _ (((List.range p.length).flatMap λk=>(wds g).map λw=>w++[k]).filter _);rw[<-DF];have r:∀w∈wds g,w.length=g.length:=λw h=>(fC _ w h).1;have e:∀l:Ub,((l.filter λk=>decide (s<=(gC p k).2)).flatMap λk=>((wds g).filter (iQ s g)).map λw=>w++[k])=l.flatMap λk=>((wds g).map λw=>w++[k]).filter (iQ s _):=λl=>by induction l with
|nil=>rfl|cons k l j=>rw[List.flatMap_cons,List.filter_cons,<-j,List.filter_map];have f:(wds g).filter (iQ s (g++[p])∘λw=>w++[k])=(wds g).filter λw=>iQ s g w&&decide _:=List.filter_congr λw h=>kY p k (r w h);rw[f];cases h:decide (s<=(gC p k).2)with
|true=>rw[if_pos rfl,List.flatMap_cons];simp|false=>rw[if_neg !2];simp
 unfold fk;rw[e]
def evX_fz{R L Sp}(h:R (vw Y)=!d)(f:lfD d=false)(l:L (vw Y)=none)(j:Sp (vw Y)=none)(g:L (bV Y)=none)(h2:R (bV Y)=none):aY R L Sp Y=!((.sh,d),dC Y):=by unfold aY aI gy kz qX AV aZ aI nJ fL;simp[h,l,g,h2,f,j]
abbrev sWo(ps:T3)(t:Nat)(s:Int)(c:Cat)(W:List Ub)(o4 o5 o6 o7:T6):Ev:=[sn (bz ps),sn (iN t),sn (.int s),!(c,wsD W),o4,o5,o6,o7]
def NR(l:w.length<=6)(j:aO Y 6=!wD w)(g:aO Y 7=!iN m):aa aG (va 6) (dA (x1 (va 7))) Y=!wD (w++[m]):=by rw[bin2_a,va_a,j,Option.bind_some,iJ,eX,consX_a,va_a,g,Option.bind_some,nilX_a,Option.bind_some,capL_1,Option.bind_some];show(if(w.map _).length+1<big then !D.tup _ else none)=_;rw[if_pos (by rw[length_map];exact Ux (show _<=7 by lia) !2)];unfold wD;rw[List.map_append];rfl
def Kx(h0:aO Y i=!bz ps)(h1:aO Y j=!iN t):slF (va i) (partF (va j)) noP Y=!bz !4:=by unfold slF aI qU nH;simp[h0,h1,bz,ou]
def DG{p:List Pk}(h:p[k]?=!a):ax (.lst (p.map fz)) (iN k)=!fz a:=bn h
abbrev rwD(p:List Pk):D:=.lst (p.map fz)
def  Ky(f:Fn):Prop:=∀(ps:T3)(t:Nat)(s:Int),Valid ps->prod ps<=54->t<=ps.length->∃c,f [bz ps,iN t,.int s]=!(c,wsD (wdw s !4))
def NS:Ky (aQ 3 8 lq):=λps t s C h54 ht=>by
 suffices h:∃c:Cat,lq [sn _,sn (iN t),sn _,none,none,none,none,none]=!.rt (c,wsD (wdw s _))/\True by let[c,h,_]:=h;exact#[c,ar rfl h]
 have hp:∀p∈ps.drop t,1<=p.length/\p.length<=6:=λp h=>#[(C.p (List.mem_of_mem_drop h)).1,(C.p (List.mem_of_mem_drop h)).2.1];have hl6:(!4).length<=6:=by rw[List.length_drop];have:=C.len;lia
 have hle:∀i,prod ((!4).take i)<=prod ps:=λi=>by have h2:=iW ps t i;have h3:=jq C (t+i);have h4:prod ((!4).take i)<=prod (!30)*prod ((!4).take i):=Nat.le_mul_of_pos_left _ (oC C 0 t);lia
 have wl:∀i,(wdw s ((!4).take i)).length<=64:=λi=>by rw[(oK s _).length_eq];refine Uy (List.length_filter_le _ _) ?_;rw[rT];have:=hle i;lia
 have T:∀i,∀w∈wdw s ((!4).take i),w.length<=6:=λi w h=>by rw[(fC _ w (List.mem_filter.mp ((oK s _).mem_iff.mp h)).1).1,List.length_take];lia
 refine x_set (evX_lfs rfl rfl rfl rfl) (x_for (xs:=ps.drop t) (mk:=rwD) (λi Y=>∃c I r l g,(c=.deep\/c=.sh)/\Y=sWo ps t s c (wdw s ((!4).take i)) I r l g) ?_ #[.deep,none,none,none,none,.inl rfl,rfl] ?_ ?_);.show jX ac _ (bV _)=_;rw[jX_none,Kx rfl rfl];rfl
 .rintro i p Y hi⟨c,I,r,l,g,hc,rfl⟩;have U:=hp p (UH hi);have et:wdw s ((!4).take (i+1))=wst s (wdw s ((!4).take i)) p:=by rw[List.take_succ,hi,Option.toList_some,uH]
  have hw:=wl i;have J:=T i;rw[et];generalize wdw s ((!4).take i)=W at*;rw[show br 4 (rwD p) (sWo ps t s c W I r l g)=some (sWo ps t s c W _ r l g)from rfl];simp only[Option.bind_some];refine x_set (evX_lfs rfl rfl rfl rfl) (x_forW (λj Y=>∃l g,Y=sWo ps t s .sh W (sn (rwD p)) (dp (wsD (wst s (W.take j) p))) l g) ?_ rfl #[l,g,rfl] ?_ ?_)
  .rcases hc with rfl|rfl;.exact .inl #[rfl,rfl]
   .exact .inr rfl
  .rintro j w Y hj⟨l,g,rfl⟩;have h6:=J w (UH hj);have ej:wst s (W.take (j+1)) p=wst s (W.take j) p++(fk s p).map λk=>w++[k]:=by unfold wst;rw[List.take_succ,hj,Option.toList_some,List.flatMap_append];simp
   have o:∀V:List Ub,(wst s V p).length=V.length*(fk s p).length:=λV=>by induction V with
|nil=>rw[List.length_nil,Nat.zero_mul];rfl|cons v V ih=>show((fk s p).map _++wst s V p).length=_;rw[length_append,length_map,ih,length_cons,Nat.succ_mul,Nat.add_comm]
   have hV:(wst s (W.take j) p).length<=64*6:=by rw[o,List.length_take];exact Nat.mul_le_mul (by lia) (Uy ((λs p=>by refine Uy (List.length_filter_le _ _) ?_;rw[length_range];exact UI _) s p) U.2)
   rw[ej];generalize wst s (W.take j) p=V at*;rw[show br 6 (wD w) (sWo ps t s .sh W (sn (rwD p)) (dp (wsD V)) l g)=some (sWo ps t s .sh W _ _ _ g)from rfl];refine qu (n:=p.length) (v:=λi=>(i:Int)) (λm Y=>∃g,Y=sWo ps t s .sh W _ (dp (wsD (V++(!37).map λk=>w++[k]))) _ g) (gQ ?_) #[g,by rw[List.range_zero,List.filter_nil,List.map_nil,List.append_nil]] ?_ ?_;.show nD [.int ((p.map fz).length:Int)]=_;rw[length_map];exact bN (by lia)
   .rintro m Y hm⟨g,rfl⟩;have pm:=getElem?_eq_getElem hm;have f1:=DG pm;have f2:ax (fz p[m]) (.int 1)=!_:=om _ _ _;have f3:=wA pm;have fl:(!37).length<=m:=by refine Uy (List.length_filter_le _ _) ?_;rw[length_range];exact UI _
    have eR:((List.range (m+1)).filter λk=>decide (s<=(gC p k).2))=(!37)++if decide (s<=p[m].2)=true then[m]else[]:=by rw[List.range_succ,List.filter_append,List.filter_cons,f3,List.filter_nil]
    rw[eR,List.map_append,<-List.append_assoc];have hV2:(V++(!37).map λk=>w++[k]).length<=399:=by rw[length_append,length_map];lia
    generalize(V++(!37).map λk=>w++[k])=ρ at*;rw[show List.set (sWo ps t s .sh W (sn (rwD p)) (dp (wsD ρ)) (sn (wD w)) g) 7 (sn (iN m))=sWo ps t s .sh W _ _ _ _ from rfl];refine kW (b:=decide (s<=p[m].2)) ?_ ?_;.show ag _ [_,_,!.int s,_,!rwD p,_,_,!iN m]=_;simp only[sB,f1,f2,Ct]
    .cases decide (s<=p[m].2)with
|true=>
      refine#[_,q_st (bP rfl (evX_lf (NR h6 rfl rfl) (wk _)) rfl ?_) rfl,x_end #[sn (iN m),?_]];.rw[length_map];exact Ux (show _<=400 by lia) !2 
      .rw[if_pos rfl];unfold sWo wsD;rw[List.map_append];rfl|false=>refine#[_,rfl,x_end #[sn (iN m),?_]];rw[if_neg !2,List.map_nil,List.append_nil]
   .rintro Y⟨g,rfl⟩;exact x_end #[sn (wD w),g,rfl]
  .rintro Y⟨l,g,rfl⟩;rw[List.take_length];refine x_set (evX_fz rfl rfl rfl rfl rfl rfl) (x_end #[.sh,_,_,_,_,.inr rfl,rfl])
 .rintro Y⟨c,I,r,l,g,hc,rfl⟩;rw[List.take_length];exact#[c,rfl,trivial]
def TD{i k:Nat}(h:w[i]?=!k):ax (wD w) (.int (i:Int))=!.int (k:Int):=bn h
def Ri{ps:T3}{w:Ub}(r:w.length=(!4).length)(l:∀q∈w.zip !4,q.1<q.2.length)(hi:i<w.length):∃(p:List Pk)(k:Nat)(a:Pk),ps[t+i]?=!p/\(!4)[i]?=!p/\w[i]?=!k/\p[k]?=!a/\gC p k=a:=by
 have g:(!4)[i]?=some (!4)[i]:=getElem?_eq_getElem !6;have C:=getElem?_eq_getElem hi;have m:(w[i],(!4)[i])∈w.zip !4:=UH (List.getElem?_zip_eq_some.mpr #[C,g]);have o:=l _ m;have j:(!4)[i][w[i]]?=some (!4)[i][w[i]]:=getElem?_eq_getElem o;exact#[_,_,_,by rw[<-List.getElem?_drop];exact g,g,C,j,wA j]
def NT(h:R (bV Y)=!d)(j:g d Y=!Y'):Qv R g Y=!.nx Y':=by unfold Qv aI EL;simp[h,j]
def Kz(U:List (Sd×List Nat)):dS (U.map fdD)=true:=ca λd hd=>by let[q,_,rfl]:=UA.mp hd;show(lfD (sdD q.1)&&(lfD (wD q.2)&&true))=true;rw[wk];rfl
def  ss:TZ:=ab (av 4 (bo (cI 1))) (ab (dF (jX ac (slF (va 0) noP (partF (va 1)))) (br 5) (ab (av 4 (bo (aa aM (va 4) (cb (va 5))))) aB)) (ab (av 6 (bo (aa cA (va 4) (cI 1)))) (ab (dF (jR (x1 (cb (va 2)))) (br 7) (ab (av 5 (bo (aa ax (va 0) (aa aG (va 1) (va 7))))) (ab (cG (ag (aa (aP false) (aa ax (aa ax (va 5) (aa ax (va 2) (va 7))) (cI 0)) (cS "pile"))) (ab (av 6 (bo (aa cA (aa cA (va 4) (cI 1)) (va 6)))) (ab (av 3 (bo (aa cA (cI 0) (va 3)))) aB)) aB) (ab (av 6 (aY (aa aG (aa aM (aa ax (va 2) (va 7)) (va 4)) (va 6)) (fN (aI (aa aM (aa ax (va 2) (va 7)) (va 4)) (bb ac)) (va 6)) ac)) (ab (av 4 (bo (aa aM (va 4) (cb (va 5))))) aB))))) (gj (aY (dA (x2 (va 6) (va 3))) ac (oi (x2 (aZ (va 6) ac ac) (aZ (va 3) ac ac))))))))
def KA(h:R (vw Y)=!d)(f:lfD d=false)(h2:R (bV Y)=!d):bo R Y=!((.sh,d),Y):=by unfold bo aY aI gy kz qX aZ aI nJ fL;simp[h,h2,f,ac]
abbrev Rj(ps:T3)(t:Nat)(w:Ub):Sd:=pl (prod !30) (!4) w ((prod !30:Int)-1,1)
def  KC(f:Fn):Prop:=∀(ps:T3)(t:Nat)(w:Ub)(r:Int),Valid ps->prod ps<=54->t<=ps.length->w.length=(!4).length->(∀q∈w.zip !4,q.1<q.2.length)->f [bz ps,iN t,wD w,.int r]=dp (sdD (rkd r (Rj ps t w)))
abbrev K8(ps:T3)(t:Nat)(w:Ub)(c3:Cat)(k:Int)(n:Nat)(o5 o6 o7:T6):Ev:=[sn (bz ps),sn (iN t),sn (wD w),!(c3,.int k),dp (iN n),o5,o6,o7]
def NU:KC (aQ 4 8 ss):=λps t w r hv h54 ht hl hq=>by
 have I:=jq hv;have hl5:=hv.len;have hd:(!4).length=ps.length-t:=List.length_drop;unfold Rj;obtain⟨g,C⟩:∃n,n=prod !30:=#[_,rfl];have J:∀i,g*prod ((!4).take i)<=prod ps:=λi=>by rw[C,iW];exact I _
 refine ar rfl (q_set (evX_lf rfl rfl) (q_forB (xs:=ps.take t) (mk:=rwD) (λi Y=>∃o,Y=K8 ps t w .sh r (prod ((!30).take i)) o none none) ?_ #[none,rfl] ?_ ?_));.show jX ac _ (bV _)=_;rw[jX_none,HI rfl rfl];rfl
 .rintro i p Y hp⟨o,rfl⟩;have hP:prod ((!30).take i)<1000000:=by rw[List.take_take];have:=I (min i t);lia
  refine#[_,ai (bj (evX_lf (d:=iN (prod ((!30).take i)*p.length)) ?_ rfl)),#[sn (rwD p),?_]];.show aM (iN _) (.int ((p.map fz).length:Int))=_;rw[length_map];exact xM hP
  .rw[List.take_add_one,hp];show _=K8 ps t w .sh r (prod ((!30).take i++[p])) _ _ _;rw[bQ];rfl
 .rintro Y⟨o,rfl⟩;rw[List.take_length,<-C];refine q_set (evX_lf rfl rfl) (q_rng (n:=w.length) (v:=λi=>(i:Int)) (λi Y=>∃l o o7,∃(c m:Int),pl g ((!4).take i) (w.take i) ((g:Int)-1,1)=(c,m)/\Y=K8 ps t w l (m*r) (g*prod ((!4).take i)) o (dp (.int c)) o7) (gQ ?_) #[.sh,o,none,(g:Int)-1,1,rfl,?_] ?_ ?_);.show nD [.int ((w.map _).length:Int)]=_;rw[length_map];exact bN (by lia)
  .have e:g*prod ((!4).take 0)=g:=Nat.mul_one g;rw[e,Int.one_mul];rfl
  .rintro i Y hi⟨l,o,o7,c,m,T,rfl⟩;let[p,j,[b,wd],m1,m2,m3,m4,m5]:=Ri hl hq hi;have hP:=J i;have hti:(t:Int)+(i:Int)=((t+i:Nat):Int):=by lia
   have f1:ax (bz ps) (.int ((t:Int)+(i:Int)))=!rwD p:=by rw[hti];exact(λh=>bn h) m1
   have f2:=TD m3;have f3:=DG m4;have x0:ax (fz (b,wd)) (.int 0)=!_:=jL _ _;have hw:w.take (i+1)=w.take i++[j]:=by rw[List.take_add_one,m3];rfl
   have hpl:pl g ((!4).take (i+1)) (w.take (i+1)) ((g:Int)-1,1)=bZ (g*prod ((!4).take i)) j (b,wd) (c,m):=by rw[jp ps t i p m2,hw,mX _ _ _ _ (by rw[List.length_take,List.length_take,hl]),T,m5]
   rw[hpl];have hN:g*prod ((!4).take (i+1))=g*prod ((!4).take i)*p.length:=by rw[jp ps t i p m2,bQ,Nat.mul_assoc]
   rw[hN];generalize g*prod ((!4).take i)=N at hP;refine pw (Y':=K8 ps t w l (m*r) N (sn (rwD p)) (dp _) _) (bj (KA ?_ rfl ?_)) ?_;.show aa ax (va 0) (aa aG (va 1) (va 7)) [!bz ps,!iN t,_,_,_,_,_,!iN i]=_;simp only[sB,f1]
   .show aa ax (va 0) (aa aG (va 1) (va 7)) [!bz ps,!iN t,_,_,_,_,_,!iN i]=_;simp only[sB,f1]
   refine kW (b:=not b) ?_ ?_;.show ag _ [_,_,!wD w,_,_,!rwD p,_,!iN i]=_;simp only[sB,f2,f3,x0,Hv];rw[<-QX b];rfl
   .have rest:∀(l:Cat)(U k':Int),∃a,(ab (av 6 (aY (aa aG (aa aM (aa ax (va 2) (va 7)) (va 4)) (va 6)) (fN (aI (aa aM (aa ax (va 2) (va 7)) (va 4)) (bb ac)) (va 6)) ac)) (ab (av 4 (bo (aa aM (va 4) (cb (va 5))))) aB)) (K8 ps t w l k' N (sn (rwD p)) (dp (.int U)) (sn (iN i)))=!.nx a/\a=K8 ps t w l k' (N*p.length) _ (dp (.int ((j:Int)*(N:Int)+U))) _:=λl U k'=>by
     refine x_set (evX_lf ?_ rfl) (x_set (evX_lf ?_ rfl) (x_end rfl));.show aa aG (aa aM (aa ax (va 2) (va 7)) (va 4)) (va 6) [_,_,!wD w,_,!iN N,_,!.int U,!iN i]=_;simp only[sB,f2,gB (show-1000000<(N:Int)by lia) (by lia)]
     .show aM (iN N) (.int ((p.map fz).length:Int))=_;rw[length_map];exact xM (by lia)
    cases b with
|true=>refine#[_,rfl,?_];let[a,ea,rfl]:=rest l c (m*r);exact#[_,ea,#[_,_,_,_,m,rfl,rfl]]|false=>
     refine#[_,q_set (evX_lf rfl rfl) (q_set (evX_lf (d:=.int (-m*r)) ?_ rfl) rfl),?_];.show some (D.int (0-m*r))=_;rw[Int.zero_sub,Int.neg_mul]
     let[a,ea,rfl]:=rest .deep ((N:Int)-1-c) (-m*r);exact#[_,ea,#[_,_,_,_,-m,rfl,rfl]]
  .rintro Y⟨l,o,o7,c,m,T,rfl⟩;rw[List.take_of_length_le (by lia),List.take_length]at T;rw[T];exact q_ret (evX_lf rfl rfl)
def  uJ(eB cu:Fn):TZ:=ab (Qv (aa ax (va 1) (va 2)) (yR 2 (cx (br 6) (cx (br 7) mM)))) (ab (av 3 (aY (aa aG (va 2) (aa aM (cb (va 1)) (va 7))) (fN (va 2) (aa aM (cb (va 1)) (va 7))) ac)) (ab (av 4 sC) (ab (dF (jX ac (bu eB (x3 (va 0) (va 7) (va 6)))) (br 5) (ab (cX 4 (aY (dA (x2 (bu cu (x4 (va 0) (va 7) (va 5) (va 3))) (va 5))) ac (oi (x2 (aZ (bu cu (x4 (va 0) (va 7) (va 5) (va 3))) ac (FC cu (x4 (va 0) (va 7) (va 5) (va 3)))) (aZ (va 5) ac ac))))) aB)) (gj (aY (sA (!13) (sy !13)) (sy !13) (gT !13))))))
def  uK:TZ:=ab (dF (jX ac (va 0)) (br 2) (ab (cG (kc (ag (aa (fj false) (va 1) cN)) (ag (aa mJ (aa ax (va 2) (cI 0)) (va 1)))) (ab (rJ 2) aB) aB) aB)) (gj (bo cN))
abbrev plW(ps:T3)(ls:List Lz)(k:Nat)(l:Lz)(w:Ub):Pq:=(rkd (rnk ls k l) (Rj ps l.2 w),w)
abbrev Rk(ps:T3)(ls:List Lz)(k:Nat)(l:Lz)(V:List Pq)(o5:T6):Ev:=[sn (bz ps),sn (ay ls),sn (iN k),dp (.int (rnk ls k l)),dp (.lst (V.map fdD)),o5,sn (.int l.1),sn (iN l.2)]
def  DH(f:Fn):Prop:=∀(ps:T3)(ls:List Lz)(k:Nat)(l:Lz),Valid ps->prod ps<=54->ls.length<=24->LzOk ps l->ls[k]?=!l->∃U:List Pq,U.Perm (((wds (ps.drop l.2)).filter (iQ l.1 (ps.drop l.2))).map (plW ps ls k l))/\U.Pairwise (λa b=>HT.lexLt [b.1.1,b.1.2] [a.1.1,a.1.2]=false)/\f [bz ps,ay ls,iN k]=dp (.lst (U.map fdD))
def NV(T:Ky wo)(hco:KC co):DH (aQ 3 8 (uJ wo co)):=λps ls k l I p h24 hlo hk=>by
 let[s,t]:=l;have ht:=hlo.t;have hpd:prod (!4)<=prod ps:=by have h2:=iW ps t (!4).length;rw[List.take_length]at h2;have h3:=jq I (t+(!4).length);have h4:prod (!4)<=prod (!30)*prod !4:=Nat.le_mul_of_pos_left _ (oC I 0 t);lia
 let[cw,ew]:=T ps t s I p ht;have g:=oK s !4;have hWl:(wdw s !4).length<=63:=by rw[g.length_eq];refine Uy (List.length_filter_le _ _) ?_;rw[rT];lia
 have o:∀w∈wdw s !4,w.length=(!4).length/\∀q∈w.zip !4,q.1<q.2.length:=λw h=>fC _ w (List.mem_filter.mp (g.mem_iff.mp h)).1;have hfp:=g.map (plW ps ls k (s,t));generalize wdw s (!4)=W at*;let[U,u1,u2,u3]:=F2 (L:=W.map (plW ps ls k (s,t))) (by rw[length_map];lia) λq hq=>by let[w,C,rfl]:=UA.mp hq;exact(o w C).1 
 refine#[U,u1.trans hfp,u2,ar rfl ?_];refine q_st (NT (d:=qC (s,t)) ?_ rfl) (q_set (evX_lf ?_ rfl) (q_set (evX_lfs rfl rfl rfl rfl) (q_forB (xs:=W) (mk:=wD) (λi Y=>∃r,Y=Rk ps ls k (s,t) ((W.take i).map (plW ps ls k (s,t))) r) ?_ #[none,rfl] ?_ ?_)));.exact Dp hk
 .have ml:aM (.int (ls.length:Int)) (iN t)=!.int ((ls.length:Int)*(t:Int)):=wq (by lia);have y3:seqD (ay ls)=!_:=rfl;show aa aG (va 2) (aa aM (cb (va 1)) (va 7)) [!bz ps,!ay ls,!iN k,none,none,none,!.int s,!iN t]=_;simp only[sB,dZ,y3,length_map,ml]
 .show jX ac _ (bV _)=_;rw[jX_none,clF_a];show(bw (wo [bz ps,iN t,.int s])).bind seqD=_;rw[ew];rfl
 .rintro i w Y C⟨r,rfl⟩;let[hwl,J]:=o w (UH C);have ec:=hco ps t w (rnk ls k (s,t)) I p ht hwl J;have hT:(W.take (i+1)).map (plW ps ls k (s,t))=(W.take i).map (plW ps ls k (s,t))++[plW ps ls k (s,t) w]:=by rw[List.take_add_one,C,List.map_append];rfl
  rw[hT];have j:((W.take i).map (plW ps ls k (s,t))).length<=63:=by rw[length_map,List.length_take];lia
  generalize(W.take i).map (plW ps ls k (s,t))=V at j;refine#[_,q_st (bP (d:=fdD (plW ps ls k (s,t) w)) rfl (evX_lf ?_ (HE _)) rfl ?_) rfl,#[sn (wD w),?_]];.show dA (x2 (bu co _) _) [!bz ps,!ay ls,!iN k,!.int (rnk ls k (s,t)),_,!wD w,!.int s,!iN t]=_;rw[iJ,pA,consX_a,clF_a,show x4 (va 0) (va 7) (va 5) (va 3) [!bz ps,!ay ls,!iN k,!.int (rnk ls k (s,t)),_,!wD w,!.int s,!iN t]=some [bz ps,iN t,wD w,.int _]from rfl,Option.bind_some,ec];rfl
  .rw[length_map];exact Ux (show V.length+1<=64 by lia) !2 
  .unfold Rk;rw[List.map_append];rfl
 .rintro Y⟨r,rfl⟩;rw[List.take_length];have s1:sy (!13) (vw (Rk ps ls k (s,t) (W.map (plW ps ls k (s,t))) r))=!U.map fdD:=by exact u3
  exact q_ret (evX_lfs (liG_l s1) rfl s1 (Kz U))
abbrev BN:TZ:=ab (cG (kc (ag (aa (fj false) (va 1) cN)) (ag (aa mJ (aa ax (va 2) (cI 0)) (va 1)))) (ab (rJ 2) aB) aB) aB
def  wJ(f:Fn):Prop:=∀(U:List Pq)(b:Os),∃c,f [.lst (U.map fdD),bD b]=!(c,NF (U.find? λq=>pC b q.1))
def NW:wJ (aQ 2 3 uK):=λU b=>by
 have st:∀(V:List Pq)(j:T6),∃g,cC (dY (br 2) BN) (V.map fdD) [sn (.lst (U.map fdD)),sn (bD b),j]=match V.find? λq=>pC b q.1 with
|some q=>!.rt (.sh,fdD q)|none=>!.nx [sn (.lst _),sn _,g]:=λV=>by induction V with
|nil=>exactλj=>#[j,rfl]|cons q V C=>intro j;have I:ax (fdD q) (.int 0)=!_:=jL _ _;have t:=NH (A:=va 1) (B:=aa ax (va 2) (cI 0)) (Y:=vw [sn (.lst (U.map fdD)),sn (bD b),sn (fdD q)]) (p:=q.1) rfl (by simp only[sB,I]);rw[List.find?_cons];cases r:pC b q.1 with
|true=>rw[r]at t;exact#[j,uE (seqF_rt ((ifS_t t).trans rfl))]|false=>rw[r]at t;let[g,e]:=C (sn (fdD q));refine#[g,?_];rw[List.map_cons,<-e];exact jQ (q_if0 t rfl) rfl
 let[j,e]:=st U none;have fr:∀o,cC (dY (br 2) BN) (U.map fdD) [sn (.lst (U.map fdD)),sn (bD b),none]=!o->dF (jX ac (va 0)) (br 2) BN [sn (.lst _),sn _,none]=!o:=λo h=>iY rfl h;cases l:U.find? λq=>pC b q.1 with
|some q=>rw[l]at e;exact#[.sh,ar rfl (seqF_rt (fr _ e))]|none=>rw[l]at e;exact#[.deep,ar rfl (q_st (fr _ e) (q_ret (evX_lf rfl rfl)))]
abbrev uL(ps:T3)(ls:List Lz)(lv:List Ub)(Q:Uh)(b:Os)(o5 o6 o7 o8:T6):Ev:=[sn (bz ps),sn (ay ls),sn (gU lv),dp (.lst Q),dp (bD b),o5,o6,o7,o8]
abbrev XN(op:Fn):Fx:=x2 (bu op (x3 (va 0) (va 1) (va 7))) (va 4)
abbrev BI(op nx:Fn):TZ:=ab (av 8 (j8 nx (XN op))) (ab (cG (ag (aa (fj false) (va 8) cN)) (gj (bo cN)) aB) (ab (kP 3 (va 7) (bo (aa ax (va 8) (cI 1))) (aa ax (va 8) (cI 1))) (ab (cX 6 (bo (aa ax (va 8) (cI 0)))) aB)))
def KD{R L Sp}(h:aZ R L Sp (vw Y)=!e):aY R L Sp Y=!((.deep,e),Y):=by unfold aY aI gy;rw[h];rfl
structure Rl(S:Ub)(P:List Ub)(Q:Uh):Prop where
 n:Q.length=P.length
 at_:∀k∈S,Q[k]?=(P[k]?).map wD
def Rl.set{Q:Uh}(h:Rl S P Q)(a:Nat)(w:Ub):Rl (a::S) (P.set a w) (Q.set a (wD w)):=by
 refine#[by rw[List.length_set,List.length_set];exact h.n,λk g=>?_];rw[List.getElem?_set,List.getElem?_set,h.n];by_cases e:a=k;.rw[if_pos e,if_pos e];split<;>rfl
 .rw[if_neg e,if_neg e];rcases mem_cons.mp g with z|z;.exact absurd z.symm e
  .exact h.at_ k z
def Rl.all{Q:Uh}(h:Rl S P Q)(g:∀k,k<P.length->k∈S):Q=P.map wD:=by
 refine List.ext_getElem? λk=>?_;rw[getElem?_map];by_cases c:k<P.length;.exact h.at_ k (g k c)
 .rw[List.getElem?_eq_none (by have:=h.n;lia),List.getElem?_eq_none (by lia)];rfl
def  HJ(op:Fn)(ps:T3)(ls:List Lz)(U:Nat->List Pq):Prop:=∀a,a<ls.length->bw (op [bz ps,ay ls,iN a])=!.lst ((U a).map fdD)
def yj(g:wJ nx)(l:HJ op ps ls U){b:Os}(j:a<ls.length)(h0:aO Y 0=!bz ps)(h1:aO Y 1=!ay ls)(o:A Y=!iN a)(p:aO Y 4=!bD b):bu nx (x2 (bu op (x3 (va 0) (va 1) A)) (va 4)) Y=!NF (oG U b a):=by let[c,e]:=g (U a) b;simp only[clF_a,pA,J8,eX,consX_a,nilX_a,va_a,h0,h1,o,p,Option.bind_some,l a j,e];rfl
def ls_in(hnx:wJ nx)(hU:HJ op ps ls U){b:Os}(h24:ls.length<=24):∀(L:Ub)(T:List Sd)(S:Ub)(P:List Ub)(Q:Uh)(o7 o8:T6),(∀a∈L,a<ls.length)->P.length=ls.length->Rl S P Q->(∀p∈T,pC b p=true)->T.length+L.length<=24->sj U b L (T.foldl mx b) P=none/\cC (dY (br 7) (BI op nx)) (L.map λ(k:Nat)=>D.int (k:Int)) (uL ps ls lv Q b o5 (dp (.lst (T.map sdD))) o7 o8)=!.rt (.deep,.non)\/∃(s:Os×List Ub)(S':Ub)(Q':Uh)(T':List Sd)(o7' o8':T6),sj U b L (T.foldl mx b) P=!s/\s.1=T'.foldl mx b/\(∀p∈T',pC b p=true)/\T'.length=T.length+L.length/\Rl S' s.2 Q'/\(∀a,a∈S\/a∈L->a∈S')/\cC (dY (br 7) (BI op nx)) (L.map λ(k:Nat)=>D.int (k:Int)) (uL ps ls lv Q b o5 (dp (.lst (T.map sdD))) o7 o8)=!.nx (uL ps ls lv Q' b o5 (dp (.lst (T'.map sdD))) o7' o8')
|[],T,S,P,Q,o7,o8,_,_,hr,hT,_=>.inr #[(T.foldl mx b,P),S,Q,T,o7,o8,rfl,rfl,hT,rfl,hr,λa h=>h.elim id (λz=>nomatch z),rfl]|a::L,T,S,P,Q,o7,o8,hL,hP,hr,hT,hl=>by
  have ha:=hL a Ut;have hl':T.length+(L.length+1)<=24:=hl;have e8:∀o8,j8 nx (XN op) (uL ps ls lv Q b o5 (dp (.lst (T.map sdD))) (sn (iN a)) o8)=!((.deep,NF (oG U b a)),uL ps ls lv Q b o5 (dp (.lst (T.map sdD))) (sn (iN a)) o8):=λo8=>evX_lf (yj hnx hU ha rfl rfl rfl rfl) (HF _);rw[List.map_cons];cases hq:oG U b a with
|none=>refine .inl #[by unfold sj;rw[hq];rfl,uE (s:=(.deep,.non)) ?_];show ab _ _ (uL ps ls lv Q b o5 (dp (.lst (T.map sdD))) (sn (iN a)) o8)=_;refine q_set (e8 o8) ?_;rw[hq];exact seqF_rt ((ifS_t rfl).trans rfl)|some q=>
   have i0:ax (fdD q) (.int 0)=!sdD q.1:=jL _ _;have i1:ax (fdD q) (.int 1)=!wD q.2:=om _ _ _;have hbq:pC b q.1=true:=by simpa using List.find?_some (p:=λq:Pq=>pC b q.1) hq
   have st:dY (br 7) (BI op nx) (iN a) (uL ps ls lv Q b o5 (dp (.lst (T.map sdD))) o7 o8)=!.nx (uL ps ls lv (Q.set a (wD q.2)) b o5 (dp (.lst ((T++[q.1]).map sdD))) (sn (iN a)) (dp (fdD q))):=by
    show ab _ _ (uL ps ls lv Q b o5 (dp (.lst (T.map sdD))) (sn (iN a)) o8)=_;refine q_set (e8 o8) ?_;rw[hq];refine q_if0 rfl (q_st (qk (ds:=Q) (d:=wD q.2) (k:=(a:Int)) (evX_lf ?_ (wk _)) rfl rfl (!6) (by have:=hr.n;omega)) (q_st (bP (ds:=T.map sdD) (ds0:=T.map sdD) (c0:=.deep) (d:=sdD q.1) rfl (evX_lf ?_ rfl) rfl (by rw[length_map];exact lt_big !6)) ?_));.show aa ax (va 8) (cI 1) [_,_,_,_,_,_,_,_,!fdD q]=_;simp only[sB,i1]
    .show aa ax (va 8) (cI 0) [_,_,_,_,_,_,_,_,!fdD q]=_;simp only[sB,i0]
    .rw[Int.toNat_natCast,List.map_append];rfl
   have eT:(T++[q.1]).foldl mx b=mx (T.foldl mx b) q.1:=by rw[List.foldl_append];rfl
   have el:sj U b (a::L) (T.foldl mx b) P=sj U b L ((T++[q.1]).foldl mx b) (P.set a q.2):=by rw[sj,hq,eT];rfl
   rw[el];rcases ls_in hnx hU (lv:=lv) (o5:=o5) h24 L (T++[q.1]) (a::S) (P.set a q.2) (Q.set a (wD q.2)) (sn (iN a)) (dp (fdD q)) (λx hx=>hL x (Uu _ hx)) (by rw[List.length_set];exact hP) (hr.set a q.2) (λp hp=>by
    rcases mem_append.mp hp with z|z;.exact hT p z
    .rw[mem_singleton.mp z];exact hbq) (by rw[length_append];show T.length+1+L.length<=24;omega)with⟨h1,h2⟩|⟨s,S',Q',T',p7,p8,h1,h2,h3,h4,h5,h6,h7⟩;.exact .inl #[h1,(jQ st rfl).trans h2]
   .refine .inr #[s,S',Q',T',p7,p8,h1,h2,h3,by rw[h4,length_append];show T.length+1+L.length=T.length+(L.length+1);omega,h5,λx hx=>?_,(jQ st rfl).trans h7];rcases hx with z|z;.exact h6 x (.inl (Uu _ z))
    .rcases mem_cons.mp z with rfl|z;.exact h6 x (.inl Ut)
     .exact h6 x (.inr z)
abbrev NX(op nx:Fn):TZ:=ab (av 6 sC) (ab (dF (jX ac (va 5)) (br 7) (BI op nx)) (ab (av 4 (aY (bJ jJ (x1 (va 6))) ac (gT (x1 (va 6))))) aB))
def ls_out(hnx:wJ nx)(hU:HJ op ps ls U)(h24:ls.length<=24):∀(lw:List Ub)(b:Os)(S:Ub)(P:List Ub)(Q:Uh)(o5 o6 o7 o8:T6),(∀L∈lw,L≠[]/\L.length<=24/\∀a∈L,a<ls.length)->P.length=ls.length->Rl S P Q->run U lw b P=none/\cC (dY (br 5) (NX op nx)) (lw.map rowD) (uL ps ls lv Q b o5 o6 o7 o8)=!.rt (.deep,.non)\/∃(P':List Ub)(S':Ub)(Q':Uh)(b':Os)(o5' o6' o7' o8':T6),run U lw b P=!P'/\Rl S' P' Q'/\(∀a,a∈S\/a∈lw.flatten->a∈S')/\cC (dY (br 5) (NX op nx)) (lw.map rowD) (uL ps ls lv Q b o5 o6 o7 o8)=!.nx (uL ps ls lv Q' b' o5' o6' o7' o8')
|[],b,S,P,Q,o5,o6,o7,o8,_,_,hr=>.inr #[P,S,Q,b,o5,o6,o7,o8,rfl,hr,λa h=>h.elim id λz=>by simp at z,rfl]|L::lw,b,S,P,Q,o5,o6,o7,o8,hL,hP,hr=>by
  let[n1,n2,n3]:=hL L Ut;rw[List.map_cons];rcases ls_in hnx hU (lv:=lv) (b:=b) (o5:=sn (rowD L)) h24 L [] S P Q o7 o8 n3 hP hr (λ_ h=>nomatch h) (by rw[List.length_nil];omega)with⟨h1,h2⟩|⟨s,S',Q',T',p7,p8,h1,h2,h3,h4,h5,h6,h7⟩;.refine .inl #[by unfold run;rw[show sj U b L b P=none from h1];rfl,uE (s:=(.deep,.non)) ?_];show NX op nx (uL ps ls lv Q b (sn (rowD L)) o6 o7 o8)=_;exact q_set (evX_lfs (d:=.lst []) (ds:=[]) rfl rfl rfl rfl) (seqF_rt (iY rfl h2))
  .have hT:T'≠[]:=λz=>by
    rw[z]at h4;have:L.length=0:=by simp at h4;omega
    exact n1 (List.length_eq_zero_iff.mp this)
   let[m,m1,m2,m3]:=Dt hT;rw[yb h3 hT,m1]at h2;have er:run U (L::lw) b P=run U lw (!m) s.2:=by rw[run,show sj U b L b P=some s from h1,<-h2];rfl
   have st:dY (br 5) (NX op nx) (rowD L) (uL ps ls lv Q b o5 o6 o7 o8)=!.nx (uL ps ls lv Q' (!m) (sn (rowD L)) (dp (.lst (T'.map sdD))) p7 p8):=by show NX op nx (uL ps ls lv Q b (sn (rowD L)) o6 o7 o8)=_;refine q_set (evX_lfs (d:=.lst []) (ds:=[]) rfl rfl rfl rfl) (q_st (iY rfl h7) (q_set (s:=(.deep,sdD m)) (evX_lf (biF_a.trans ?_) rfl) rfl));exact m2
   have hP':s.2.length=ls.length:=(m7 h1).trans hP;rw[er];rcases ls_out hnx hU (lv:=lv) h24 lw (!m) S' s.2 Q' (sn (rowD L)) (dp (.lst (T'.map sdD))) p7 p8 (λx hx=>hL x (Uu _ hx)) hP' h5 with⟨g1,g2⟩|⟨P2,S2,Q2,b2,q5,q6,q7,q8,g1,g2,g3,g4⟩;.exact .inl #[g1,(jQ st rfl).trans g2]
   .refine .inr #[P2,S2,Q2,b2,q5,q6,q7,q8,g1,g2,λa ha=>?_,(jQ st rfl).trans g4];rcases ha with z|z;.exact g3 a (.inl (h6 a (.inl z)))
    .rw[List.flatten_cons]at z;rcases mem_append.mp z with z|z;.exact g3 a (.inl (h6 a (.inr z)))
     .exact g3 a (.inr z)
def  Gx(op f:Fn):Prop:=∀(ps:T3)(ls:List Lz)(U:Nat->List Pq)(lv:List Ub),HJ op ps ls U->ls.length<=24->(∀L∈lv,L≠[]/\L.length<=24/\∀a∈L,a<ls.length)->(∀a,a<ls.length->a∈lv.flatten)->f [bz ps,ay ls,gU lv]=dp (R6 (run U lv none !26))
def NY(j:wJ nx):Gx op (aQ 3 9 (si op nx)):=λps ls U g C l I J=>by
 refine ar rfl ?_;have p:seqD (ay ls)=!_:=rfl;have o:cb (va 1) [!bz ps,!ay ls,!gU g,none,none,none,none,none,none]=!iN ls.length:=by simp only[sB,dZ,p,length_map]
 have t:Bg (cH (x1 cN)) (cb (va 1)) [!bz ps,!ay ls,!gU g,none,none,none,none,none,none]=!List.replicate ls.length .non:=by unfold Bg;rw[show cH (x1 cN) [!bz ps,!ay ls,!gU g,none,none,none,none,none,none]=some [.non]from rfl,Option.bind_some,o,Option.bind_some];show(if 0<=(ls.length:Int)/\(ls.length:Int)<256/\1*(ls.length:Int).toNat<=256 then some (List.replicate (ls.length:Int).toNat [D.non]).flatten else none)=_;rw[if_pos #[by lia,by lia,by lia],Int.toNat_natCast,List.flatten_replicate_singleton]
 have r:Rl [] (!26) (List.replicate ls.length D.non):=#[by rw[List.length_replicate,List.length_replicate],λk h=>nomatch h];refine q_set (s:=(.deep,.lst (List.replicate ls.length .non))) (Y':=[sn (bz ps),sn (ay ls),sn (gU g),none,none,none,none,none,none]) ?_ (q_set (evX_lf rfl rfl) ?_)
 .have lf:dS (List.replicate ls.length D.non)=true:=ca λd hd=>by rw[List.eq_of_mem_replicate hd];rfl
  have fx:=Dv (R:=aa aM (bb (cH (x1 cN))) (cb (va 1))) (Sp:=ac) (by rw[bin2_a,o];rfl) t lf;exact KD fx
 show ab _ _ (uL ps ls g (List.replicate ls.length .non) none none none none none)=_;rcases ls_out j C l g none [] (!26) (List.replicate ls.length D.non) none none none none I (List.length_replicate ..) r with⟨g1,g2⟩|⟨P2,S2,Q2,b2,q5,q6,q7,q8,g1,g2,g3,T⟩;.rw[g1];exact seqF_rt (iY rfl g2)
 .rw[g1];have hP:=(sk g1).trans (List.length_replicate ..);have:=g2.all λk hk=>g3 k (.inr (J k (by lia)));subst this;exact q_st (iY rfl T) rfl
def  lu:TZ:=ab (dF (jR (x1 (cb (va 0)))) (br 2) (ab (cG (ag (aa GZ (va 1) (aa ax (va 0) (va 2)))) (ab (rJ 2) aB) aB) aB)) (gj (bo (Qr (cI 1))))
def  uM(aW cR dt:Fn):TZ:=ab (av 4 (bo cN)) (ab (dF (jR (x1 (cb (va 3)))) (br 5) (ab (cG (yJ (ag (aa mJ (va 5) (cI 0))) (ag (aa (fj false) (va 4) cN))) (gj (bo (cB false))) aB) (ab (cG (ag (aa mJ (va 5) (cI 0))) (ab (av 7 (j8 dt (x2 (va 2) (aa ax (va 3) (aa cA (va 5) (cI 1)))))) (ab (cG (ag (aa Ix (va 7) (bu dt (x2 (va 2) (aa ax (va 3) (va 5)))))) (gj (bo (cB false))) aB) aB)) aB) (ab (av 6 (j8 cR (x2 (bu aW (x3 (va 0) (va 1) (aa ax (va 3) (va 5)))) (va 4)))) (ab (av 4 (bo cN)) (ab (cG (ag (aa (fj true) (va 6) cN)) (ab (av 4 (bo (aa ax (va 6) (cI 0)))) aB) aB) aB)))))) (gj (bo (mK (aa mJ (cb (va 3)) (cI 0)) (aa (fj false) (va 4) cN)))))
def  lx(bh:Fn):TZ:=ab (cG (kc (bI (jv (bJ fg (x2 (va 0) (cT "list"))))) (ag (aa (aP true) (va 0) (va 1)))) (gj (bo (cB false))) aB) (ab (dF (jX ac (va 0)) (br 2) (ab (cG (kc (bI (jv (bJ fg (x2 (va 2) (cT "tuple"))))) (ag (aa mJ (cb (bb (au [3] (jX ac (va 2)) (bc 3) (bI (jv (bu bh (x1 (va 3))))) (va 3)))) (cI 0)))) (gj (bo (cB false))) aB) aB)) (gj (bo (cB true))))
def  NZ(n:Nat)(lv:List Ub)(lvl:Nat->Nat):Prop:=Lvn n lv lvl/\∀a,a<n->∃L,lv[lvl a]?=!L/\a∈L
def N0(V:NZ n g lvl)(p:a<n)(l:j<g.length):GZ (iN a) (rowD g[j])=!.bl (decide (j=lvl a)):=by
 rw[show rowD g[j]=aN (g[j].map λ(k:Nat)=>(k:Int))by unfold rowD aN;rw[List.map_map];rfl,NE];congr 2;rw[decide_eq_decide];constructor
 .intro h;let[x,o,e]:=UA.mp h;have:x=a:=by lia
  exact(((V.1.at_ j _ (getElem?_eq_getElem l)).2.2 a (this▸o)).2).symm
 .intro h;let[L,h1,h2]:=V.2 a p;rw[<-h,getElem?_eq_getElem l]at h1;cases h1;exact UA.mpr #[a,h2,rfl]
def  KE(f:Fn):Prop:=∀(n:Nat)(lv:List Ub)(lvl:Nat->Nat)(a:Nat),NZ n lv lvl->a<n->f [gU lv,iN a]=!(.sh,iN (lvl a))
def N1:KE (aQ 2 3 lu):=λn g lvl a V l=>by
 have C:=V.1.le;have r:lvl a<g.length:=by let[L,h1,_]:=V.2 a l;exact(Us.mp h1).1
 have o:eZ [gU g]=!iN g.length:=by rw[dZ,show seqD _=some _ from rfl,Option.bind_some,length_map]
 refine ar rfl ?_;show lu [sn (gU g),sn (iN a),none]=_;refine Kk (n:=g.length) (λi Y=>i<=lvl a/\∃j,Y=[sn _,sn (iN a),j]) (gQ ?_) #[Nat.zero_le _,none,rfl] ?_ ?_
 .have:x1 (cb (va 0)) (bV [sn (gU g),sn (iN a),none])=![iN g.length]:=by show x1 (cb (va 0)) [!gU g,!iN a,none]=_;simp only[sB,o]
  rw[this];exact bN (by lia)
 .rintro i Y hi⟨h1,j,rfl⟩;have p:ax (gU g) (iN i)=!_:=bn (getElem?_eq_getElem hi);have t:ag (aa GZ (va 1) (aa ax (va 0) (va 2))) (vw [sn (gU g),sn (iN a),sn (iN i)])=!decide (i=lvl a):=by simp only[sB,p,(N0 V l hi)]
  by_cases e:i=lvl a;.rw[decide_eq_true e]at t;right;rw[<-e];exact seqF_rt ((ifS_t t).trans rfl)
  .rw[decide_eq_false e]at t;exact .inl #[_,q_if0 t rfl,by lia,_,rfl]
 .rintro Y⟨h1,_⟩;lia
abbrev sBx(ps:T3)(ls:List Lz)(lv:List Ub)(ch:Ub)(b:Os)(o5 o6 o7:T6):Ev:=[sn (bz ps),sn (ay ls),sn (gU lv),sn (rowD ch),dp (bD b),o5,o6,o7]
def  Gy(op f:Fn):Prop:=∀(ps:T3)(ls:List Lz)(U:Nat->List Pq)(lv:List Ub)(lvl:Nat->Nat)(ch:Ub),HJ op ps ls U->NZ ls.length lv lvl->NK ls.length U lvl ch->f [bz ps,ay ls,gU lv,rowD ch]=dp (.bl true)
def N2(hnx:wJ nx)(t:KE le):Gy op (aQ 4 8 (uM op nx le)):=λps ls U o lvl g hU V C=>by
 let[c1,c2,c3]:=C;have c0:g≠[]:=λz=>by rw[z]at c3;cases c3
 have hl0:=List.length_pos_iff.mpr c0;have lc:∀Y:Vv,aO Y 3=!rowD g->cb (va 3) Y=!iN g.length:=λY h=>by simp only[biF_a,eX,consX_a,nilX_a,va_a,h,Option.bind_some,rV]
 refine ar rfl (q_set (evX_lf rfl rfl) (q_rng (n:=g.length) (v:=λi=>(i:Int)) (λi Y=>∃b r l j,(i=g.length/\b=none\/i<g.length/\∃last,due (fs U) lvl b last (g.drop i)=true/\(i=0/\b=none\/∃q a,0<i/\b=!q/\g[i-1]?=!a/\last=(lvl a:Int)))/\Y=sBx ps ls o g b r l j) (gQ ?_) #[none,none,none,none,.inr #[hl0,-1,c3,.inl #[rfl,rfl]],rfl] ?_ ?_));.show(x1 (cb (va 3)) (bV _)).bind nD=_;rw[eX,consX_a,lc _ rfl];exact bN (by lia)
 .rintro i Y hi⟨b,r,l,j,hI,rfl⟩;obtain⟨last,hd,hb⟩:∃last,due (fs U) lvl b last (g.drop i)=true/\(i=0/\b=none\/∃q a,0<i/\b=!q/\g[i-1]?=!a/\last=(lvl a:Int)):=by
   rcases hI with⟨h,_⟩|⟨_,h⟩;.lia
   .exact h
  have ha:=getElem?_eq_getElem hi;generalize g[i]=a at ha;have T:=c1 a (UH ha);have dr:g.drop i=a::g.drop (i+1):=by rw[List.drop_eq_getElem_cons hi,(List.getElem?_eq_some_iff.mp ha).2]
  rw[dr,due,Dx]at hd;have hlt:¬(lvl a:Int)<=last:=λz=>by rw[if_pos z]at hd;cases hd
  rw[if_neg hlt]at hd;have ia:ax (rowD g) (iN i)=!iN a:=bn ha;rw[show List.set (sBx ps ls o g b r l j) 5 (!(.sh,.int (i:Int)))=sBx ps ls o g b _ l j from rfl];have tail:∀l j,∃Y',ab (av 6 (j8 nx (x2 (bu op (x3 (va 0) (va 1) (aa ax (va 3) (va 5)))) (va 4)))) (ab (av 4 (bo cN)) (ab (cG (ag (aa (fj true) (va 6) cN)) (ab (av 4 (bo (aa ax (va 6) (cI 0)))) aB) aB) aB)) (sBx ps ls o g b (sn (iN i)) l j)=!_/\∃b r l j,(i+1=g.length/\b=none\/i+1<g.length/\∃last,due (fs U) lvl b last _=true/\(i+1=0/\b=none\/∃q a,0<i+1/\b=!q/\g[i+1-1]?=!a/\last=(lvl a:Int)))/\Y'=sBx ps ls o g b r l j:=λl j=>by
   have e6:j8 nx (x2 (bu op (x3 (va 0) (va 1) (aa ax (va 3) (va 5)))) (va 4)) (sBx ps ls o g b (sn (iN i)) l j)=!((.deep,NF _),sBx ps ls o g b _ l j):=evX_lf (yj hnx hU T rfl rfl (by simp only[sB,ia]) rfl) (HF _);refine x_set e6 (x_set (evX_lf rfl rfl) ?_);cases hq:oG U b a with
|none=>
    have hp:po U b a=none:=by unfold po;rw[hq];rfl
    rw[hp]at hd;have p:i+1=g.length:=by have:=List.isEmpty_iff.mp hd;simp at this;lia
    exact#[_,q_if0 rfl rfl,none,sn (iN i),dp .non,j,.inl #[p,rfl],rfl]|some q=>
    have hp:po U b a=!q.1:=by unfold po;rw[hq];rfl
    rw[hp]at hd;have i0':ax (fdD q) (.int 0)=!_:=jL _ _;have hd:=hd;have p:i+1<g.length:=by
     rcases Nat.lt_or_ge (i+1) g.length with z|z;.exact z
     .rw[List.drop_eq_nil_of_le z]at hd;cases hd
    refine#[_,NC rfl (q_set (evX_lf (by simp only[sB];exact i0') rfl) rfl) rfl,!q.1,sn (iN i),dp _,j,.inr #[p,_,hd,.inr #[q.1,a,by lia,rfl,ha,rfl]],rfl]
  have g0:∀l j,ag (aa mJ (va 5) (cI 0)) (vw (sBx ps ls o g b (sn (iN i)) l j))=!decide ((i:Int)>0):=λl j=>rfl;rcases hb with⟨rfl,rfl⟩|⟨q,a0,hi0,rfl,ha0,rfl⟩;.refine HA (by rw[andQ_a,g0];rfl) (kW (b:=false) (by rw[g0];rfl) #[_,rfl,tail l j])
  .have I:decide ((i:Int)>0)=true:=decide_eq_true (by lia);have J:=c1 a0 (UH ha0);have ia0:ax (rowD g) (.int ((i:Int)-1))=!iN a0:=by rw[show(i:Int)-1=((i-1:Nat):Int)by lia];exact bn ha0
   have l0:=t ls.length o lvl a0 V J;have l1:=t ls.length o lvl a V T;refine HA (by rw[andQ_a,g0,I];rfl) (kW (by rw[g0,I]) ?_);refine#[sBx ps ls o g _ _ l (dp (iN (lvl a0))),q_set (evX_lf (clF_a.trans ?_) rfl) (q_if0 ?_ rfl),tail _ _];.simp only[sB,ia0,l0]
   .show ag (aa Ix (va 7) (bu le (x2 (va 2) (aa ax (va 3) (va 5))))) [!bz ps,!ay ls,!gU o,!rowD g,!bD !q,!iN i,_,!iN (lvl a0)]=_;simp only[sB,ia,l1,Ct];rw[decide_eq_false !6]
 .rintro Y⟨b,r,l,j,hI,rfl⟩;have hb:b=none:=by
   rcases hI with⟨_,h⟩|⟨h,_⟩;.exact h
   .lia
  subst hb;refine q_ret (evX_lf ?_ rfl);have gl:aa mJ (cb (va 3)) (cI 0) (vw (sBx ps ls o g none r l j))=!.bl true:=by rw[bin2_a,lc _ rfl];show some (D.bl (decide ((g.length:Int)>0)))=_;rw[decide_eq_true (by lia)]
  rw[Cr,gl];rfl
def N3(neg:Bool)(P:List Ub):aP neg (wsD P) (wsD P)=!.bl (not neg):=by
 have h:jF (P.map wD)=true/\bF (P.map wD)<=1:=by induction P with
|nil=>exact#[rfl,Nat.zero_le _]|cons w P g=>have k:=ox w;refine#[by show(jF (w.map λ(k:Nat)=>D.int (k:Int))&&jF _)=true;rw[k.1,g.1];rfl,by show max (bF (w.map λ(k:Nat)=>D.int (k:Int))+1) (bF _)<=1;rw[k.2];have:=g.2;lia]
 exact rS neg h.1 (by show bF (P.map wD)+1<=50;lia) rfl rfl
def  Rm(f:Fn):Prop:=∀P:List Ub,(∀w∈P,w.length<=100)->f [wsD P,wsD P]=dp (.bl true)
def Rn(o:sr g):Rm (aQ 2 4 (lx g)):=λP C=>by
 refine ar rfl (q_if0 ?_ (q_forB (λi Y=>∃l,Y=[sn (wsD P),sn (wsD P),l,none]) rfl #[none,rfl] ?_ ?_))
 .have j:ag (aa (aP true) (va 0) (va 1)) (vw [sn (wsD P),sn (wsD P),none,none])=!false:=by show(aP true (wsD P) (wsD P)).bind D.asB=_;rw[N3];rfl
  exact j
 .rintro i w Y p⟨l,rfl⟩;have t:au [3] (jX ac (va 2)) (bc 3) (bI (jv (bu g (x1 (va 3))))) (va 3) (vw [sn (wsD P),sn (wsD P),sn (wD w),none])=!(w.filter λ_=>false).map λ(k:Nat)=>D.int (k:Int):=by refine pv rfl (λk I=>?_) (lt_big (C w (UH p)));simp only[sB,(o (k:Int))];rfl
  have j:ag (aa mJ (cb (bb (au [3] (jX ac (va 2)) (bc 3) (bI (jv (bu g (x1 (va 3))))) (va 3)))) (cI 0)) (vw [sn (wsD P),sn (wsD P),sn (wD w),none])=!false:=by
   have r:cb (bb (au [3] (jX ac (va 2)) (bc 3) (bI (jv (bu g (x1 (va 3))))) (va 3))) (vw [sn (wsD P),sn (wsD P),sn (wD w),none])=!.int 0:=by unfold cb;rw[biF_a,eX,consX_a,lsF_a,t,show(w.filter λ_=>false)=[]by simp];rfl
   rw[testB_a,bin2_a,r];rfl
  exact#[_,q_if0 j rfl,#[sn (wD w),rfl]]
 .rintro Y⟨l,rfl⟩;exact q_ret (evX_lf rfl rfl)
def q_forV{β:Type}{J:Fx}{xs:List β}{mk}(I:Nat->Ev->Prop)(j:J (bV Y)=!xs.map mk)(h0:I 0 Y)(l:∀(i:Nat)(x:β)(Y:Ev),xs[i]?=!x->I i Y->(∃Y',(tg (mk x) Y).bind F=!.nx Y'/\I (i+1) Y')\/(tg (mk x) Y).bind F=!.rt val)(k:∀Y',I xs.length Y'->G Y'=!.rt val):ab (dF J tg F) G Y=!.rt val:=by
 rcases forD_ret (step:=dY tg F) (xs.map mk) I Y h0 λi d Y hd hi=>by rw[getElem?_map]at hd;cases g:xs[i]?with
|none=>rw[g]at hd;cases hd|some x=>rw[g]at hd;cases hd;exact l i x Y g hi with⟨Y',e,i⟩|e;.rw[length_map]at i;exact q_st (iY j e) (k _ i)
 .exact seqF_rt (iY j e)
def Gz(h0:aO (vw Y) i=!bz ps)(h1:aO (vw Y) j=!iN t)(g0:aO (bV Y) i=!bz ps)(g1:aO (bV Y) j=!iN t):∃c,aY (slF (va i) noP (partF (va j))) (nH (va i) noP (partF (va j))) ac Y=!((c,bz !30),Y):=by
 have a:=HI h0 h1;have b:∀Y:Vv,aO Y i=!bz ps->aO Y j=!iN t->nH (va i) noP (partF (va j)) Y=!(!30).map λp=>.lst (p.map fz):=λY x y=>by unfold nH;simp[x,y,bz,kR]
 cases lf:dS ((!30).map λp=>D.lst (p.map fz))with
|true=>exact#[_,evX_lfs a rfl (b _ h0 h1) lf]|false=>
  refine#[.top,?_];have g:aZ (slF (va i) noP (partF (va j))) (nH (va i) noP (partF (va j))) ac (vw Y)=none:=by unfold aZ aI;simp only[a,b _ h0 h1,nJ,fL,Option.bind_some,lf];rfl
  unfold aY aI gy kz;simp only[g,b _ g0 g1,Option.bind_none,Option.bind_some];rfl
def HK{p:Ub->Prop}(hU:∀a,∀q∈U a,p q.2):∀{L:Ub}{l:Os}{P:List Ub}{s:Os×List Ub},(∀w∈P,p w)->sj U b L l P=!s->∀w∈s.2,p w
|[],l,P,s,h0,h=>by cases h;exact h0|a::L,l,P,s,h0,h=>by
  let[q,hq,h]:=Option.bind_eq_some_iff.mp h;refine HK hU (λw hw=>?_) h;rcases List.mem_or_eq_of_mem_set hw with z|z;.exact h0 w z
  .rw[z];exact hU a q (List.mem_of_find?_eq_some hq)
def HL{p:Ub->Prop}(hU:∀a,∀q∈U a,p q.2):∀{lv:List Ub}{b:Os}{P P':List Ub},(∀w∈P,p w)->run U lv b P=!P'->∀w∈P',p w
|[],b,P,P',h0,h=>by cases h;exact h0|L::lv,b,P,P',h0,h=>by let[s,h1,h2]:=Option.bind_eq_some_iff.mp h;exact HL hU (HK hU h0 h1) h2
structure Cnt(op:Fn)(ps:T3)(ls:List Lz)(U:Nat->Nat->List Pq):Prop where
 o:∀c,bse ls<=c->c<=ps.length->HJ op (ps.take c) ls (U c)w:∀c a,∀q∈U c a,q.2.length<=100
abbrev sD(d:D)(ps:T3)(ls:List Lz)(lv:List Ub)(o5 o6 o7:T6):Ev:=[sn d,sn (bz ps),sn (ay ls),sn (gU lv),dp (iN (bse ls)),o5,o6,o7,none,none]
def  su(op f:Fn):Prop:=∀(ps:T3)(ls:List Lz)(U:Nat->Nat->List Pq)(lv:List Ub)(lvl:Nat->Nat)(d:D),Valid ps->ls.length<=24->(∀l∈ls,LzOk ps l)->NZ ls.length lv lvl->Cnt op ps ls U->Rg ls.length ps.length U lv lvl (bse ls) d->f [d,bz ps,ay ls,gU lv]=dp (.bl true)
def GA(hba:Gy op ba)(hal:Rm al)(hwh:sr wh)(hle:Gx op le):su op (aQ 4 10 (lm ba al wh le)):=λps ls U r lvl d hv h24 hok V C F=>by
 have hl6:=hv.len;have hb:bse ls<=ps.length:=by
  rcases bse_in ls with h|⟨l,h1,h2⟩;.lia
  .have:=(hok l h1).3;lia
 let[g,hC,hd]:=F;obtain⟨u,v,rfl⟩:∃u v,d=.tup [u,v,bg g]:=by rcases hd with⟨c,P,_,_,_,rfl⟩|⟨_,rfl⟩<;>exact#[_,_,rfl]
 have j0:ax (!34) (.int 0)=!u:=jL _ _;have j1:ax (!34) (.int 1)=!v:=om _ _ _;have j2:ax (!34) (.int 2)=!_:=lN (!2) rfl;have ln2:∀Y:Vv,aO Y 0=!!34->cb (!38) Y=!iN g.length:=λY h=>by simp only[biF_a,eX,consX_a,nilX_a,bin2_a,va_a,cI_a,h,Option.bind_some,j2,dZ,show seqD (bg g)=some _ from rfl,length_map]
 have lnp:∀Y:Vv,aO Y 1=!bz ps->cb (va 1) Y=!iN ps.length:=λY h=>by simp only[biF_a,eX,consX_a,nilX_a,va_a,h,Option.bind_some,dZ,show seqD (bz ps)=some (ps.map λp=>.lst (p.map fz))from rfl,length_map]
 have hLst:∀c,bse ls<=c->c<=ps.length->le [bz (ps.take c),ay ls,gU r]=dp (R6 (run (U c) r none _)):=λc h1 h2=>by
  refine hle _ ls (U c) r (C.o c h1 h2) h24 (λL hL=>?_) λa ha=>?_;.let[i,hi]:=List.mem_iff_getElem?.mp hL;let[q1,q2,q3]:=V.1.at_ i L hi;exact#[q1,q2,λa ha=>(q3 a ha).1]
  .let[L,h1,h2]:=V.2 a ha;exact List.mem_flatten.mpr #[L,UH h1,h2]
 refine ar rfl ?_;show lm ba al wh le [sn !34,sn (bz ps),sn (ay ls),sn (gU r),none,none,none,none,none,none]=_;refine q_if0 ?_ (q_set (evX_lf ?_ rfl) (q_forV (xs:=List.range (ps.length+1-bse ls)) (mk:=λ(i:Nat)=>D.int ((bse ls+i:Nat):Int)) (λi Y=>i<=g.length/\∃o5 o6 I,Y=sD _ ps ls r o5 o6 I) (M8 ?_) #[Nat.zero_le _,none,none,none,rfl] ?_ ?_));.rfl
 .have hc:au [8,9] (jX ac (va 2)) (nE 2 (aC (bc 8) (aC (bc 9) cv))) tQ (va 9) (vw [sn !34,sn (bz ps),sn (ay ls),sn (gU r),none,none,none,none,none,none])=!ls.map λl=>.int (l.2:Int):=aE rfl (λl _=>rfl) (lt_big (by lia));have hcat:fN (bb (cH (x1 (cI 0)))) (bb (au [8,9] (jX ac (va 2)) (nE 2 (aC (bc 8) (aC (bc 9) cv))) tQ (va 9))) (vw [sn !34,sn (bz ps),sn (ay ls),sn (gU r),none,none,none,none,none,none])=!.int 0::ls.map λl=>.int (l.2:Int):=by unfold fN;rw[((lsF_a ..).trans (congrArg _ hc))];show bT (!.int 0::ls.map λl=>.int (l.2:Int))=_;exact c9 (by rw[length_cons,length_map];exact lt_big (by lia))
  rw[biF_a,eX,consX_a,lsF_a,hcat];show(match aX (.int 0::ls.map λl=>.int (l.2:Int))with|some ns=>if ns.isEmpty then none else !D.int (BO ns)|none=>_)=_;rw[show aX (.int 0::ls.map λl=>.int (l.2:Int))=some (0::ls.map λl=>(l.2:Int))by show(aX (ls.map λl=>.int (l.2:Int))).bind _=_;rw[DC];rfl];show some (D.int (BO (0::ls.map λl=>(l.2:Int))))=_;rw[DB ?_ λy hy=>?_]
  .rcases bse_in ls with h|⟨l,h1,h2⟩;.rw[h];exact Ut
   .exact Uu _ (UA.mpr #[l,h1,by rw[h2]])
  .rcases mem_cons.mp hy with rfl|hy;.lia
   .let[l,h1,rfl]:=UA.mp hy;have:=oJ h1;lia
 .have:x2 (va 4) (aa aG (cb (va 1)) (cI 1)) (bV ([sn !34,sn (bz ps),sn (ay ls),sn (gU r),none,none,none,none,none,none].set 4 !(.deep,iN (bse ls))))=![iN (bse ls),iN (ps.length+1)]:=by rw[pA,consX_a,eX,consX_a,bin2_a,lnp _ rfl];rfl
  rw[this];exact CC (by lia) (by lia)
 .rintro i x Y hx⟨hi,o5,o6,I,rfl⟩;have hxr:x=i/\i<ps.length+1-bse ls:=by
   rcases Nat.lt_or_ge i (ps.length+1-bse ls)with z|z;.rw[List.getElem?_range z]at hx;cases hx;exact#[rfl,z]
   .rw[List.getElem?_eq_none (by rw[length_range];exact z)]at hx;cases hx
  let[rfl,hin]:=hxr;have hL:=hLst (bse ls+x) (by lia) (by lia);let[J,e6]:=Gz (Y:=sD (!34) ps ls r (!35) o6 I) (i:=1) (j:=5) rfl rfl rfl rfl;have sb:((bse ls+x:Nat):Int)-(bse ls:Int)=(x:Int):=by lia
  have ex:∀I,x3 (va 6) (va 2) (va 3) (vw (sD (!34) ps ls r (!35) (!14) I))=![bz (ps.take _),ay ls,gU r]:=λI=>rfl;have dif:∀I,aa cA (va 5) (va 4) (vw (sD (!34) ps ls r (!35) (!14) I))=!iN x:=λI=>by show some (D.int (((bse ls+x:Nat):Int)-(bse ls:Int)))=_;rw[sb]
  rcases Nat.lt_or_eq_of_le hi with hlt|heq
  .have hch:g[x]?=some g[x]:=getElem?_eq_getElem hlt;let[r1,r2]:=hC x _ hch;have i4:ax (bg g) (iN x)=!_:=bn hch;generalize g[x]=ch at r2 i4;rw[r1]at hL;refine .inl #[sD _ ps ls r (sn (iN _)) (!(J,bz (ps.take _))) _,q_set e6 (q_set (evX_lf (clF_a.trans ((congrArg (·.bind λds=>bw (le ds)) (ex _)).trans (congrArg bw hL))) rfl) (q_if0 rfl (q_if0 ?_ (q_if0 ?_ rfl)))),hlt,_,_,_,rfl];.show ag _ (vw (sD (!34) ps ls r (!35) (!14) (dp .non)))=_;rw[testB_a,bin2_a,ln2 _ rfl,dif];show some (decide ((g.length:Int)<=(x:Int)))=_;rw[decide_eq_false (by lia)]
   .show bI _ (vw (sD (!34) ps ls r (!35) (!14) (dp .non)))=_;have e5:x4 (va 6) (va 2) (va 3) (aa ax (!38) (aa cA (va 5) (va 4))) (vw (sD (!34) ps ls r (!35) (!14) (dp .non)))=![bz (ps.take (bse ls+x)),ay ls,gU r,rowD ch]:=by
     have e7:aa ax (!38) (aa cA (va 5) (va 4)) (vw (sD (!34) ps ls r (!35) (!14) (dp .non)))=!rowD ch:=by rw[bin2_a,dif];exact i4
     simp only[consX_a,nilX_a,e7];rfl
    rw[notQ_a,trF_a,clF_a,e5,Option.bind_some,(hba (ps.take _) ls (U _) r lvl ch (C.o _ (by lia) (by lia)) V r2)];rfl
  .rcases hd with⟨c,P,h1,h2,h3,t⟩|⟨h1,_⟩
   .have hc:c=bse ls+x:=by lia
    subst hc;have hu:u=iN (bse ls+x):=by injection t with t;injection t
    have hw:v=wsD P:=by injection t with t;injection t with _ t;injection t
    subst hu;subst hw;rw[h3]at hL;have hP:=HL (C.w _) (p:=λw=>w.length<=100) (λw hw=>by rw[List.eq_of_mem_replicate hw];exact Nat.zero_le _) h3;have ea:=hal P hP;have ew:=hwh ((bse ls+x:Nat):Int);refine .inr (q_set e6 (q_set (evX_call (clF_a.trans ((congrArg (·.bind λds=>bw (le ds)) (ex _)).trans (congrArg bw hL))) rfl rfl (fCl_a.trans ((congrArg (·.bind λds=>fZ (le ds)) (ex _)).trans (congrArg fZ hL)))) (seqF_rt ((ifS_t rfl).trans (q_if0 ?_ (q_ret (evX_lf (clF_a.trans ?_) rfl)))))))
    .show kc _ _ (vw (sD (.tup [iN (bse ls+x),wsD P,bg g]) ps ls r (!35) (!14) (dp (wsD P))))=_;have t1:bI (jv (bu wh (x1 (aa ax (va 0) (cI 0))))) (vw (sD (.tup [iN (bse ls+x),wsD P,bg g]) ps ls r (!35) (!14) (dp (wsD P))))=!false:=by simp only[sB,j0,ew];rfl
     have t2:ag (aa (aP true) (aa ax (va 0) (cI 0)) (va 5)) (vw (sD (.tup [iN (bse ls+x),wsD P,bg g]) ps ls r (!35) (!14) (dp (wsD P))))=!false:=by simp
     have t3:ag (aa (aP true) (cb !38) (aa cA (va 5) (va 4))) (vw (sD (.tup [iN (bse ls+x),wsD P,bg g]) ps ls r (!35) (!14) (dp (wsD P))))=!false:=by rw[testB_a,bin2_a,ln2 _ rfl,dif,heq];simp
     have T:=mE (p:=ag (aa (aP true) (aa ax (va 0) (cI 0)) (va 5))) (q:=ag (aa (aP true) (cb !38) (aa cA (va 5) (va 4)))) (Y:=vw (sD (.tup [iN (bse ls+x),wsD P,bg g]) ps ls r (!35) (!14) (dp (wsD P))));rw[t2,t3]at T;rw[mE,t1];exact T
    .show(x2 (aa ax (va 0) (cI 1)) (va 7) (vw (sD (.tup [iN (bse ls+x),wsD P,bg g]) ps ls r (!35) (!14) (dp (wsD P))))).bind _=_;simp only[sB,j1,ea]
   .omega
 .rintro Y⟨hi,o5,o6,I,rfl⟩;rw[length_range]at hi;rcases hd with⟨c,P,h1,h2,_⟩|⟨h1,t⟩;.lia
  have hu:u=.non:=by injection t with t;injection t
  have hw:v=.non:=by injection t with t;injection t with _ t;injection t
  subst hu;subst hw;refine q_ret (evX_lf ?_ rfl);have t3:aa (aP false) (cb !38) (aa cA (aa aG (cb (va 1)) (cI 1)) (va 4)) (vw (sD (.tup [.non,.non,bg g]) ps ls r o5 o6 I))=!.bl true:=by rw[bin2_a,ln2 _ rfl,bin2_a,bin2_a,lnp _ rfl];show aP false (iN g.length) (.int ((ps.length:Int)+1-(bse ls:Int)))=_;rw[xI,show(ps.length:Int)+1-(bse ls:Int)=(g.length:Int)by lia];simp
  have t2:aa (fj false) (aa ax (va 0) (cI 1)) cN (vw (sD (.tup [.non,.non,bg g]) ps ls r o5 o6 I))=!_:=rfl;have T:=Cr (a:=aa (fj false) (aa ax (va 0) (cI 1)) cN) (b:=aa (aP false) (cb !38) (aa cA (aa aG (cb (va 1)) (cI 1)) (va 4))) (Y:=vw (sD (.tup [.non,.non,bg g]) ps ls r o5 o6 I));rw[t2,t3]at T;exact T
def KF(p:cF lt)(G:Good m o):∃I lvl,gR (levs lt o)=gU I/\NZ m I lvl/\(levs lt o).length<=100:=by
 let[V,_]:=Kl p G;have T:=(gp p G.ne).1;have U:=(gp p G.ne).2;have gl:=G.len;have gm:=G.le;have pos:∀l∈levs lt o,∀x∈l,0<=x/\x<(m:Int):=λl g x j=>by let[n,J,rfl]:=UA.mp ((jo p o).mem_iff.mp (List.mem_flatten.mpr #[l,g,j]));have:=UG.mp (G.pm.mem_iff.mp J);exact#[Int.natCast_nonneg _,by lia]
 refine#[(levs lt o).map λl=>l.map Int.toNat,wF (levs lt o),?_,#[#[by rw[length_map];lia,λi L hi=>?_],λa r=>?_],by lia];.unfold gR gU;rw[List.map_map];refine congrArg D.lst (List.map_congr_left λl g=>?_);show aN l=rowD (l.map Int.toNat);unfold aN rowD;rw[List.map_map];refine congrArg D.lst (List.map_congr_left λx j=>?_);show D.int x=D.int ((x.toNat:Nat):Int);rw[Int.toNat_of_nonneg (pos l g x j).1]
 .rw[getElem?_map]at hi;let[l,h1,rfl]:=Option.map_eq_some_iff.mp hi;have t:=UH h1;refine#[λz=>xV p G.ne l t (List.map_eq_nil_iff.mp z),?_,λa r=>?_];.have:=(List.sublist_flatten_of_mem t).length_le;rw[length_map];lia
  .let[x,j,rfl]:=UA.mp r;let[C,x1]:=pos l t x j;refine#[by lia,((V.at_ x.toNat (by lia) i (Us.mp h1).1).mp ?_).symm];rw[List.getD_eq_getElem?_getD,h1,Int.toNat_of_nonneg C];exact j
 .have h1:=V.lt a r;have h2:=(V.at_ a r _ h1).mpr rfl;rw[List.getD_eq_getElem?_getD,getElem?_eq_getElem h1]at h2;exact#[_,by rw[getElem?_map,getElem?_eq_getElem h1];rfl,UA.mpr #[(a:Int),h2,Int.toNat_natCast a]]
def N4(neg:Bool)(ls:List Lz):aP neg (ay ls) (ay ls)=!.bl (not neg):=by
 have h:jF (ls.map qC)=true/\bF (ls.map qC)<=1:=by induction ls with
|nil=>exact#[rfl,Nat.zero_le _]|cons l ls g=>exact#[by show(true&&jF (ls.map qC))=true;rw[g.1];rfl,by show max (max 0 (max 0 0)+1) (bF (ls.map qC))<=1;have:=g.2;lia]
 exact rS neg h.1 (by show bF (ls.map qC)+1<=50;lia) rfl rfl
def yk(g:∀l∈ls,LzOk ps l)(h1:bse ls<=c)(h2:c<=ps.length):∀l∈ls,LzOk (ps.take c) l:=λl j=>by have h:=g l j;have:=oJ j;exact#[h.1,h.2,by rw[List.length_take];lia]
def N5(hnx:uC nx)(hcw:NA cw)(J:DH op)(r:Valid ps)(h54:prod ps<=54)(g:ls.length<=24)(t:∀l∈ls,LzOk ps l):∃U:Nat->List Pq,HJ op ps ls U/\(∀a,∀q∈U a,q.2.length<=100)/\Opn nx cw ps ls U:=by
 have ex:∀k,∃V:List Pq,(∀q∈V,q.2.length<=100)/\∀l,ls[k]?=!l->op [bz ps,ay ls,iN k]=dp (.lst _)/\(∀b:Os,bw _=!(bD ((V.map (·.1)).find? (pC b))))/\∀q∈V,cw [ak ps,iN l.2,.int q.1.1]=dp (wD q.2):=λk=>by cases I:ls[k]?with
|none=>exact#[[],(λ_ z=>nomatch z),λ_ z=>nomatch z]|some l=>
   have C:=t l (UH I);let[T,t1,t2,t3]:=hnx ps ls k l r (by lia) g t I;let[V,u1,u2,u3]:=J ps ls k l r h54 g C I;have hW:∀q∈V,∃w,w∈wds (ps.drop l.2)/\q=plW ps ls k l w:=λq j=>by let[w,p,rfl]:=UA.mp (u1.mem_iff.mp j);exact#[w,(List.mem_filter.mp p).1,rfl]
   refine#[V,λq j=>?_,λl' z=>?_];.let[w,p,rfl]:=hW q j;rw[(fC _ w p).1,List.length_drop];have:=r.len;lia
   .cases z;refine#[u3,λb=>?_,λq j=>?_]
    .have e:V.map (·.1)=T.map (rkd _):=zE (HC r g C I).1 t1 t2 u1 u2 (by unfold uy;rw[List.map_map,List.map_map];rfl);rw[e];exact t3 b
    .let[w,p,rfl]:=hW q j;let[w1,w2]:=fC _ w p;exact hcw ps l.2 w r C.3 w1 w2
 refine#[λk=>(ex k).choose,λa ha=>?_,λa=>(ex a).choose_spec.1,g,λa ha b=>?_,λa l C q j=>((ex a).choose_spec.2 _ C).2.2 q j];.rw[((ex a).choose_spec.2 _ (getElem?_eq_getElem ha)).1];rfl
 .rw[((ex a).choose_spec.2 _ (getElem?_eq_getElem ha)).2.1 b];exact congrArg (λo=>!_) (Dx (λk=>(ex k).choose) b a)
def N6(o:uC nx)(p:NA cw)(g:DH op)(t:Valid ps)(C:prod ps<=54)(r:ls.length<=24)(j:∀l∈ls,LzOk ps l):∃U:Nat->Nat->List Pq,Cnt op ps ls U/\∀c,bse ls<=c->c<=ps.length->Opn nx cw (ps.take c) ls (U c):=by
 have ex:∀c,∃U:Nat->List Pq,(∀a,∀q∈U a,q.2.length<=100)/\(bse ls<=c->c<=ps.length->HJ op (ps.take c) ls U/\Opn nx cw (ps.take c) ls U):=λc=>by
  by_cases h:bse ls<=c/\c<=ps.length;.have:=jq t c;let[U,h1,h2,I]:=N5 o p g (Dz t c) (by lia) r (yk j h.1 h.2);exact#[U,h2,λ_ _=>#[h1,I]]
  .exact#[λ_=>[],(λ_ _ z=>nomatch z),λa b=>absurd #[a,b] h]
 exact#[λc=>(ex c).choose,#[λc h1 h2=>((ex c).choose_spec.2 h1 h2).1,λc=>(ex c).choose_spec.1],λc h1 h2=>((ex c).choose_spec.2 h1 h2).2]
def  DI(i8 dv:Fn)(sw:Uh->Option !39)(lV:Uh->Option !39)(dM dL dq dJ dI:Fn):TZ:=ab (av 1 (j8 dI (x2 (va 0) (cI 80)))) (ab (av 2 (j8 dJ (x2 (va 1) (cI 25)))) (ab (av 3 (j8 dq (x3 (va 1) (aa aJ (aa bv (aa ax (va 1) (cI 0)) (cI 24)) (cI 9)) (cb (va 2))))) (ab (av 4 (j8 dL (x2 (va 1) (va 3)))) (ab (av 5 (j8 dM (x2 (va 3) (va 4)))) (ab (av 6 (aY (M3 "Mill" lV (x1 (bb (au [11] (jX ac (va 2)) (bc 11) tQ (jK (x1 (va 11))))))) ac (gT (x1 (bb (au [11] (jX ac (va 2)) (bc 11) tQ (jK (x1 (va 11))))))))) (ab (av 7 (aY (M3 "Wish" sw (x2 (jK (x1 (va 3))) (bb (au [9,12] (jX ac (va 4)) (nE 2 (aC (bc 12) (aC (bc 9) cv))) tQ (dA (x2 (va 12) (jK (x1 (va 9))))))))) ac (gT (x2 (jK (x1 (va 3))) (bb (au [9,12] (jX ac (va 4)) (nE 2 (aC (bc 12) (aC (bc 9) cv))) tQ (dA (x2 (va 12) (jK (x1 (va 9))))))))))) (ab (av 8 (aY (jK (x1 (va 3))) (ue (x1 (va 3))) (gT (x1 (va 3))))) (ab (av 9 (j8 i8 (x3 (va 6) (va 8) (va 7)))) (ab (cG (kc (bI (jv (bu dv (x4 (va 9) (va 2) (va 3) (va 5))))) (ag (aa (aP true) (va 8) (va 3)))) (gj (bo (cB false))) aB) (ab (vP 9 2 10 (cI 0)) (ab (zf 9 2 (aZ (bb (cH aw)) (cH aw) (uf aw))) (ab (cG (ag (aa (fj true) (aa ax (va 9) (cI 1)) cN)) (ab (zf 9 1 (aZ (dA aw) ac (oi aw))) aB) aB) (gj (j8 dv (x4 (bu i8 (x3 (va 6) (va 8) (va 7))) (va 2) (va 3) (va 5))))))))))))))))
def  Mo{α:Type}(F:Vv->Option α)(Y:Ev):Prop:=F (bV Y)=none\/F (bV Y)=F (vw Y)
def mo_va(i:Nat)(Y:Ev):Mo (va i) Y:=by
 show aO (bV Y) i=none\/aO (bV Y) i=aO (vw Y) i;unfold aO bV vw;rw[getElem?_map,getElem?_map];rcases Y[i]?with _|_|⟨c,d⟩;.exact .inl rfl
 .exact .inl rfl
 .have key:(if lfD d then !d else none)=none\/(if lfD d then !d else none)=!d:=by
   cases lfD d;.exact .inl rfl
   .exact .inr rfl
  cases c with
|sh=>exact .inr rfl|top=>
   show(match some (if lfD d then !d else none)with|some !d=>!d|_=>none)=none\/(match some (if lfD d then !d else none)with|some !d=>!d|_=>none)=!d;rcases key with k|k<;>rw[k];.exact .inl rfl
   .exact .inr rfl|deep=>
   show(match some (if lfD d then !d else none)with|some !d=>!d|_=>none)=none\/(match some (if lfD d then !d else none)with|some !d=>!d|_=>none)=!d;rcases key with k|k<;>rw[k];.exact .inl rfl
   .exact .inr rfl
section
variable{Y:Ev}{α β γ:Type}
def Mo.of{g:β->Option α}(h:Mo G Y)(e:∀Y,F Y=(G Y).bind g):Mo F Y:=by
 unfold Mo;rw[e,e];rcases h with h|h;.rw[h];exact .inl rfl
 .rw[h];exact .inr rfl
def Mo.two{K}{g:β->γ->Option α}(h:Mo G Y)(k:Mo K Y)(e:∀Y,F Y=(G Y).bind λx=>(K Y).bind (g x)):Mo F Y:=by
 unfold Mo;rw[e,e];rcases h with h|h;.rw[h];exact .inl rfl
 .rw[h];rcases k with k|k;.rw[k];left;cases G (vw Y)<;>rfl
  .rw[k];exact .inr rfl
def KG{a b:Fv}(h:Mo a Y)(k:Mo b Y):Mo (aa g a b) Y:=h.two k λ_=>rfl
def uN{a:Fv}{b:Fx}(h:Mo a Y)(k:Mo b Y):Mo (ae a b) Y:=h.two k λ_=>rfl
def mo_1{a:Fv}(h:Mo a Y):Mo (x1 a) Y:=uN h (.inr rfl)
def N7{a:Fv}(h:Mo a Y):Mo (cb a) Y:=(mo_1 h).of λ_=>biF_a
def DJ(n:Int):Mo (cI n) Y:=.inr rfl
def vw_set(Y:Ev)(i:Nat)(s:Sl):vw (Y.set i !s)=(vw Y).set i !s.2:=by unfold vw;rw[List.map_set];rfl
def KH{R Sp:Fv}(h:R (vw Y)=!d)(m:Mo R Y)(j:∀e,Sp (vw Y)=!e->e=d):∃z:Cat×Ev,aY R ac Sp Y=!((z.1,d),z.2)/\vw z.2=vw Y:=by cases f:lfD d with
|true=>exact#[(.deep,Y),evX_lf h f,rfl]|false=>cases g:Sp (vw Y)with
|some e=>cases j e g;exact#[(.deep,Y),evX_call h f rfl g,rfl]|none=>
   rcases m with m|m;.exact#[(.sh,dC Y),evX_fz h f rfl g rfl m,λY=>by unfold vw dC;rw[List.map_map];refine List.map_congr_left λs _=>?_;cases s<;>rfl Y]
   .exact#[(.sh,Y),lM h f rfl g rfl (m.trans h),rfl]
def uO{f:Fn}{xs:Fx}(g:xs (vw Y)=!ds)(m:Mo xs Y)(e:f ds=!(c,d)):∃z:Cat×Ev,j8 f xs Y=!((z.1,d),z.2)/\vw z.2=vw Y:=KH (by rw[clF_a,g,Option.bind_some,e];rfl) ((λh=>h.of λ_=>clF_a) m) λj h=>by rw[fCl_a,g,Option.bind_some,e]at h;cases c<;>cases h;rfl
def i7{g:T2}(j:vw Y=v)(h:∃z:Cat×Ev,g Y=!((z.1,d),z.2)/\vw z.2=vw Y)(k:∀Y',vw Y'=v.set i !d->G Y'=out):ab (av i g) G Y=out:=by let[[c,Y'],e,l]:=h;exact q_set e (k _ (by rw[vw_set];rw[show vw Y'=vw Y from l,j]))
end
def KI{Y:Vv}(g:k<Y.length):aO ((Y.set k none).set k !d) k=!d:=by unfold aO;rw[List.getElem?_set_self (by rw[List.length_set];exact g)]
def Ro{β:Type}{k:Nat}{J:Fx}{Y:Vv}{xs:List β}{g:β->Uh}(o:J Y=!xs.map λx=>.lst (g x))(l:k<Y.length)(j:xs.length<big):au [k] J (bc k) tQ (jK (x1 (va k))) Y=!xs.map λx=>.lst (g x):=by refine aE o (λx _=>?_) j;simp only[stepF_a,wipe_cons,wipe_nil,gNm_a,tQ_a,Option.bind_some,if_true,kQ,consX_a,nilX_a,va_a,KI l,map_some];rfl
abbrev CM:Fv:=bb (au [11] (jX ac (va 2)) (bc 11) tQ (jK (x1 (va 11))))
abbrev CG:Fv:=bb (au [9,12] (jX ac (va 4)) (nE 2 (aC (bc 12) (aC (bc 9) cv))) tQ (dA (x2 (va 12) (jK (x1 (va 9))))))
def HM{j:Fv}(hd:aO (vw Y) i=!d)(h:∀Y':Vv,Y'.length=Y.length->aO Y' i=!d->bb (au ks (jX ac (va i)) g o j) Y'=!e):bb (au ks (jX ac (va i)) g o j) (vw Y)=!e/\Mo (bb (au ks (jX ac (va i)) g o j)) Y:=by
 have l:(vw Y).length=Y.length:=length_map _;have p:(bV Y).length=Y.length:=length_map _;refine#[h _ l hd,?_];rcases mo_va i Y with m|m;.left;rw[lsF_a];unfold au;rw[jX_none,m];rfl
 .right;rw[h _ l hd,h _ p (m.trans hd)]
def N8(h:k≠i):aO (Y.set k o) i=aO Y i:=by unfold aO;rw[List.getElem?_set_ne h]
def HN{Y:Vv}(g:k<Y.length):aO (Y.set k !d) k=!d:=by unfold aO;rw[List.getElem?_set_self g]
def KJ(ps:T3)(g:ps.length<=6)(Y':Vv)(j:Y'.length=13)(h:aO Y' 2=!bz ps):CM Y'=!bz ps:=by unfold CM;rw[lsF_a,Ro (by rw[jX_none,va_a,h];rfl) (by lia) (lt_big (by lia))];rfl
def Rp(g:List Gr)(l:g.length<=24)(Y':Vv)(j:Y'.length=13)(h:aO Y' 4=!bR g):CG Y'=!bR g:=by
 unfold CG;rw[lsF_a,aE (by rw[jX_none,va_a,h];rfl) (λx _=>?_) (lt_big (by lia))];.rfl
 .let[k,r]:=x;show(dA (x2 (va 12) (jK (x1 (va 9)))) ((((Y'.set 9 none).set 12 none).set 12 !.str (kdS k)).set 9 !rowD r)).bind _=_;rw[iJ,pA,consX_a,va_a,((N8 !2).trans (HN (by simp;lia))),eX,consX_a,kQ,eX,consX_a,va_a,(HN (by simp;lia))];rfl
noncomputable abbrev vK(a b c d e f g h i j:Uj):Vv:=[a,b,c,d,e,f,g,h,i,j,none,none,none]
def ym(Y:Ev)(i:Nat):vw (Y.set i none)=(vw Y).set i none:=by unfold vw;rw[List.map_set];rfl
def yn:∀chs:List Ub,(∀ch∈chs,ch.length<=24)->∃y,apD (.int 0) (chs.map rowD)=!y/\y.length=chs.length
|[],_=>#[[],rfl,rfl]|ch::chs,h=>by
  let[y,e,l]:=yn chs λc hc=>h c (Uu _ hc);have hb:(ch.map λ(k:Nat)=>D.int (k:Int)).length+1<big:=by rw[length_map];have:=h ch Ut;exact lt_big !6 
  refine#[.lst ((ch.map λ(k:Nat)=>D.int (k:Int))++[.int 0])::y,?_,by rw[length_cons,l];rfl];show(Mz (rowD ch)).bind _=_;unfold rowD Mz;dsimp only;rw[if_pos hb,Option.bind_some];show(apD (.int 0) (chs.map rowD)).bind _=_;rw[e];rfl
def GB(h:Y[i]?=!dp d):BD Y i=!d:=by unfold BD d8;rw[h];rfl
def yo(h:Y[i]?=!dp (.tup ds)):BE Y i=!ds:=by unfold BE;rw[GB h];rfl
def uP(h:ds[k]?=!.lst cs):qg ds k=!cs:=by unfold qg;rw[h]
def KL(h:Y[9]?=!dp !34)(j:apD (.int 0) (g.map rowD)=!y)(l:Y.length=13):vP 9 2 10 (cI 0) Y=!.nx (((Y.set 9 none).set 10 none).set 9 (dp (.tup [u,v,.lst y]))):=by unfold vP;rw[yo h,Option.bind_some,uP rfl,Option.bind_some,show nJ (cI 0 (vw ((Y.set 9 none).set 10 none)))=some _ from rfl,Option.bind_some,j,Option.bind_some,if_pos #[by lia,by decide]];rfl
def DK{f:Fv}(h:Y[9]?=!dp (.tup ds))(g:ds[k]?=!.lst cs)(j:f (vw Y)=!d)(l:cs.length<=99):zf 9 k f Y=!.nx (Y.set 9 (dp (.tup (ds.set k (.lst (cs++[d])))))):=by unfold zf;rw[yo h,Option.bind_some,uP g,Option.bind_some,j,Option.bind_some,if_pos (lt_big (by lia))]
def GC{few rt wi mi lvv gr lt pa po nx cw lp op}(hfew:Gu lp few)(hlp:Rb nx cw lp)(hrt:su op rt)(hwi:Dj wi)(hmi:ur mi)(hlv:Kv lvv)(hgr:Kt gr)(hlt:Ku lt)(hpa:yg pa)(hpo:se po)(hnx:uC nx)(hcw:NA cw)(hop:DH op)(ns:Ud)(hn:ns.length<=63):bw (aQ 1 13 (DI few rt wi mi lvv gr lt pa po) [aN ns])=!.bl true:=by
 let[cs,lc,e1]:=hpo ns !6;let[c2,ps,hv,h54,e2]:=hpa cs lc;have hl6:=hv.len;let[x0,ex0]:=jN (ns:=cs) (i:=0) (!2) !6;have m9:=md (x0/24) (show(0:Int)<9 by decide);obtain⟨n,en⟩:∃n:Nat,x0/24%9=n:=#[(x0/24%9).toNat,by omega];let[ls,ll,hok,e3]:=hlt cs ps n lc (!6) hv;have h24:ls.length<=24:=by omega
 have hlen:(ltOf ls).length=ls.length:=length_map _;let[gs,G,e4]:=hgr cs (ltOf ls) lc !6;rw[hlen]at G;have h7:∀p∈ltOf ls,0<=p.2/\p.2<7:=λp hp=>by let[l,h1,rfl]:=UA.mp hp;have:=(hok l h1).3;exact#[Int.natCast_nonneg _,by show(l.2:Int)<7;omega]
 have hlate:cF (ltOf ls):=λp hp=>#[(h7 p hp).1,by have:=(h7 p hp).2;omega];let[c5,hc5,e5]:=hlv ls.length (ltOf ls) gs h7 hlen G;have e7:=hwi ls.length (ltOf ls) gs hlate hlen G;rw[<-NB]at e4 e5 e7;let[lv,lvl,elv,V,h100]:=KF hlate G;rw[elv]at e5;let[U,C,W]:=N6 hnx hcw hop hv h54 h24 hok;let[d,F,e9]:=hfew ps ls (bE (ltOf ls) gs) U lv lvl hv h24 hok λc h1 h2=>hlp (ps.take c) ls (ltOf ls) gs (U c) lv lvl (W c h1 h2) (yk hok h1 h2) h100 elv V.1;have e10:=hrt ps ls U lv lvl d hv h24 hok V C F;have gl:gs.length<=24:=by have h1:=iT (gs:=gs) G.ne;have h2:=G.len;omega
 have e6:mi [bz ps]=![(("passes":Str),fB ps)]:=by
  have i1:(ps.map λp=>(true,p)).map (·.2)=ps:=by rw[List.map_map];exact List.map_id ps
  have q:=hmi true (ps.map λp=>(true,p)) (by rw[i1];exact hv);rw[i1]at q;refine Eq.trans (congrArg (λd=>mi [d]) ?_) q;show D.lst _=D.lst _;rw[List.map_map];rfl
 have lnp:eZ [bz ps]=!iN ps.length:=by rw[dZ];show some (D.int ((ps.map λp=>D.lst (p.map fz)).length:Nat))=_;rw[length_map]
 have main:DI few rt wi mi lvv gr lt pa po [sn (aN ns),none,none,none,none,none,none,none,none,none,none,none,none]=!.rt (.deep,.bl true):=by
  unfold DI;refine i7 (v:=vK (!aN ns) none none none none none none none none none) rfl (uO rfl (uN (mo_va _ _) (mo_1 (DJ _))) e1) λY1(h1:vw Y1=vK (!aN ns) (!aN cs) none none none none none none none none)=>?_;refine i7 h1 (uO (by rw[h1];rfl) (uN (mo_va _ _) (mo_1 (DJ _))) e2) λY2(h2:vw Y2=vK (!aN ns) (!aN cs) (!bz ps) none none none none none none none)=>?_;refine i7 h2 (uO (ds:=[aN cs,iN n,iN ps.length]) (by rw[h2];simp only[sB,ex0,bK (show(0:Int)<24 by decide) (show(24:Int)<1073741824 by decide),eW _ 9 !2,en,lnp]) (uN (mo_va _ _) (uN (KG (KG (KG (mo_va _ _) (DJ _)) (DJ _)) (DJ _)) (mo_1 (N7 (mo_va _ _))))) e3) λY3(h3:vw Y3=vK (!aN ns) (!aN cs) (!bz ps) (!ay ls) none none none none none none)=>?_;refine i7 h3 (uO (by rw[h3];rfl) (uN (mo_va _ _) (mo_1 (mo_va _ _))) e4) λY4(h4:vw Y4=vK (!aN ns) (!aN cs) (!bz ps) (!ay ls) (!bR gs) none none none none none)=>?_;refine i7 h4 (uO (by rw[h4];rfl) (uN (mo_va _ _) (mo_1 (mo_va _ _))) e5) λY5(h5:vw Y5=vK (!aN ns) (!aN cs) (!bz ps) (!ay ls) (!bR gs) (!gU lv) none none none none)=>?_;have l5:Y5.length=13:=by have:=congrArg List.length h5;unfold vw at this;rw[length_map]at this;exact this
  let[cm,mm]:=HM (Y:=Y5) (i:=2) (d:=bz ps) (e:=bz ps) (by rw[h5];rfl) λY' a b=>KJ ps hl6 Y' (a.trans l5) b;refine i7 h5 (KH (d:=ak ps) (by rw[ui,eX,consX_a,cm,Option.bind_some,nilX_a,Option.bind_some,Option.bind_some,e6];rfl) ((mo_1 mm).of λ_=>ui) λe he=>?_) λY6(h6:vw Y6=vK (!aN ns) (!aN cs) (!bz ps) (!ay ls) (!bR gs) (!gU lv) (!ak ps) none none none)=>?_
  .have cm':CM (vw Y5)=!bz ps:=cm;have z:gT (x1 CM) (vw Y5)=none:=by unfold gT;rw[eX,consX_a,cm'];rfl
   cases z.symm.trans he
  have l6:Y6.length=13:=by have:=congrArg List.length h6;unfold vw at this;rw[length_map]at this;exact this
  let[cg,mg]:=HM (Y:=Y6) (i:=4) (d:=bR gs) (e:=bR gs) (by rw[h6];rfl) λY' a b=>Rp gs gl Y' (a.trans l6) b;have cl:jK (x1 (va 3)) (vw Y6)=!ay ls:=by rw[h6,kQ];rfl
  refine i7 h6 (KH (d:=bE (ltOf ls) gs) (by rw[ui,pA,consX_a,cl,eX,consX_a,cg,Option.bind_some,Option.bind_some,nilX_a,Option.bind_some,Option.bind_some,Option.bind_some,e7];rfl) ((uN ((mo_1 (mo_va _ _)).of (g:=λds=>(mw ds).map D.lst) λY=>by rw[kQ];cases x1 (va 3) Y<;>rfl) (mo_1 mg)).of λ_=>ui) λe he=>?_) λY7(h7:vw Y7=vK (!aN ns) (!aN cs) (!bz ps) (!ay ls) (!bR gs) (!gU lv) (!ak ps) (!bE (ltOf ls) gs) none none)=>?_
  .have cg':CG (vw Y6)=!bR gs:=cg;have z:gT (x2 (jK (x1 (va 3))) CG) (vw Y6)=none:=by unfold gT;rw[pA,consX_a,cl,eX,consX_a,cg'];rfl
   cases z.symm.trans he
  have lfz:dS (ls.map qC)=true:=ca λd hd=>by let[l,_,rfl]:=UA.mp hd;rfl
  refine i7 h7 #[(.deep,Y7),evX_lfs (d:=ay ls) (ds:=ls.map qC) (by rw[h7,kQ];rfl) rfl (by rw[h7,Ht];rfl) lfz,rfl] λY8(h8:vw Y8=vK (!aN ns) (!aN cs) (!bz ps) (!ay ls) (!bR gs) (!gU lv) (!ak ps) (!bE (ltOf ls) gs) (!ay ls) none)=>?_;have l8:Y8.length=13:=by have:=congrArg List.length h8;unfold vw at this;rw[length_map]at this;exact this
  let[chs,hC,hd]:=F;obtain⟨u,v,rfl⟩:∃u v,d=.tup [u,v,bg chs]:=by rcases hd with⟨c,P,_,_,_,rfl⟩|⟨_,rfl⟩<;>exact#[_,_,rfl]
  have nlf:lfD (.tup [u,v,bg chs])=false:=by show(lfD u&&(lfD v&&(false&&true)))=false;simp
  refine q_set (s:=(.deep,.tup [u,v,bg chs])) (Y':=Y8) (evX_call (d:=.tup [u,v,bg chs]) (by rw[h8];exact clF_a.trans (congrArg bw e9)) nlf rfl (by rw[h8];exact fCl_a.trans (congrArg fZ e9))) ?_;have h9:vw (Y8.set 9 (dp (.tup [u,v,bg chs])))=vK (!aN ns) (!aN cs) (!bz ps) (!ay ls) (!bR gs) (!gU lv) (!ak ps) (!bE (ltOf ls) gs) (!ay ls) !.tup [u,v,bg chs]:=by rw[vw_set,h8];rfl
  have l9:(Y8.set 9 (dp (.tup [u,v,bg chs]))).length=13:=by rw[List.length_set];exact l8
  have s9:(Y8.set 9 (dp (.tup [u,v,bg chs])))[9]?=!dp (.tup [u,v,bg chs]):=List.getElem?_set_self !6;show ab _ _ (Y8.set 9 (dp (.tup [u,v,bg chs])))=_;generalize Y8.set 9 (dp (.tup [u,v,bg chs]))=Y9 at h9 l9 s9⊢;refine q_if0 ?_ ?_
  .have ea:bu rt (x4 (va 9) (va 2) (va 3) (va 5)) (vw Y9)=!.bl true:=by rw[h9];exact clF_a.trans (congrArg bw e10)
   have t1:bI (jv (bu rt (x4 (va 9) (va 2) (va 3) (va 5)))) (vw Y9)=!false:=by rw[notQ_a,trF_a,ea];rfl
   have t2:ag (aa (aP true) (va 8) (va 3)) (vw Y9)=!false:=by rw[h9,testB_a,bin2_a];show(aP true (ay ls) (ay ls)).bind D.asB=_;rw[N4];rfl
   rw[mE,t1];exact t2
  let[y,ey,ly]:=yn chs λch hch=>by let[i,hi]:=List.mem_iff_getElem?.mp hch;exact(hC i ch hi).2.2.1
  have hcl:chs.length<=7:=by rcases hd with⟨c,P,h1,h2,_⟩|⟨h1,_⟩<;>omega
  have fin:∀Y d',vw Y=vK (!aN ns) (!aN cs) (!bz ps) (!ay ls) (!bR gs) (!gU lv) (!ak ps) (!bE (ltOf ls) gs) (!ay ls) !d'->gj (j8 rt (x4 (bu few (x3 (va 6) (va 8) (va 7))) (va 2) (va 3) (va 5))) Y=!.rt (.deep,.bl true):=λY d' h=>by
   have ef:bu few (x3 (va 6) (va 8) (va 7)) (vw Y)=!.tup [u,v,bg chs]:=by rw[h];exact clF_a.trans (congrArg bw e9)
   refine q_ret (evX_lf (d:=.bl true) (clF_a.trans ?_) rfl);show(ae (bu few (x3 (va 6) (va 8) (va 7))) (x3 (va 2) (va 3) (va 5)) (vw Y)).bind _=_;rw[consX_a,ef,h];exact congrArg bw e10
  refine q_st (KL s9 ey l9) ?_;have h10:vw (((Y9.set 9 none).set 10 none).set 9 (dp (.tup [u,v,.lst y])))=vK (!aN ns) (!aN cs) (!bz ps) (!ay ls) (!bR gs) (!gU lv) (!ak ps) (!bE (ltOf ls) gs) (!ay ls) !.tup [u,v,.lst y]:=by rw[vw_set,ym,ym,h9];rfl
  have l10:(((Y9.set 9 none).set 10 none).set 9 (dp (.tup [u,v,.lst y]))).length=13:=by rw[List.length_set,List.length_set,List.length_set];exact l9
  have s10:(((Y9.set 9 none).set 10 none).set 9 (dp (.tup [u,v,.lst y])))[9]?=!dp (.tup [u,v,.lst y]):=List.getElem?_set_self (by rw[List.length_set,List.length_set];omega);generalize((Y9.set 9 none).set 10 none).set 9 (dp (.tup [u,v,.lst y]))=Y10 at h10 l10 s10⊢;refine q_st (DK (k:=2) (ds:=[u,v,.lst y]) (cs:=y) (d:=.lst []) s10 rfl (oB rfl rfl rfl) !6) ?_;have h11:vw (Y10.set 9 (dp (.tup ([u,v,.lst y].set 2 (.lst (y++[.lst []]))))))=vK (!aN ns) (!aN cs) (!bz ps) (!ay ls) (!bR gs) (!gU lv) (!ak ps) (!bE (ltOf ls) gs) (!ay ls) !.tup [u,v,.lst (y++[.lst []])]:=by rw[vw_set,h10];rfl
  have s11:(Y10.set 9 (dp (.tup ([u,v,.lst y].set 2 (.lst (y++[.lst []]))))))[9]?=!dp (.tup [u,v,.lst (y++[.lst []])]):=List.getElem?_set_self !6;generalize Y10.set 9 (dp (.tup ([u,v,.lst y].set 2 (.lst (y++[.lst []])))))=Y11 at h11 s11⊢;rcases hd with⟨c,P,_,_,h3,h4⟩|⟨_,h4⟩
  .have hw:v=wsD P:=by injection h4 with h4;injection h4 with _ h4;injection h4
   subst hw;have hP:P.length=ls.length:=(sk h3).trans (List.length_replicate ..);refine NC (b:=true) (by rw[h11];rfl) (q_st (DK (k:=1) (ds:=[u,wsD P,.lst (y++[.lst []])]) (cs:=P.map wD) (d:=.tup []) s11 rfl (ww rfl rfl) (by rw[length_map];omega)) rfl) (fin _ (.tup [u,.lst (P.map wD++[.tup []]),.lst (y++[.lst []])]) ?_);rw[vw_set,h11];rfl
  .have hw:v=.non:=by injection h4 with h4;injection h4 with _ h4;injection h4
   subst hw;exact q_if0 (by rw[h11];rfl) (fin _ _ h11)
 exact congrArg bw (ar (n:=1) (m:=13) (ds:=[aN ns]) rfl main)
def  Sa(N P:Uc)(sc:Scope):Bool:=decide (sc.kind=.function)&&(not sc.isCoroutine&&(not sc.isGenerator&&(decide N.Nodup&&(decide (N.take P.length=P)&&((P.all λx=>decide (sc.names.lookup x=some .local)||decide (sc.names.lookup x=some .cell))&&sc.names.all λy=>not (decide (y.2=.free)))))))
def HP(h:Sa N P g=true:=by kernel_rfl):FnScope N P g:=by simp only[Sa,and_eq_true,decide_eq_true_eq,Bool.not_eq_true',List.all_eq_true,Bool.or_eq_true,decide_eq_false_iff_not]at h;exact#[h.1,h.2.1,h.2.2.1,h.2.2.2.1,h.2.2.2.2.1,h.2.2.2.2.2.1,h.2.2.2.2.2.2]
def  G0:Gb where
 fn:=λ_=>none;cn:=λx=>if x=("KINDS":Str)then !.tup [.str "queue",.str "pile"]else if x=("MOST_PASSES":Str)then !.int 6 else if x=("MOST_POCKETS":Str)then !.int 6 else if x=("MOST_WIDTH":Str)then !.int 9 else if x=("MOST_CODES":Str)then !.int 1000 else if x=("MOST_SIZE":Str)then !.int 9 else if x=("MOST_LETTERS":Str)then !.int 24 else if x=("GROUP_KINDS":Str)then !.tup [.str "any",.str "come",.str "row"]else none;no:=λx=>if x=("all":Str)then true else if x=("bool":Str)then true else if x=("enumerate":Str)then true else if x=("int":Str)then true else if x=("isinstance":Str)then true else if x=("len":Str)then true else if x=("list":Str)then true else if x=("max":Str)then true else if x=("min":Str)then true else if x=("range":Str)then true else if x=("reversed":Str)then true else if x=("sorted":Str)then true else if x=("tuple":Str)then true else if x=("zip":Str)then true else false;fl:=λC m=>if C=("Mill":Str)/\m=("passes":Str)then true else if C=("Wish":Str)/\m=("groups":Str)then true else if C=("Wish":Str)/\m=("level_letters":Str)then true else if C=("Wish":Str)/\m=("level_numbers":Str)then true else false;mt:=λ_ _=>none;ini:=λ_=>none
abbrev fD(k i n:Nat)(N:Uc)(G:Gb):xx:=Hq 60 k N (N.take n) (top i) G
def  sv(x:Str)(st:Stmt)(ps:Uc)(us:T9):Prop:=∀(qual:Str)(kV doc pm:Value)(an:Option Addr)(cdv ct:Value),bindArgs (PySem.W.fnOf x qual (b7 st) (aL st) (ao st) .none kV doc pm an cdv ct) #[us,[]]=pure (ps.zip us)
def jV{α:Type}{n:Nat}:∀{g:List α},g.length=n+1->∃a r,g=a::r/\r.length=n|a::r,h=>#[a,r,rfl,Nat.succ.inj h]
def N9{x:Str}{st:Stmt}{ps:Uc}(e:ps.length=1)(h:∀u0,sv x st ps [u0]):eV x st ps:=λq k d p a c t us hl=>by let[u0,r0,rfl,z0]:=jV (hl.trans e);cases List.length_eq_zero_iff.mp z0;exact h u0 q k d p a c t
def Rq{x:Str}{st:Stmt}{ps:Uc}(e:ps.length=2)(h:∀u0 u1,sv x st ps [u0,u1]):eV x st ps:=λq k d p a c t us hl=>by let[u0,r0,rfl,z0]:=jV (hl.trans e);let[u1,r1,rfl,z1]:=jV z0;cases List.length_eq_zero_iff.mp z1;exact h u0 u1 q k d p a c t
def Sb{x:Str}{st:Stmt}{ps:Uc}(e:ps.length=3)(h:∀u0 u1 u2,sv x st ps [u0,u1,u2]):eV x st ps:=λq k d p a c t us hl=>by let[u0,r0,rfl,z0]:=jV (hl.trans e);let[u1,r1,rfl,z1]:=jV z0;let[u2,r2,rfl,z2]:=jV z1;cases List.length_eq_zero_iff.mp z2;exact h u0 u1 u2 q k d p a c t
def TF{x:Str}{st:Stmt}{ps:Uc}(e:ps.length=4)(h:∀u0 u1 u2 u3,sv x st ps [u0,u1,u2,u3]):eV x st ps:=λq k d p a c t us hl=>by let[u0,r0,rfl,z0]:=jV (hl.trans e);let[u1,r1,rfl,z1]:=jV z0;let[u2,r2,rfl,z2]:=jV z1;let[u3,r3,rfl,z3]:=jV z2;cases List.length_eq_zero_iff.mp z3;exact h u0 u1 u2 u3 q k d p a c t
def  aF:xx:=fD 0 16 3 ["value","least","most"] G0
def  G1:Gb:=addF G0 "is_within" 1 aF
def  dR:xx:=fD 1 18 1 ["pocket"] G1
def  G2:Gb:=addF G1 "is_pocket" 2 dR
def  jr:xx:=fD 2 19 1 ["pockets","pocket"] G2
def  G3:Gb:=addF G2 "is_pass" 3 jr
def  bM:xx:=fD 3 21 1 ["passes","product","pockets"] G3
def  G4:Gb:=addF G3 "codes_of" 4 bM
def  cc:xx:=fD 4 20 1 ["passes","pockets"] G4
def  G5:Gb:=addF G4 "are_passes" 5 cc
noncomputable abbrev dc:Uc:=["self","passes","pockets"]
noncomputable abbrev lz:Uc:=["self","passes"]
def j9:FnScope dc lz (ao aS):=HP
def lA(y:Addr):DX 60 (rK dc aS 5 G5) y (G0.fl "Mill") (aL aS)=oq cc y:=by kernel_rfl
def  lV:Uh->Option !39:=gM cc
def  G6:Gb:=addI G5 "Mill" 6 lV
def  jt:xx:=fD 6 17 1 ["size"] G6
def  G7:Gb:=addF G6 "is_size" 7 jt
noncomputable abbrev pE:Uc:=["self"]
noncomputable abbrev pF:Uc:=["self"]
def  cO:xx:=Hq 60 7 pE pF fI G7
def pG:cO=aQ 1 1 (uq G0.fl):=by kernel_rfl
def  G8:Gb:=addM G7 "many" "Mill" 8 cO
def  eH:xx:=fD 8 23 2 ["mill","late"] G8
def  G9:Gb:=addF G8 "is_late" 9 eH
def  fF:xx:=fD 9 29 2 ["mill","letter"] G9
def  Sc:Gb:=addF G9 "is_letter" 10 fF
def  aK:xx:=fD 10 30 2 ["mill","letters","letter"] Sc
def  OS:Gb:=addF Sc "look_at_letters" 11 aK
noncomputable abbrev oM:Uc:=["self"]
noncomputable abbrev oN:Uc:=["self"]
def  gE:xx:=Hq 60 11 oM oN eI OS
def oO:gE=aQ 1 1 (eh G0.fl bM):=by kernel_rfl
def  Rr:Gb:=addM OS "codes" "Mill" 12 gE
def  de:xx:=fD 12 24 2 ["mill","late"] Rr
def  Se:Gb:=addF Rr "look_at_late" 13 de
def  lW:xx:=fD 13 25 3 ["kind","ahead","code"] Se
def  G14:Gb:=addF Se "laid" 14 lW
def  cP:xx:=fD 14 26 3 ["mill","late","code","numbers","ahead","left","pockets","number"] G14
def  Sf:Gb:=addF G14 "code_word" 15 cP
def  ju:xx:=fD 15 31 2 ["letters","letter"] Sf
def  Sg:Gb:=addF Sf "rank_of" 16 ju
def  df:xx:=fD 16 33 4 ["pockets","size","ahead","sides","found","number","pocket","turn","code","side"] Sg
def  Sh:Gb:=addF Sg "sides_behind" 17 df
def  ce:xx:=fD 17 34 3 ["mill","size","late","ahead","sides","pockets"] Sh
def  Si:Gb:=addF Sh "open_sides" 18 ce
def  dH:xx:=fD 18 35 3 ["mill","letters","letter","rank","code","side"] Si
def  Sj:Gb:=addF Si "open_places" 19 dH
def  bp:xx:=fD 19 36 4 ["mill","letters","letter","beyond","place"] Sj
def  OT:Gb:=addF Sj "next_place" 20 bp
noncomputable abbrev mP:Uc:=["self","level"]
noncomputable abbrev mQ:Uc:=["self"]
def  pH:xx:=Hq 60 20 mP mQ dU OT
def  G21:Gb:=addM OT "levels" "Wish" 21 pH
def  cf:xx:=fD 21 37 3 ["mill","letters","wish","plan","beyond","chain","level","places","letter","place"] G21
def  G22:Gb:=addF G21 "least_plan" 22 cf
def  dg:xx:=fD 22 39 2 ["mill","count"] G22
def  G23:Gb:=addF G22 "first_passes" 23 dg
def  dh:xx:=fD 23 40 2 ["mill","letters","least","size","late"] G23
def  Sk:Gb:=addF G23 "counts_asked" 24 dh
def  i8:xx:=fD 24 41 3 ["mill","letters","wish","chains","count","told"] Sk
def  Sm:Gb:=addF Sk "fewest" 25 i8
def  gG:xx:=fD 25 44 2 ["group","many","letter"] Sm
def  So:Gb:=addF Sm "is_group" 26 gG
def  bq:xx:=fD 26 45 1 ["groups","found","kind","members"] So
def  Sq:Gb:=addF So "grouped_letters" 27 bq
def  ck:xx:=fD 27 46 2 ["groups","many","group"] Sq
def  Rs:Gb:=addF Sq "are_groups" 28 ck
def  di:xx:=aQ 2 2 iR
def  Rt:Gb:=addF Rs "as_they_come" 29 di
def  dk:xx:=fD 29 48 3 ["letters","kind","members","ordered","letter"] Rt
def  Sr:Gb:=addF Rt "group_levels" 30 dk
def  cQ:xx:=fD 30 49 2 ["letters","groups","found","kind","members"] Sr
def  Ss:Gb:=addF Sr "levels_of" 31 cQ
def  cq:xx:=fD 31 50 1 ["levels","found","number","level","letter"] Ss
def  Oa:Gb:=addF Ss "numbers_of" 32 cq
noncomputable abbrev dm:Uc:=["self","letters","groups","kind","members"]
noncomputable abbrev lB:Uc:=["self","letters","groups"]
def ka:FnScope dm lB (ao aT):=HP
def lC(y:Addr):DX 60 (rK dm aT 32 Oa) y (G0.fl "Wish") (aL aT)=lT cq cQ ck y:=by kernel_rfl
def  sw:Uh->Option !39:=gW (lT cq cQ ck)
def  Ru:Gb:=addI Oa "Wish" 33 sw
def  eu:xx:=fD 33 54 2 ["script","many","tens","parts","k","cell"] Ru
def  Su:Gb:=addF Ru "_law_parts" 34 eu
def  dI:xx:=fD 34 55 2 ["script","many","stir","cell","numbers","k","mixed","number"] Su
def  Sv:Gb:=addF Su "_law_poured" 35 dI
def  dJ:xx:=fD 35 56 2 ["numbers","at","many","passes","codes","k","number","size","row","j","kind","width"] Sv
def  Sw:Gb:=addF Sv "_law_passes" 36 dJ
def  dq:xx:=fD 36 57 3 ["numbers","many","most","late","letters","k","number","size"] Sw
def  Sx:Gb:=addF Sw "_law_letters" 37 dq
def  dL:xx:=fD 37 58 2 ["numbers","letters","rest","groups","k","number"] Sx
def  Sy:Gb:=addF Sx "_law_groups" 38 dL
def  dM:xx:=fD 38 59 2 ["letters","groups","levels","kind","told","late","letter"] Sy
def  Sz:Gb:=addF Sy "_law_levels" 39 dM
def  bh:xx:=fD 39 53 1 ["found"] Sz
def  SD:Gb:=addF Sz "_law_is_whole" 40 bh
def  eB:xx:=fD 40 60 3 ["passes","late","size","words","row","longer","word","j"] SD
def  SF:Gb:=addF SD "_law_words" 41 eB
def  cu:xx:=fD 41 61 4 ["passes","late","word","key","n","row","code","k"] SF
def  SG:Gb:=addF SF "_law_place" 42 cu
def  aW:xx:=fD 42 62 3 ["passes","letters","letter","key","found","word","size","late"] SG
def  SH:Gb:=addF SG "_law_open" 43 aW
def  cR:xx:=fD 43 63 2 ["open_ones","beyond","pair"] SH
def  SI:Gb:=addF SH "_law_next" 44 cR
def  eE:xx:=fD 44 64 3 ["passes","letters","levels","plan","beyond","level","taken","letter","pair"] SI
def  SJ:Gb:=addF SI "_law_least" 45 eE
def  dt:xx:=fD 45 66 2 ["levels","letter","k"] SJ
def  SK:Gb:=addF SJ "_law_level" 46 dt
def  fG:xx:=fD 46 65 4 ["passes","letters","levels","chain","beyond","k","pair","ahead"] SK
def  SL:Gb:=addF SK "_law_bars" 47 fG
def  bS:xx:=fD 47 67 2 ["found","due","word","part"] SL
def  SM:Gb:=addF SL "_law_plan_alike" 48 bS
def  dv:xx:=fD 48 68 4 ["told","passes","letters","levels","first","count","part","plan","size","late"] SM
def  TH:Gb:=addF SM "_law_right" 49 dv
abbrev GD:Uc:=["script","numbers","passes","letters","groups","levels","mill","wish","handed","told","chain","row","kind"]
noncomputable abbrev GE:Uc:=["script"]
def DL:FnScope GD GE (ao qD):=HP
structure Tx(K:Frag):Prop where
 v0:bf K "is_within" jw
 v1:bf K "is_pocket" jx
 v2:bf K "is_pass" lX
 v3:bf K "codes_of" kg
 v4:bf K "are_passes" gV
 v5:bf K "is_size" lY
 v6:bf K "is_late" lZ
 v7:bf K "is_letter" jy
 v8:bf K "look_at_letters" d4
 v9:bf K "look_at_late" fQ
 v10:bf K "laid" sE
 v11:bf K "code_word" jz
 v12:bf K "rank_of" l7
 v13:bf K "sides_behind" fR
 v14:bf K "open_sides" gX
 v15:bf K "open_places" gH
 v16:bf K "next_place" gY
 v17:bf K "least_plan" gZ
 v18:bf K "first_passes" fS
 v19:bf K "counts_asked" fT
 v20:bf K "fewest" m8
 v21:bf K "is_group" kh
 v22:bf K "grouped_letters" d5
 v23:bf K "are_groups" g9
 v24:CY K "as_they_come" fU 293v25:bf K "group_levels" fV
 v26:bf K "levels_of" jA
 v27:bf K "numbers_of" hG
 v28:bf K "_law_parts" hJ
 v29:bf K "_law_poured" gI
 v30:bf K "_law_passes" gJ
 v31:bf K "_law_letters" fW
 v32:bf K "_law_groups" gK
 v33:bf K "_law_levels" gL
 v34:bf K "_law_is_whole" fq
 v35:bf K "_law_words" hZ
 v36:bf K "_law_place" ic
 v37:bf K "_law_open" jB
 v38:bf K "_law_next" jC
 v39:bf K "_law_least" ie
 v40:bf K "_law_level" ig
 v41:bf K "_law_bars" jD
 v42:bf K "_law_plan_alike" d6
 v43:bf K "_law_right" ii
 v44:bf K "law" qD
 bl:CZ K 293v45:ug K "Mill" "__init__" "Mill.__init__" aS
 v46:ug K "Mill" "many" "Mill.many" fI
 v47:ug K "Mill" "codes" "Mill.codes" eI
 v48:ug K "Wish" "levels" "Wish.levels" dU
 v49:ug K "Wish" "__init__" "Wish.__init__" aT
 v50:TCls K "Mill"v51:TCls K "Wish"v52:∃Ca,nsIn K mainGlobals "Mill"=!!24/\findIn K (.ref Ca) "passes"=!none
 v53:∃Ca,nsIn K mainGlobals "Wish"=!!24/\findIn K (.ref Ca) "groups"=!none
 v54:∃Ca,nsIn K mainGlobals "Wish"=!!24/\findIn K (.ref Ca) "level_letters"=!none
 v55:∃Ca,nsIn K mainGlobals "Wish"=!!24/\findIn K (.ref Ca) "level_numbers"=!none
 v56:∃(a:Addr)(od:Option Addr)(n:Nat)(sl:Array Ua)(t0:Tok)(t1:Tok),nsIn K mainGlobals "KINDS"=!!33/\K.lookup a=!#[.type "tuple",od,.seq #[ .str "queue" t0,.str "pile" t1] n,sl]v57:∃t,nsIn K mainGlobals "MOST_PASSES"=!!.int 6 t  
 v58:∃t,nsIn K mainGlobals "MOST_POCKETS"=!!.int 6 t  
 v59:∃t,nsIn K mainGlobals "MOST_WIDTH"=!!.int 9 t  
 v60:∃t,nsIn K mainGlobals "MOST_CODES"=!!.int 1000 t  
 v61:∃t,nsIn K mainGlobals "MOST_SIZE"=!!.int 9 t  
 v62:∃t,nsIn K mainGlobals "MOST_LETTERS"=!!.int 24 t  
 v63:∃(a:Addr)(od:Option Addr)(n:Nat)(sl:Array Ua)(t0:Tok)(t1:Tok)(t2:Tok),nsIn K mainGlobals "GROUP_KINDS"=!!33/\K.lookup a=!#[.type "tuple",od,.seq #[ .str "any" t0,.str "come" t1,.str "row" t2] n,sl]v64:nsIn K mainGlobals "all"=!none
 v65:nsIn K mainGlobals "bool"=!none
 v66:nsIn K mainGlobals "enumerate"=!none
 v67:nsIn K mainGlobals "int"=!none
 v68:nsIn K mainGlobals "isinstance"=!none
 v69:nsIn K mainGlobals "len"=!none
 v70:nsIn K mainGlobals "list"=!none
 v71:nsIn K mainGlobals "max"=!none
 v72:nsIn K mainGlobals "min"=!none
 v73:nsIn K mainGlobals "range"=!none
 v74:nsIn K mainGlobals "reversed"=!none
 v75:nsIn K mainGlobals "sorted"=!none
 v76:nsIn K mainGlobals "tuple"=!none
 v77:nsIn K mainGlobals "zip"=!none
def gq:fA aF:=tr CF
def KM:CH jt:=tr (JV gq)
def DM:rN dR:=tr (CI gq)
def KN:CJ jr:=tr (JW DM)
def sx:j6 bM:=tr FI
def DN:ur lV:=JX (tr (L2.h_are KN sx))
def uQ:G0.fl "Mill" "passes"=true:=by kernel_rfl
def KO{k:Nat}{G:Gb}(e:G.mt "many" "Mill"=!(8,cO))(h:8<=k):xK (G.mt "many") k:=λps=>by
 show((G.mt "many" "Mill").bind λz=>if z.1<=k/\("many":Str)∉[("passes":Str)]then z.2 [ak ps]else none)=_;rw[e];simp only[Option.bind_some];rw[if_pos #[h,by decide],pG];exactλg ps=>by refine ar rfl (seqF_rt (b9 (evX_lf ?_ rfl)));simp[az,iM g,fB] uQ ps
def Rv:G8.mt "many" "Mill"=!(8,cO):=by kernel_rfl
def Ob:G22.mt "many" "Mill"=!(8,cO):=by kernel_rfl
def Oc:G23.mt "many" "Mill"=!(8,cO):=by kernel_rfl
def DO:xL eH:=tr (JY (KO (k:=8) Rv !2) gq)
def Rw:R5 (G14.mt "codes") 14:=λps g=>by
 have e:G14.mt "codes" "Mill"=!(12,gE):=by kernel_rfl
 show((G14.mt "codes" "Mill").bind λz=>if z.1<=14/\("codes":Str)∉[("passes":Str)]then z.2 [ak ps]else none)=_;rw[e];simp only[Option.bind_some];rw[if_pos !2,oO];exact Q8 uQ sx g
def GF:wm de:=tr (FL DO)
def DP:oE fF:=tr (zL DO KM)
def oP:oF aK:=tr (Ge DP)
def KP:wC ju:=tr Gg
def DQ:ql lW:=tr J0
def z_cword:NA cP:=tr (Gm uQ DQ Rw gq GF)
def DR:sf df:=tr (Dn DQ)
def GG:wB ce:=tr (Gd uQ DR sx)
def GH:wE dH:=tr (Gh GG KP oP)
def z_next:uC bp:=tr (Kj GH)
def GI:wv gG:=tr (F4 gq)
def zM:oA bq:=tr zF
def KQ:Dc di:=tr Kb
def Rx:Q4 dk:=tr (Q5 KQ)
def KR:Dj sw:=Kh (tr Nr) (tr (Nu Rx)) (tr (h_are zM GI))
def Ry:R7 (G21.mt "levels") 21:=λlt g h=>by exact Ra (!1) lt g h
def Rz:Rb bp cP cf:=tr (Go Ry oP)
def GJ:so dg:=tr (Gs uQ DN (KO (k:=22) Ob !2) gq)
def RA:Rc dh:=tr (Re (KO (k:=23) Oc !2))
def Od:Gu cf i8:=tr (P:=Gu cf) (NM RA GJ oP)
def GK:wy eu:=tr Gc
def z_poured:se dI:=tr (Dm GK)
def z_passes:yg dJ:=tr λcs hc=>by
 have hs:az 12 [aN cs,.int 25]=[!_,!_,none,none,none,none,none,none,none,none,none,none]:=rfl;let[c0,e0]:=jN (ns:=cs) (i:=25) (!2) !6;have h10:=md c0 (show(0:Int)<10 by decide);let[d,[n,h6,rfl],en]:=FM (ds:=[.int 2,.int 1,.int 3,.int 2,.int 0,.int 2,.int 3,.int 4,.int 6,.int 5]) (λd=>∃n:Nat,n<=6/\d=.int (n:Int)) h10.1 h10.2 (by
  intro d hd;simp only[mem_cons,List.not_mem_nil,or_false]at hd;rcases hd with rfl|rfl|rfl|rfl|rfl|rfl|rfl|rfl|rfl|rfl;.exact#[2,by decide,rfl]
  .exact#[1,by decide,rfl]
  .exact#[3,by decide,rfl]
  .exact#[2,by decide,rfl]
  .exact#[0,by decide,rfl]
  .exact#[2,by decide,rfl]
  .exact#[3,by decide,rfl]
  .exact#[4,by decide,rfl]
  .exact#[6,by decide,rfl]
  .exact#[5,by decide,rfl]);have H:∃a:Cat×List (List Pk),pD (az 12 [aN cs,.int 25])=!.rt (a.1,bz a.2)/\Valid a.2/\prod a.2<=54:=by
  rw[hs];refine x_set (evX_lf (d:=.int (n:Int)) (by simp[e0,eW _ 10,en]) rfl) (x_set (!9) (x_set (evX_lf rfl rfl) ?_));refine qu (λi Y=>∃ct o5 o6 o7 U t l g,∃ps:List _,ps.length=i/\(∀p∈ps,zO p=true)/\prod ps<=54/\1<=prod ps/\ct≠.sh/\newCat ct (.sh,.non)=.top/\Y=[!_,!_,!(.deep,.int (n:Int)),!(ct,bz ps),!(.deep,.int (prod ps:Nat)),o5,o6,o7,U,t,l,g]) (gQ (by simp;exact bN (by lia))) #[.deep,none,none,none,none,none,none,none,[],rfl,(λ_ h=>nomatch h),by decide,by decide,by decide,rfl,rfl] ?_ ?_
  .rintro i Y hi⟨ct,o5,o6,o7,U,t,l,g,ps,hl,I,hpr,hp1,J,hnc,rfl⟩;let[x,ex]:=jN (ns:=cs) (i:=26+(i:Int)) (by lia) (by lia);refine x_set (evX_lf (d:=.int x) (by simp[vw_o,ex]) rfl) (x_set (evX_lf (d:=.int (1+x%3)) (by simp[vw_o,eW _ 3]) rfl) ?_);obtain⟨b,hb⟩:∃b,b=decide (x/3%5=0):=#[_,rfl];refine kW (b:=b) (by simp[vw_o,bK,eW _ 5,hb]) ?_;have step:∃w:Int,1<=w/\w<=6/\(if b then ab (av 7 (aY (aa aG (cI 1) (aa aJ (aa bv (va 6) (cI 15)) (cI 6))) (fN (cI 1) (aa aJ (aa bv (va 6) (cI 15)) (cI 6))) ac)) aB else aB) [!(.sh,aN cs),!(.sh,.int 25),!(.deep,.int (n:Int)),!(ct,bz ps),!(.deep,.int (prod ps:Nat)),!(.sh,.int (i:Int)),!(.deep,.int x),!(.deep,.int (1+x%3)),U,t,l,g]=!.nx [!(.sh,aN cs),!(.sh,.int 25),!(.deep,.int (n:Int)),!(ct,bz ps),!(.deep,.int (prod ps:Nat)),!(.sh,.int (i:Int)),!(.deep,.int x),!(.deep,.int w),U,t,l,g]:=by cases b with
|true=>exact#[1+x/15%6,by lia,by lia,(ai (bj (evX_lf (by simp[vw_o,bK,eW _ 6]) rfl))).trans rfl]|false=>exact#[1+x%3,by lia,by lia,rfl]
   let[w,w1,w6,ew]:=step;refine#[_,by cases b<;>exact ew,?_];obtain⟨z,hz,z1,z6,zp⟩:∃z:Nat,(if(if(54:Int)/(prod ps:Nat)<w then(54:Int)/(prod ps:Nat)else w)>1 then if(54:Int)/(prod ps:Nat)<w then(54:Int)/(prod ps:Nat)else w else 1)=(z:Int)/\1<=z/\z<=6/\prod ps*z<=54:=by
    have hq:(54:Int)/((prod ps:Nat):Int)=((54/prod ps:Nat):Int):=(Int.natCast_ediv 54 _).symm;have hm:prod ps*(54/prod ps)<=54:=Nat.mul_div_le 54 _;rw[hq];generalize 54/prod ps=q at hm;let[T,rfl]:=Int.eq_ofNat_of_zero_le (show 0<=w by lia);by_cases h1:q<T
    .rw[if_pos (show(q:Int)<(T:Int)by lia)];by_cases h2:q>1;.rw[if_pos (by lia)];exact#[q,rfl,by lia,by lia,hm]
     .rw[if_neg (by lia)];exact#[1,rfl,by lia,by lia,by lia]
    .rw[if_neg (show¬(q:Int)<(T:Int)by lia)];have hm':prod ps*T<=54:=Uy (Nat.mul_le_mul_left _ (by lia)) hm;by_cases h2:T>1;.rw[if_pos (by lia)];exact#[T,rfl,by lia,by lia,hm']
     .rw[if_neg (by lia)];exact#[1,rfl,by lia,by lia,by lia]
   have hP:prod ps<1000000:=by lia
   refine x_set (evX_lf (d:=.int (z:Int)) ?_ rfl) (x_set (evX_lf (d:=.int ((prod ps*z:Nat):Int)) ?_ rfl) (x_set (!9) ?_));.simp[vw_o,bK (show(0:Int)<((prod ps:Nat):Int)by lia) (by lia)];exact congrArg (λx=>!_) hz
   .simp only[set_cons_succ,set_cons_zero,vw_o,vw_nil,map_some,bin2_a,va_a,shAt_s,shAt_0,Option.bind_some,xM hP]
   refine qu (λj Y=>∃t l g,∃p:List Pk,p.length=j/\(∀k∈p,Hx k=true)/\Y=[!_,!_,!(.deep,.int (n:Int)),!_,!(.deep,.int ((prod ps*z:Nat):Int)),!(.sh,.int (i:Int)),!_,!(.deep,.int (z:Int)),!(.deep,.lst (p.map fz)),t,l,g]) (gQ (by simp[xO];exact bN (by lia))) #[t,l,g,[],rfl,(λ_ h=>nomatch h),rfl] ?_ ?_
   .rintro j Y hj⟨t,l,g,p,o,C,rfl⟩;let[q1,f1]:=ye (n:=x) (i:=90) (j:=(j:Int)) (!2) (!2) (by lia) (by lia);let[q2,f2]:=ye (n:=x) (i:=5760) (j:=(j:Int)) (!2) (!2) (by lia) (by lia);let[y1,g1,f1]:=UK f1;let[y2,g2,f2]:=UK f2;have k2:=md q1 (show(0:Int)<2 by decide);have k4:=md q2 (show(0:Int)<4 by decide);have d7:=bK (i:=x) (j:=7+(j:Int)) (by lia) (by lia);have w10:=md (x/(7+(j:Int))) (show(0:Int)<10 by decide);have w4:=md (x/(7+(j:Int))) (show(0:Int)<4 by decide);let[d,[q,rfl],e2]:=FM (ds:=[.str "queue",.str "pile"]) (λd=>∃q,d=.str (kd q)) k2.1 k2.2 (by
     intro d hd;simp only[mem_cons,List.not_mem_nil,or_false]at hd;rcases hd with rfl|rfl;.exact#[true,rfl]
     .exact#[false,rfl]);let[d,[wd,a0,a9,rfl],e3]:=FM (ds:=[.int 9,.int 9,.int (x/(7+(j:Int))%10),.int (x/(7+(j:Int))%4)]) (λd=>∃w:Int,0<=w/\w<=9/\d=.int w) k4.1 k4.2 (by
     intro d hd;simp only[mem_cons,List.not_mem_nil,or_false]at hd;rcases hd with rfl|rfl|rfl|rfl;.exact#[9,by decide,by decide,rfl]
     .exact#[9,by decide,by decide,rfl]
     .exact#[_,w10.1,by lia,rfl]
     .exact#[_,w4.1,by lia,rfl]);refine x_set (evX_lf (d:=.str (kd q)) ?_ rfl) (x_set (evX_lfs (d:=.lst [.int 9,.int 9,.int (x/(7+(j:Int))%10),.int (x/(7+(j:Int))%4)]) (ds:=[.int 9,.int 9,.int (x/(7+(j:Int))%10),.int (x/(7+(j:Int))%4)]) ?_ rfl ?_ rfl) (C4 (bP (d:=fz (q,wd)) rfl (evX_lf ?_ (Nh _)) rfl ?_) #[!(.sh,.int (j:Int)),!(.deep,.str (kd q)),!(.deep,.lst [.int 9,.int 9,.int (x/(7+(j:Int))%10),.int (x/(7+(j:Int))%4)]),p++[(q,wd)],by simp[o],λk hk=>?_,?_]));.simp[vw_o,g1,f1,eW _ 2,e2]
    .simp[vw_o,d7,eW _ 10,eW _ 4]
    .simp[vw_o,d7,eW _ 10,eW _ 4]
    .simp[vw_o,g2,f2,eW _ 4,e3,fz]
    .rw[length_map,o];exact Ux (show j+1<=6 by lia) !2 
    .rcases mem_append.mp hk with hk|hk;.exact C k hk
     .rw[mem_singleton.mp hk];simp[Hx,a0,a9]
    .simp only[List.map_append];rfl
   .rintro Y⟨t,l,g,p,o,C,rfl⟩;have hb:(ps.map λp=>D.lst (p.map fz)).length+1<big:=by rw[length_map,hl];exact Ux (show i+1<=6 by lia) !2 
    refine C4 (Gp (ds0:=ps.map λp=>.lst (p.map fz)) (c0:=ct) (FV (evX_fz rfl rfl rfl rfl rfl rfl) rfl) ?_ rfl ?_ hnc hb) #[.top,!(.sh,.int (i:Int)),!(.deep,.int x),!(.deep,.int (z:Int)),!(.sh,.lst (p.map fz)),t,l,g,ps++[p],by simp[hl],λr hr=>?_,?_,?_,by decide,rfl,?_];.cases ct<;>first|exact absurd rfl J|rfl
    .cases ct<;>first|exact absurd rfl J|rfl
    .rcases mem_append.mp hr with hr|hr;.exact I r hr
     .rw[mem_singleton.mp hr];exact JZ (by lia) (by lia) C
    .rw[bQ,o];exact zp
    .rw[bQ,o];exact Nat.mul_pos hp1 z1
    .rw[bQ,o];simp only[bz,List.map_append];rfl
  .rintro Y⟨ct,o5,o6,o7,U,t,l,g,ps,hl,I,hpr,hp1,J,hnc,rfl⟩;exact#[(ct,ps),rfl,#[by show ps.length<=6;lia,I,by show prod ps<=1000;lia],hpr]
 let[[ct,ps],e,hv,h54]:=H;exact#[ct,ps,hv,h54,ar rfl e]
def Oe:Ku dq:=tr NQ
def z_grp:Kt dL:=tr NP
def KS:Kv dM:=tr Kw
def GL:Ky eB:=tr NS
def Of:KC cu:=tr NU
def z_opn:DH aW:=tr (NV GL Of)
def HQ:wJ cR:=tr NW
def Og:Gx aW eE:=tr (P:=Gx aW) (NY HQ)
def Oh:KE dt:=tr N1
def Oi:Gy aW fG:=tr (P:=Gy aW) (N2 HQ Oh)
def yp:sr bh:=tr Gw
def RB:Rm bS:=tr (Rn yp)
def GM:su aW dv:=tr (P:=su aW) (GA Oi RB yp Og)
def fH{K}{st}(f:Addr)(z:Str)(n c:Nat)(a:(nsIn K mainGlobals x,K.lookup f,PySem.W.codeIn K (.ref c) x,PySem.W.keepIn K (.ref f))=(!!.ref f,!#[.type "function",none,.func (PySem.W.fnOf x x (b7 st) (aL st) (ao st) .none .none .none (.str z n) none (.ref c) .none),#[ ]],true,true):=by kernel_rfl):bf K x st:=by simp only[Prod.mk.injEq]at a;exact QY a.1 a.2.1 a.2.2.1 a.2.2.2
def tx(P:Params):Tx (KK P):=#[fH 114 ng 310 113,fH 128 ng 310 127,fH 133 ng 310 132,fH 145 ng 310 144,fH 138 ng 310 137,fH 121 ng 310 120,fH 185 ng 310 184,fH 213 KY 449 212,fH 218 KY 449 217,fH 192 ng 310 191,fH 199 ng 310 198,fH 206 ng 310 205,fH 225 KY 449 224,fH 230 DS 475 229,fH 237 DS 475 236,fH 242 DS 475 241,fH 249 DS 475 248,fH 254 DS 475 253,fH 261 KW 518 260,fH 266 KW 518 265,fH 273 KW 518 272,fH 279 uU 546 278,fH 286 uU 546 285,fH 291 uU 546 290,(λP=>#[298,297,.type "function",none,none,#[ ],.none,.none,.str "pocketmill.wishes" 546,.none,by kernel_rfl,by kernel_rfl,by kernel_rfl,by kernel_rfl,by kernel_rfl]) P,fH 303 uU 546 302,fH 310 uU 546 309,fH 317 uU 546 316,fH 390 i9 686 389,fH 397 i9 686 396,fH 404 i9 686 403,fH 411 i9 686 410,fH 418 i9 686 417,fH 423 i9 686 422,fH 383 i9 686 382,fH 430 i9 686 429,fH 437 i9 686 436,fH 444 i9 686 443,fH 451 i9 686 450,fH 458 i9 686 457,fH 472 i9 686 471,fH 465 i9 686 464,fH 477 i9 686 476,fH 482 i9 686 481,fH 487 i9 686 486,(λP=>#[4,#[.type "module",some 0,.plain,#[ ]],by kernel_rfl,by decide,by decide,by decide,by kernel_rfl,rfl,rfl,rfl]) P,(λP=>CO (Ca:=174) (f:=157) (oc:=.type "function") (od:=none) (an:=none) (osl:=#[ ]) (kV:=.none) (doc:=.none) (pm:=.str "pocketmill.mills" 310) (cdv:=.ref 156) (ct:=.none) (!1) (!1) (!1) (!1) (!1) !1) P,(λP=>CO (Ca:=174) (f:=171) (oc:=.type "function") (od:=none) (an:=none) (osl:=#[ ]) (kV:=.none) (doc:=.none) (pm:=.str "pocketmill.mills" 310) (cdv:=.ref 170) (ct:=.none) (!1) (!1) (!1) (!1) (!1) !1) P,(λP=>CO (Ca:=174) (f:=164) (oc:=.type "function") (od:=none) (an:=none) (osl:=#[ ]) (kV:=.none) (doc:=.none) (pm:=.str "pocketmill.mills" 310) (cdv:=.ref 163) (ct:=.none) (!1) (!1) (!1) (!1) (!1) !1) P,(λP=>CO (Ca:=372) (f:=334) (oc:=.type "function") (od:=none) (an:=none) (osl:=#[ ]) (kV:=.none) (doc:=.none) (pm:=.str "pocketmill.wishes" 546) (cdv:=.ref 333) (ct:=.none) (!1) (!1) (!1) (!1) (!1) !1) P,(λP=>CO (Ca:=372) (f:=329) (oc:=.type "function") (od:=none) (an:=none) (osl:=#[ ]) (kV:=.none) (doc:=.none) (pm:=.str "pocketmill.wishes" 546) (cdv:=.ref 328) (ct:=.none) (!1) (!1) (!1) (!1) (!1) !1) P,Nk (Ca:=174) (!1) (!1) (!1) (!1) (!1) (!1) !1,Nk (Ca:=372) (!1) (!1) (!1) (!1) (!1) (!1) !1,OP (Ca:=174) (!1) !1,OP (Ca:=372) (!1) !1,OP (Ca:=372) (!1) !1,OP (Ca:=372) (!1) !1,Nl (a:=107) (od:=none) (n:=0) (sl:=#[ ]) (t0:=312) (t1:=313) (!1) !1,zB (t:=315) !1,zB (t:=317) !1,zB (t:=319) !1,zB (t:=321) !1,zB (t:=323) !1,zB (t:=451) !1,(λP=>#[274,none,0,#[ ],548,549,550,by kernel_rfl,by kernel_rfl]) P,!1,!1,!1,!1,!1,!1,!1,!1,!1,!1,!1,!1,!1,!1]
section
variable{P:Program}{w:World}{K:Frag}{mg:Str->Ua}{base h:Heap}
def gF{st}(z:K.In h/\h.Ns mainGlobals mg/\Tx K)(g:GbOk P w K mg base G)(k:Nat)(t:bf K x st)(S:FnScope N ps (ao st):=by exact HP)(b:eV x st ps:=by first|exact N9 rfl λ_ _ _ _ _ _ _ _=>rfl|exact Rq rfl λ_ _ _ _ _ _ _ _ _=>rfl|exact Sb rfl λ_ _ _ _ _ _ _ _ _ _=>rfl|exact TF rfl λ_ _ _ _ _ _ _ _ _ _ _=>rfl):GbOk P w K mg base (addF G x (k+1) (Hq 60 k N ps st G)):=g.addF (M5 g z.1 z.2.1 60 k S b t)
variable(z:K.In h/\h.Ns mainGlobals mg/\Tx K)
include z
def g0:GbOk P w K mg base G0 where
 fn:=λx k f e=>nomatch e;cn:=λx d e=>by
  simp only[G0]at e;split at e;.rename_i q;cases e;rw[q];exact cn_2str z.1 z.2.1 z.2.2.v56
  split at e;.rename_i q;cases e;rw[q];exact cn_int z.1 z.2.1 z.2.2.v57
  split at e;.rename_i q;cases e;rw[q];exact cn_int z.1 z.2.1 z.2.2.v58
  split at e;.rename_i q;cases e;rw[q];exact cn_int z.1 z.2.1 z.2.2.v59
  split at e;.rename_i q;cases e;rw[q];exact cn_int z.1 z.2.1 z.2.2.v60
  split at e;.rename_i q;cases e;rw[q];exact cn_int z.1 z.2.1 z.2.2.v61
  split at e;.rename_i q;cases e;rw[q];exact cn_int z.1 z.2.1 z.2.2.v62
  split at e;.rename_i q;cases e;rw[q];exact cn_3str z.1 z.2.1 z.2.2.v63
  cases e
 no:=λx e=>by
  dsimp only[G0]at e;by_cases q:x=("all":Str);.rw[q];exact PySem.W.mg_none_of z.1 z.2.1 z.2.2.v64
  rw[if_neg q]at e;clear q;by_cases q:x=("bool":Str);.rw[q];exact PySem.W.mg_none_of z.1 z.2.1 z.2.2.v65
  rw[if_neg q]at e;clear q;by_cases q:x=("enumerate":Str);.rw[q];exact PySem.W.mg_none_of z.1 z.2.1 z.2.2.v66
  rw[if_neg q]at e;clear q;by_cases q:x=("int":Str);.rw[q];exact PySem.W.mg_none_of z.1 z.2.1 z.2.2.v67
  rw[if_neg q]at e;clear q;by_cases q:x=("isinstance":Str);.rw[q];exact PySem.W.mg_none_of z.1 z.2.1 z.2.2.v68
  rw[if_neg q]at e;clear q;by_cases q:x=("len":Str);.rw[q];exact PySem.W.mg_none_of z.1 z.2.1 z.2.2.v69
  rw[if_neg q]at e;clear q;by_cases q:x=("list":Str);.rw[q];exact PySem.W.mg_none_of z.1 z.2.1 z.2.2.v70
  rw[if_neg q]at e;clear q;by_cases q:x=("max":Str);.rw[q];exact PySem.W.mg_none_of z.1 z.2.1 z.2.2.v71
  rw[if_neg q]at e;clear q;by_cases q:x=("min":Str);.rw[q];exact PySem.W.mg_none_of z.1 z.2.1 z.2.2.v72
  rw[if_neg q]at e;clear q;by_cases q:x=("range":Str);.rw[q];exact PySem.W.mg_none_of z.1 z.2.1 z.2.2.v73
  rw[if_neg q]at e;clear q;by_cases q:x=("reversed":Str);.rw[q];exact PySem.W.mg_none_of z.1 z.2.1 z.2.2.v74
  rw[if_neg q]at e;clear q;by_cases q:x=("sorted":Str);.rw[q];exact PySem.W.mg_none_of z.1 z.2.1 z.2.2.v75
  rw[if_neg q]at e;clear q;by_cases q:x=("tuple":Str);.rw[q];exact PySem.W.mg_none_of z.1 z.2.1 z.2.2.v76
  rw[if_neg q]at e;clear q;by_cases q:x=("zip":Str);.rw[q];exact PySem.W.mg_none_of z.1 z.2.1 z.2.2.v77
  rw[if_neg q]at e;clear q;cases e
 fl:=λC m Ca e j=>by
  simp only[G0]at e;split at e;.rename_i q;rw[q.1]at j;exact#[mW z.2.2.v50 j,fl_one z.2.2.v52 q.2 Ca j]
  split at e;.rename_i q;rw[q.1]at j;exact#[mW z.2.2.v51 j,fl_one z.2.2.v53 q.2 Ca j]
  split at e;.rename_i q;rw[q.1]at j;exact#[mW z.2.2.v51 j,fl_one z.2.2.v54 q.2 Ca j]
  split at e;.rename_i q;rw[q.1]at j;exact#[mW z.2.2.v51 j,fl_one z.2.2.v55 q.2 Ca j]
  cases e
 mt:=λm C k f e=>nomatch e;ini:=λC k g e=>nomatch e
def g5:GbOk P w K mg base G5:=gF z (gF z (gF z (gF z (gF z (g0 z) 0 z.2.2.v0) 1 z.2.2.v1) 2 z.2.2.v2) 3 z.2.2.v3) 4 z.2.2.v4
def g6:GbOk P w K mg base G6:=by have g:GbOk P w K mg base G5:=g5 z;exact g.addI (Hr g z.1 z.2.1 60 5 (G0.fl "Mill") j9 (Rq rfl λ_ _ _ _ _ _ _ _ _=>rfl) z.2.2.v50 z.2.2.v45 (λf e=>by
  simp only[G0]at e;split at e;.rename_i q;exact fl_one z.2.2.v52 q.2
  cases e) λds r j y=>by rw[show(λy=>DX 60 (rK dc aS 5 G5) y (G0.fl "Mill") (aL aS))=oq cc from funext lA];exact wj ds r j y)
def g7:GbOk P w K mg base G7:=gF z (g6 z) 6 z.2.2.v5
def g8:GbOk P w K mg base G8:=by have g:GbOk P w K mg base G7:=g7 z;exact g.addM (Cp g 60 7 HP (N9 rfl λ_ _ _ _ _ _ _ _=>rfl) z.2.2.v50 z.2.2.v46)
def TJ:GbOk P w K mg base OS:=gF z (gF z (gF z (g8 z) 8 z.2.2.v6) 9 z.2.2.v7) 10 z.2.2.v8
def TK:GbOk P w K mg base Rr:=by have g:GbOk P w K mg base OS:=TJ z;exact g.addM (Cp g 60 11 HP (N9 rfl λ_ _ _ _ _ _ _ _=>rfl) z.2.2.v50 z.2.2.v47)
def TL:GbOk P w K mg base OT:=gF z (gF z (gF z (gF z (gF z (gF z (gF z (gF z (TK z) 12 z.2.2.v9) 13 z.2.2.v10) 14 z.2.2.v11) 15 z.2.2.v12) 16 z.2.2.v13) 17 z.2.2.v14) 18 z.2.2.v15) 19 z.2.2.v16
def TM:GbOk P w K mg base G21:=by have g:GbOk P w K mg base OT:=TL z;exact g.addM (Cp g 60 20 HP (N9 rfl λ_ _ _ _ _ _ _ _=>rfl) z.2.2.v51 z.2.2.v48)
def TN:GbOk P w K mg base Rs:=gF z (gF z (gF z (gF z (gF z (gF z (gF z (TM z) 21 z.2.2.v17) 22 z.2.2.v18) 23 z.2.2.v19) 24 z.2.2.v20) 25 z.2.2.v21) 26 z.2.2.v22) 27 z.2.2.v23
def TQ:GbOk P w K mg base Rt:=by have g:GbOk P w K mg base Rs:=TN z;exact g.addF (FU g z.1 z.2.1 28 167 HP (Rq rfl λ_ _ _ _ _ _ _ _ _=>rfl) z.2.2.v24 z.2.2.bl (!1) rfl (!2) (!1) (!1) (!1) !1)
def TR:GbOk P w K mg base Oa:=gF z (gF z (gF z (TQ z) 29 z.2.2.v25) 30 z.2.2.v26) 31 z.2.2.v27
def TU:GbOk P w K mg base Ru:=by have g:GbOk P w K mg base Oa:=TR z;exact g.addI (Hr g z.1 z.2.1 60 32 (G0.fl "Wish") ka (Sb rfl λ_ _ _ _ _ _ _ _ _ _=>rfl) z.2.2.v51 z.2.2.v49 (λf e=>by
  simp only[G0]at e;split at e;.rename_i q;exact absurd q.1 !2 
  split at e;.rename_i q;exact fl_one z.2.2.v53 q.2
  split at e;.rename_i q;exact fl_one z.2.2.v54 q.2
  split at e;.rename_i q;exact fl_one z.2.2.v55 q.2
  cases e) λds r j y=>by rw[show(λy=>DX 60 (rK dm aT 32 Oa) y (G0.fl "Wish") (aL aT))=lT cq cQ ck from funext lC];exact Kg j y)
def TV:GbOk P w K mg base TH:=gF z (gF z (gF z (gF z (gF z (gF z (gF z (gF z (gF z (gF z (gF z (gF z (gF z (gF z (gF z (gF z (TU z) 33 z.2.2.v28) 34 z.2.2.v29) 35 z.2.2.v30) 36 z.2.2.v31) 37 z.2.2.v32) 38 z.2.2.v33) 39 z.2.2.v34) 40 z.2.2.v35) 41 z.2.2.v36) 42 z.2.2.v37) 43 z.2.2.v38) 44 z.2.2.v39) 45 z.2.2.v40) 46 z.2.2.v41) 47 z.2.2.v42) 48 z.2.2.v43
end
def fin{P:Program}{w:World}{K:Frag}{mg:Str->Ua}{h:Heap}{fa:Addr}(X:K.In h)(o:h.Ns mainGlobals mg)(g:mg "law"=!.ref fa)(T:Tx K):∃fd:FuncData,(∀(s:Shared)(v:Value),BindsTo s fd #[[v],[]] [("script",v)])/\∀base:Heap,K.In base->base.Ns mainGlobals mg->FnOk P w K mg base qP 50 fa fd ["script"] (OB K):=J2 60 49 X o g DL (N9 rfl λ_ _ _ _ _ _ _ _=>rfl) T.v44 (λbase KB p=>TV #[KB,p,T]) λj l=>by exact tr (P:=λf:Fn=>bw (f [.lst (j.map D.int)])=!.bl true) (GC Od Rz GM KR DN KS z_grp Oe z_passes z_poured z_next z_cword z_opn j l)
end K16
open PySem PySem.W PyProof.Rows
set_option maxRecDepth 100000 in
set_option maxHeartbeats 0 in
theorem PySem.Challenge.cw_pocketmill_k30_whole_fewest_holds : PySem.Challenge.rw_pocketmill_k30_whole_fewest.Holds := by
  refine holds_law K16.t_said fun said=>?_
  refine holds_open (q:=K16.Q) (loose:=[]) (Xt:=K16.XT) (XP:=XL K16.Q []) (Yf:=Hook.obs (kHook K16.KT K16.adr K16.adr_ok)) (Ya:=Hook.val (kHook K16.KT K16.adr K16.adr_ok)) (YP:=Hook.says (kHook K16.KT K16.adr K16.adr_ok)) (N:=K16.NN) K16.t_left (Hook.of _) (Hook.keeps _) (fun s e=>xl_of s (Bool.and_eq_true_iff.mp e).1) XL.keeps (by rfl) (by rfl) (by rfl) (fun s e=>recFacts_of (Bool.and_eq_true_iff.mp e).2) (by rfl) (by first | assumption | decide +kernel) (by decide +kernel) ⟨rfl,rfl,rfl,rfl,rfl,by decide +kernel⟩ ?hw ?hc
  case hw=>w_witness2
  case hc =>
  refine L2.walkL (l:=PySem.Challenge.rw_pocketmill_k30_whole_fewest) (k:=50) rfl rfl ⟨rfl,by decide,by decide⟩ (K:=K16.KK) (fun w h ρ=>(L2.cons_in (!1) (PySem.W.kIn_of ρ)).1) (fun w h ρ=>L2.tabs_of (c0:=297) rfl (!1) (L2.cons_in (!1) (PySem.W.kIn_of ρ)).1 (L2.cons_in (!1) (PySem.W.kIn_of ρ)).2 (!1)) ?F
  case F =>
  intro w mg fa h KX G hmg
  exact K16.fin KX G hmg (K16.tx w.params)
#print axioms PySem.Challenge.cw_pocketmill_k30_whole_fewest_holds
