import PyProof.Rows.All
import Wide.All
import OpenK.AllK
import Wide.FinOn
import Lean
import PyProof.EqAt
import PyProof.EqKinds
import PyProof.TupleCall
import PySem.Challenge.RW_pocketmill_k47_plans_refused
set_option compiler.extract_closed false
set_option genSizeOf false
set_option bootstrap.genMatcherCode false
set_option Elab.async false
set_option linter.all false
set_option maxRecDepth 100000
set_option maxHeartbeats 4000000
open Lean Parser.Tactic in
local macro_rules|`(tactic|let⟨$a,*⟩:=$e)=>do
 let p<-(<-`(⟨$a,*⟩)).raw.rewriteBottomUpM fun s=>do match s with
  |`(⟨$a,*⟩)=>let b<-a.getElems.mapM fun x=>`(rcasesPatLo|$(⟨x⟩):rcasesPat);`(rcasesPat|⟨$b,*⟩)
  |`(_)=>`(rcasesPat|_)
  |_=>if s.isIdent then `(rcasesPat|$(⟨s⟩):ident) else pure s
 `(tactic|obtain $(⟨p⟩):rcasesPat:=$e)
local macro_rules|`(!$x)=>`(some $x)
open Lean Parser.Command in
local macro_rules|`($m:declModifiers def%$t $i $s:optDeclSig $v:declVal)=>do
 unless t.getTrailingSize==1 do Macro.throwUnsupported
 return mkNode ``declaration #[m,mkNode ``«theorem» #[mkAtom "theorem",i,mkNode ``declSig #[s.raw[0],s.raw[1][0]],v]]
set_option hygiene false
local macro_rules|`(!1)=>`(by kernel_rfl)
local macro_rules|`(!2)=>`(dpF (x1 (bin2 ixD (va 4) (cI 0))))
local macro_rules|`(!3)=>`(by omega)
local macro_rules|`(!4)=>`(by decide)
local macro_rules|`(!5)=>`(model X.prog X.w)
local macro_rules|`(!6)=>`(slF (i9 fl "passes" (va 0)) (partF (va 1)) noP)
local macro_rules|`(!7)=>`(model prog w)
local macro_rules|`(!8)=>`(x==("__debug__":Str))
local macro_rules|`(!9)=>`(slF (va 4) noP (partF (ngF (cI 1))))
local macro_rules|`(!10)=>`(.type "BaseException")
local macro_rules|`(!11)=>`(!(.builtin "ValueError.__new__"))
local macro_rules|`(!12)=>`(slF (va 4) noP (partF (va 5)))
local macro_rules|`(!13)=>`(bin2 bt (cI 25) (va 3))
local macro_rules|`(!14)=>`(.ListComp elt [⟨tg,iter,ifs,0⟩] scope pos)
local macro_rules|`(!15)=>`(.type "ValueError")
local macro_rules|`(!16)=>`(fin_bl I q (by simp))
local macro_rules|`(!17)=>`(z7 ns cs ps ls r b a0 a1 a2 a3 a4)
local macro_rules|`(!18)=>`(backTo pos (starEach es X.env))
local macro_rules|`(!19)=>`(slF (va 0) noP (partF (va 2)))
local macro_rules|`(!20)=>`(by decide+kernel)
set_option hygiene true
noncomputable section
namespace HD
open PySem PySem.W PyProof.Rows
noncomputable abbrev S0(w:World)(os:OsState):Shared:=⟨boot_heap w.params,Array.mk [],boot_drawn,boot_toks,os⟩
def left_of{Ya:World->α}{F:World->OsState->Shared}(o:∀w:World,(fencedOpening treeTable p w N).map (λs=>(s.heap,s.gens,s.drawn,s.toks))=!(boot_heap w.params,Array.mk [],boot_drawn,boot_toks))(sz:∀w:World,(boot_heap w.params).isNs mainGlobals=true/\(boot_heap w.params).objs.size=m₀/\(boot_heap w.params).nsMap mainGlobals "__annotations__"=ann)(rn:∀w os,topRun treeTable p w m₀ ann M (S0 w os) (topStub p)=!(F w os))(le:M<=N)(lk:∀w os,((staticsOk (importedModules p.main.body) (boot_heap w.params) (F w os).heap&&namesBound p (F w os).heap&&gensDone (F w os)&&laidKept (boot_heap w.params) (F w os).heap),openSeen q loose (importedModules p.main.body) Xt true (F w os),Yf (F w os))=(true,openGood q loose,Ya w)):
  LeftO p q loose Xt Yf Ya N:=by
 intro w
 let⟨s,e,e'⟩:=Option.map_eq_some_iff.mp (o w)
 cases s with
 |mk h gs d k os=>
 simp only[Prod.mk.injEq]at e'
 let⟨a1,a2,a3,a4⟩:=e'
 subst a1 a2 a3 a4
 let⟨z1,z2,z3⟩:=sz w
 have l:=lk w os
 simp only[Prod.mk.injEq]at l
 let⟨l1,l2,l3⟩:=l
 have r:=topRun_mono (N-M) _ _ _ _ (rn w os)
 rw[show M+(N-M)=N from Nat.add_sub_cancel' le]at r
 have t:topFrom treeTable p w N (S0 w os)=!(F w os):=by
  unfold topFrom;rw[z2,z3];rw[r];simp only[z1];show(match(staticsOk (importedModules p.main.body) (boot_heap w.params) (F w os).heap&&namesBound p (F w os).heap&&gensDone (F w os)&&laidKept (boot_heap w.params) (F w os).heap)with|true=>_|false=>_)=_;rw[l1]
 unfold openEnds
 rw[e]
 show Option.map _ (topFrom treeTable p w N (S0 w os))=_
 rw[t]
 exact congrArg some (Prod.ext l2 l3)
noncomputable abbrev K4:=@PySem.W.Fast.tw10110043849684766642
noncomputable abbrev K5:=@PySem.W.Fast.tw14364793385576792824
noncomputable abbrev yA:=@PySem.W.Fast.tw12563942051412417395
def K6:@segRunT=@K4:=PySem.W.Fast.te10110043849684766642
def K7:@treeTable=@K5:=PySem.W.Fast.te14364793385576792824
def Cv:@execs=@yA:=PySem.W.Fast.te12563942051412417395
noncomputable def  put:List Obj->Nat->BT->BT
 |[],_,t=>t
 |o::l,i,t=>put l (i+1) (t.ins i o)
def  toT(s:Shared):SharedT:=⟨put s.heap.objs.toList 0 .nil,s.heap.objs.size,s.heap.life,s.gens,s.drawn,s.toks,s.os⟩
noncomputable def  RF(d:Shared):Option (Shared×Thread)->Shared
 |some (s,_)=>s
 |none=>d
noncomputable def  KU(d:Shared):Option (Flow×Shared×Code×Pos)->Shared
 |some (_,s,_)=>s
 |none=>d
noncomputable def  Fs(d:SharedT):Option (Flow×SharedT×Code×Pos)->SharedT
 |some (_,s,_)=>s
 |none=>d
def SS(h:o.map (·.2)=!t):o=!(RF d o,t):=by
 cases o with
 |none=>cases h
 |some z=>cases h;rfl
def SU(h:o.map (λr=>(r.1,r.2.2))=!(f,c,q)):o=!(f,KU d o,c,q):=by
 cases o with
 |none=>cases h
 |some z=>let⟨a,b,x,y⟩:=z;cases h;rfl
def SV(h:o.map (λr=>(r.1,r.2.2))=!(f,c,q)):o=!(f,Fs d o,c,q):=by
 cases o with
 |none=>cases h
 |some z=>let⟨a,b,x,y⟩:=z;cases h;rfl
section
variable(p:Program)(m₀:Nat)(ann:Option Value)(env:Env)(q pa pb:Pos)(k1 k2 k3:Nat)
noncomputable abbrev cd:Code:=.body (behindTheImports p) env
def  A(w:World)(os:OsState):Option (Shared×Thread):=topGo treeTable p w m₀ ann k1 (S0 w os) (topStub p)
def  SA(w:World)(os:OsState):Shared:=RF (S0 w os) (A p m₀ ann k1 w os)
def  B(w:World)(os:OsState):Option (Flow×Shared×Code×Pos):=segRun treeTable p w m₀ ann 1 k2 (SA p m₀ ann k1 w os) (blockOf (behindTheImports p) env (cd p env) pa [topFrame q])
def  SB(w:World)(os:OsState):Shared:=KU (S0 w os) (B p m₀ ann env q pa k1 k2 w os)
def  C(w:World)(os:OsState):Option (Flow×SharedT×Code×Pos):=K4 K5 p w m₀ ann 1 k3 (toT (SB p m₀ ann env q pa k1 k2 w os)) ⟨(yA (behindTheImports p) env).wrap doneF deadEnd id id,cd p env,pb,[topFrame q]⟩
def K8(w:World)(os:OsState):C p m₀ ann env q pa pb k1 k2 k3 w os=segRunT treeTable p w m₀ ann 1 k3 (toT (SB p m₀ ann env q pa k1 k2 w os)) (piecesOf (behindTheImports p) env (cd p env) pb [topFrame q]):=by
 unfold C piecesOf;rw[K6,K7,Cv]
def  SC(w:World)(os:OsState):SharedT:=Fs (toT (S0 w os)) (C p m₀ ann env q pa pb k1 k2 k3 w os)
end
def run_of(hA:∀w os,(A p m₀ ann k1 w os).map (·.2)=!⟨denote treeTable (cd p env),cd p env,pa,[topFrame q]⟩)(hB:∀w os,(B p m₀ ann env q pa k1 k2 w os).map (λr=>(r.1,r.2.2))=!(.next,cd p env,pb))(hT:∀w os,(toT (SB p m₀ ann env q pa k1 k2 w os)).abs=SB p m₀ ann env q pa k1 k2 w os)(hC:∀w os,(C p m₀ ann env q pa pb k1 k2 k3 w os).map (λr=>(r.1,r.2.2))=!(.next,cd p env,pc))(hF:∀w s,topRun treeTable p w m₀ ann k4 s ⟨doneF .next,cd p env,pc,[topFrame q]⟩=!s)(w:World)(os:OsState):
  topRun treeTable p w m₀ ann (k1+(k2+(k3+k4))) (S0 w os) (topStub p)=some (SC p m₀ ann env q pa pb k1 k2 k3 w os).abs:=by
 have a:=SS (d:=S0 w os) (hA w os)
 have b:=SU (d:=S0 w os) (hB w os)
 have c:=SV (d:=toT (S0 w os)) (hC w os)
 rw[K8]at c
 have c:=segRun_of c
 rw[hT]at c
 rw[<-K8]at c
 refine go_top a (piece_block b ?_)
 have k:=piece_app c (piece_nil (hF w _))
 rw[List.append_nil]at k
 exact k
end HD
open List (length_map set_cons_succ set_cons_zero size_toArray getElem?_map getElem?_eq_getElem mem_cons_self mem_cons_of_mem mem_append_right length_append mem_of_getElem? length_range getElem?_append_left mem_singleton length_cons mem_append getElem?_append_right mem_cons mem_append_left)
open Option (map_some)
open PySem.W (nsIn findIn Frag)
open Bool (and_eq_true)
open Nat (lt_of_lt_of_le le_refl lt_of_le_of_lt)
namespace L2
open PySem PySem.Spec PyProof.Rows
abbrev _root_.Uc:=Option Int
abbrev _root_.Ua:=List Expr
abbrev _root_.T7:=Array Value
abbrev _root_.T6:=Addr->Bool
abbrev _root_.T5:=List Int
abbrev _root_.T3:=List Str
abbrev _root_.T1:=List Nat
abbrev _root_.TZ:=Option Value
abbrev _root_.TY:=List Value
abbrev _root_.TX:=Value->Shared->Prop
abbrev _root_.TU:=List (Addr×Obj)
abbrev _root_.UC:=@wpAny_mono
abbrev _root_.UB:=@le_refl
abbrev _root_.UA:=@mem_of_getElem?
abbrev _root_.Uz:=@List.mem_range
abbrev _root_.Uy:=@Nat.le_of_lt
abbrev _root_.Ux:=@Nat.lt_irrefl
abbrev _root_.Uw:=@mem_append_right
abbrev _root_.Uv:=@mem_append_left
abbrev _root_.Uu:=@wpAny_of_eq
abbrev _root_.Ut:=@List.mem_map
abbrev _root_.Us:=@Nat.ne_of_lt
abbrev _root_.Ur:=@Nat.le_trans
abbrev _root_.Uq:=@lt_of_le_of_lt
abbrev _root_.Up:=@lt_of_lt_of_le
abbrev _root_.Uo:=@of_decide_eq_true
abbrev _root_.Um:=@mem_cons_of_mem
abbrev _root_.Ul:=@mem_cons_self
abbrev _root_.Uk:=@List.getElem?_eq_some_iff
abbrev _root_.Uj:=@Bool.false_ne_true
abbrev _root_.Ui:=@Heap.get?_push_size
abbrev _root_.Uh:=@Heap.lt_size
abbrev _root_.Ug:=@wpAny_pure
abbrev _root_.Ue:=@Heap.get?_push_of_some
abbrev _root_.Ud:=@wpAny_bind
noncomputable def  pU(s:Stmt)(j:Nat):Stmt:=match s with
 |.ClassDef _ _ _ body _ _ _ _ _ _ _=>body.getD j (.Pass ⟨0,0,0,0⟩)
 |_=>.Pass ⟨0,0,0,0⟩
noncomputable def  cm(s:Stmt):Arguments:=match s with
 |.FunctionDef _ a _ _ _ _ _ _ _ _=>a
 |_=>{posonlyargs:=[],args:=[],vararg:=none,kwonlyargs:=[],kw_defaults:=[],kwarg:=none,defaults:=[]}
noncomputable def  aU(s:Stmt):List Stmt:=match s with
 |.FunctionDef _ _ b _ _ _ _ _ _ _=>b
 |_=>[]
noncomputable def  aj(s:Stmt):Scope:=match s with
 |.FunctionDef _ _ _ _ _ _ sc _ _ _=>sc
 |_=>{kind:=.function,names:=[],isGenerator:=false,isCoroutine:=false}
end L2
namespace K42
open PySem PySem.Spec PyProof.Rows L2
noncomputable def  top(i:Nat):Stmt:=PySem.Challenge.pw_pocketmill_k47_plans_refused.main.body.getD i (.Pass ⟨0,0,0,0⟩)
abbrev jk:Stmt:=top 21
abbrev jm:Stmt:=top 23
abbrev lA:Stmt:=top 24
abbrev j4:Stmt:=top 26
abbrev gU:Stmt:=top 25
abbrev aK:Stmt:=pU (top 27) 0
abbrev fU:Stmt:=top 59
abbrev jn:Stmt:=top 60
abbrev gV:Stmt:=top 61
abbrev fV:Stmt:=top 62
abbrev gJ:Stmt:=top 63
abbrev jo:Stmt:=top 64
abbrev gK:Stmt:=top 65
abbrev jp:Stmt:=top 66
abbrev gL:Stmt:=top 67
abbrev jq:Stmt:=top 68
abbrev mC:Stmt:=top 44
abbrev lB:Stmt:=top 45
abbrev mD:Stmt:=top 48
abbrev gW:Stmt:=top 50
abbrev lC:Stmt:=top 22
abbrev bX:Stmt:=pU (top 27) 2
abbrev lD:Stmt:=top 28
abbrev jr:Stmt:=top 40
abbrev d9:Stmt:=top 41
abbrev lE:Stmt:=top 29
abbrev fW:Stmt:=top 30
abbrev fX:Stmt:=top 31
abbrev gX:Stmt:=top 32
abbrev rz:Stmt:=top 37
abbrev gN:Stmt:=top 42
abbrev cq:Stmt:=top 43
abbrev bM:Stmt:=top 47
abbrev b8:Stmt:=top 51
abbrev eu:Stmt:=top 53
abbrev rA:Stmt:=top 33
abbrev js:Stmt:=top 34
abbrev rB:Stmt:=top 36
abbrev fC:Stmt:=top 54
abbrev bN:Stmt:=top 52
abbrev fE:Stmt:=top 55
abbrev bD:Stmt:=pU (top 27) 1
abbrev jt:Stmt:=top 35
abbrev fF:Stmt:=top 56
abbrev cQ:Stmt:=top 57
abbrev cE:Stmt:=top 69
abbrev j5:Stmt:=top 70
abbrev j6:Stmt:=top 71
def  Q:Program:={PySem.Challenge.pw_pocketmill_k47_plans_refused with main:={PySem.Challenge.pw_pocketmill_k47_plans_refused.main with body:=[top 1,top 2,top 3,top 4,top 5,top 6,top 7,top 8,top 9,top 10,top 11,top 12,top 13,top 15,top 16,top 17,top 18,top 19,top 20,top 21,top 22,top 23,top 24,top 25,top 26,top 27,top 28,top 29,top 30,top 31,top 32,top 33,top 34,top 35,top 36,top 37,top 39,top 40,top 41,top 42,top 43,top 44,top 45,top 47,top 48,top 50,top 51,top 52,top 53,top 54,top 55,top 56,top 57,top 59,top 60,top 61,top 62,top 63,top 64,top 65,top 66,top 67,top 68,top 69,top 70,top 71]}}
noncomputable abbrev kH(P:Params)(x:Str)(n:Nat)(v:Value):DictEntry:=⟨PyData.keyHash P x,(.str x n),v⟩
noncomputable abbrev kC(x:Str)(a:Nat)(y:Str)(b c:Nat)(i j k l m:Int)(r:Nat)(n:Int)(p:Nat)(v q s t:Value)(u w:Int)(d:Nat):Obj:=⟨(.type "code"),none,(.fields #[(.str x a),(.str y b),(.str "/claim/cut.py" c),(.int i 0),(.int j 0),(.int k 0),(.int l 0),(.int m 0),(.ref r),(.bool true),(.int n 0),(.ref p),v,q,s,t,(.int u 0),(.int w 0),(.str "/claim/cut.py" d)]),#[]⟩
abbrev kF(x y:Str)(st:Stmt)(z:Str)(n r:Nat):Obj:=⟨(.type "function"),none,(.func (PySem.W.fnOf x y (cm st) (aU st) (aj st) .none .none .none (.str z n) none (.ref r) .none)),#[]⟩
noncomputable abbrev lF:Str:="law_pocketmill_k47_plans_refused"
noncomputable abbrev Of:Str:="pocketmill.counting"
noncomputable abbrev tK:Str:="pocketmill.joins"
noncomputable abbrev gY:Str:="pocketmill.mills"
noncomputable abbrev yu:Str:="pocketmill.trays"
abbrev kD(x:Str)(a:Nat)(i j:Int)(r:Nat)(e:Int):Obj:=kC x a x (a+1) (a+2) i j 0 0 3 r 181 (r+1) .none (.ref (r+2)) (.ref (r+3)) (.ref (r+4)) e i (e+1).toNat
abbrev kE(x:Str)(a:Nat)(i j:Int)(r:Nat)(e:Int):Obj:=kC x a x (a+1) (a+2) i j 0 0 3 r 181 (r+1) .none .none .none (.ref (r+2)) e i (e+1).toNat
abbrev kG(x:Str)(st:Stmt)(z:Str)(n r:Nat):Obj:=kF x x st z n r
def  KK(P:Params):Frag:=[(2,⟨.none,none,(.dict #[] 0),#[]⟩),(3,⟨(.type "dict"),none,(.dict #[(kH P "__name__" 165 (.str "law_pocketmill_k47_plans_refused" 716)),(kH P "__doc__" 166 .none),(kH P "__package__" 167 .none),(kH P "__loader__" 168 (.builtin "__main__.__loader__#opaque")),(kH P "__spec__" 169 .none),(kH P "__annotations__" 170 (.ref 6)),(kH P "__builtins__" 171 (.ref 4)),(kH P "__file__" 173 (.str "/claim/cut.py" 172)),(kH P "__cached__" 174 .none),(kH P "MillError" 206 (.ref 24)),(kH P "BadMill" 222 (.ref 37)),(kH P "BadLate" 238 (.ref 49)),(kH P "BadWord" 254 (.ref 61)),(kH P "BadCode" 270 (.ref 73)),(kH P "BadSize" 286 (.ref 85)),(kH P "BadLetters" 302 (.ref 97)),(kH P "BadPlan" 318 (.ref 109)),(kH P "BadCount" 334 (.ref 121)),(kH P "BadRow" 350 (.ref 133)),(kH P "BadPrices" 366 (.ref 145)),(kH P "NoRow" 382 (.ref 157)),(kH P "Shut" 398 (.ref 169)),(kH P "KINDS" 403 (.ref 172)),(kH P "MOST_PASSES" 405 (.int 6 404)),(kH P "MOST_POCKETS" 407 (.int 6 406)),(kH P "MOST_WIDTH" 409 (.int 9 408)),(kH P "MOST_CODES" 411 (.int 1000 410)),(kH P "MOST_SIZE" 413 (.int 9 412)),(kH P "is_within" 422 (.ref 179)),(kH P "is_size" 429 (.ref 186)),(kH P "is_pocket" 436 (.ref 193)),(kH P "is_pass" 442 (.ref 198)),(kH P "are_passes" 448 (.ref 203)),(kH P "codes_of" 457 (.ref 210)),(kH P "Mill" 498 (.ref 239)),(kH P "is_late" 506 (.ref 250)),(kH P "is_word" 512 (.ref 255)),(kH P "look_at_late" 520 (.ref 262)),(kH P "look_at_word" 529 (.ref 269)),(kH P "pockets_of" 535 (.ref 274)),(kH P "laid" 544 (.ref 281)),(kH P "word_code" 557 (.ref 288)),(kH P "code_word" 571 (.ref 295)),(kH P "face" 577 (.ref 300)),(kH P "fits" 583 (.ref 305)),(kH P "MOST_LETTERS" 587 (.int 24 586)),(kH P "is_letter" 595 (.ref 312)),(kH P "look_at_letters" 601 (.ref 317)),(kH P "is_word_for" 610 (.ref 324)),(kH P "look_at_plan" 616 (.ref 329)),(kH P "filled" 622 (.ref 334)),(kH P "emptied" 633 (.ref 341)),(kH P "look_at_widths" 641 (.ref 346)),(kH P "is_row" 647 (.ref 351)),(kH P "letters_of" 655 (.ref 356)),(kH P "look_at_words" 663 (.ref 363)),(kH P "look_at_counts" 671 (.ref 370)),(kH P "end_from" 683 (.ref 377)),(kH P "classes" 689 (.ref 382)),(kH P "parting" 701 (.ref 389)),(kH P "turns_letters" 709 (.ref 396)),(kH P "into_queues" 715 (.ref 401)),(kH P "_law_cell_at" 725 (.ref 408)),(kH P "_law_part" 734 (.ref 415)),(kH P "_law_cells" 740 (.ref 420)),(kH P "_law_pockets" 751 (.ref 427)),(kH P "_law_passes" 757 (.ref 432)),(kH P "_law_plan" 763 (.ref 437)),(kH P "_law_coming" 774 (.ref 444)),(kH P "_law_shut" 785 (.ref 451)),(kH P "_law_spoilt" 800 (.ref 458)),(kH P "_law_torn" 810 (.ref 465)),(kH P "_law_told" 826 (.ref 472)),(kH P "_law_due" 834 (.ref 479)),(kH P "law" 840 (.ref 484))] 75),#[]⟩),(22,⟨(.type "tuple"),none,(.seq #[] 0),#[]⟩),(23,⟨(.type "dict"),none,(.dict #[(kH P "__module__" 196 (.str "pocketmill.errors" 187)),(kH P "__firstlineno__" 200 (.int 2 199)),(kH P "__static_attributes__" 201 (.ref 22)),(kH P "__weakref__" 203 (.ref 25)),(kH P "__doc__" 204 .none)] 3),#[]⟩),(24,⟨(.type "type"),none,(.cls ⟨"MillError",[(!15)],[(.ref 24),(!15),(.type "Exception"),(!10),(.type "object")],23,"MillError",true,[],[(.ref 37),(.ref 49),(.ref 61),(.ref 73),(.ref 85),(.ref 97),(.ref 109),(.ref 121),(.ref 133),(.ref 145),(.ref 157),(.ref 169)],false,none,false⟩),#[(!(.ref 15)),none,(!(.str "MillError" 189)),(!(.str "MillError" 197)),(!11),(!(.bool true))]⟩),(25,⟨(.type "getset_descriptor"),none,(.fields #[(.str "__weakref__" 202),(.ref 24),(.builtin "ExceptionGroup.__weakref__"),.none]),#[]⟩),(35,⟨(.type "tuple"),none,(.seq #[] 0),#[]⟩),(36,⟨(.type "dict"),none,(.dict #[(kH P "__module__" 214 (.str "pocketmill.errors" 187)),(kH P "__firstlineno__" 218 (.int 4 217)),(kH P "__static_attributes__" 219 (.ref 35)),(kH P "__doc__" 220 .none)] 2),#[]⟩),(37,⟨(.type "type"),none,(.cls ⟨"BadMill",[(.ref 24)],[(.ref 37),(.ref 24),(!15),(.type "Exception"),(!10),(.type "object")],36,"BadMill",true,[],[],false,none,false⟩),#[(!(.ref 28)),none,(!(.str "BadMill" 207)),(!(.str "BadMill" 215)),(!11),(!(.bool true))]⟩),(47,⟨(.type "tuple"),none,(.seq #[] 0),#[]⟩),(48,⟨(.type "dict"),none,(.dict #[(kH P "__module__" 230 (.str "pocketmill.errors" 187)),(kH P "__firstlineno__" 234 (.int 6 233)),(kH P "__static_attributes__" 235 (.ref 47)),(kH P "__doc__" 236 .none)] 2),#[]⟩),(49,⟨(.type "type"),none,(.cls ⟨"BadLate",[(.ref 24)],[(.ref 49),(.ref 24),(!15),(.type "Exception"),(!10),(.type "object")],48,"BadLate",true,[],[],false,none,false⟩),#[(!(.ref 40)),none,(!(.str "BadLate" 223)),(!(.str "BadLate" 231)),(!11),(!(.bool true))]⟩),(59,⟨(.type "tuple"),none,(.seq #[] 0),#[]⟩),(60,⟨(.type "dict"),none,(.dict #[(kH P "__module__" 246 (.str "pocketmill.errors" 187)),(kH P "__firstlineno__" 250 (.int 8 249)),(kH P "__static_attributes__" 251 (.ref 59)),(kH P "__doc__" 252 .none)] 2),#[]⟩),(61,⟨(.type "type"),none,(.cls ⟨"BadWord",[(.ref 24)],[(.ref 61),(.ref 24),(!15),(.type "Exception"),(!10),(.type "object")],60,"BadWord",true,[],[],false,none,false⟩),#[(!(.ref 52)),none,(!(.str "BadWord" 239)),(!(.str "BadWord" 247)),(!11),(!(.bool true))]⟩),(71,⟨(.type "tuple"),none,(.seq #[] 0),#[]⟩),(72,⟨(.type "dict"),none,(.dict #[(kH P "__module__" 262 (.str "pocketmill.errors" 187)),(kH P "__firstlineno__" 266 (.int 10 265)),(kH P "__static_attributes__" 267 (.ref 71)),(kH P "__doc__" 268 .none)] 2),#[]⟩),(73,⟨(.type "type"),none,(.cls ⟨"BadCode",[(.ref 24)],[(.ref 73),(.ref 24),(!15),(.type "Exception"),(!10),(.type "object")],72,"BadCode",true,[],[],false,none,false⟩),#[(!(.ref 64)),none,(!(.str "BadCode" 255)),(!(.str "BadCode" 263)),(!11),(!(.bool true))]⟩),(83,⟨(.type "tuple"),none,(.seq #[] 0),#[]⟩),(84,⟨(.type "dict"),none,(.dict #[(kH P "__module__" 278 (.str "pocketmill.errors" 187)),(kH P "__firstlineno__" 282 (.int 12 281)),(kH P "__static_attributes__" 283 (.ref 83)),(kH P "__doc__" 284 .none)] 2),#[]⟩),(85,⟨(.type "type"),none,(.cls ⟨"BadSize",[(.ref 24)],[(.ref 85),(.ref 24),(!15),(.type "Exception"),(!10),(.type "object")],84,"BadSize",true,[],[],false,none,false⟩),#[(!(.ref 76)),none,(!(.str "BadSize" 271)),(!(.str "BadSize" 279)),(!11),(!(.bool true))]⟩),(95,⟨(.type "tuple"),none,(.seq #[] 0),#[]⟩),(96,⟨(.type "dict"),none,(.dict #[(kH P "__module__" 294 (.str "pocketmill.errors" 187)),(kH P "__firstlineno__" 298 (.int 14 297)),(kH P "__static_attributes__" 299 (.ref 95)),(kH P "__doc__" 300 .none)] 2),#[]⟩),(97,⟨(.type "type"),none,(.cls ⟨"BadLetters",[(.ref 24)],[(.ref 97),(.ref 24),(!15),(.type "Exception"),(!10),(.type "object")],96,"BadLetters",true,[],[],false,none,false⟩),#[(!(.ref 88)),none,(!(.str "BadLetters" 287)),(!(.str "BadLetters" 295)),(!11),(!(.bool true))]⟩),(107,⟨(.type "tuple"),none,(.seq #[] 0),#[]⟩),(108,⟨(.type "dict"),none,(.dict #[(kH P "__module__" 310 (.str "pocketmill.errors" 187)),(kH P "__firstlineno__" 314 (.int 16 313)),(kH P "__static_attributes__" 315 (.ref 107)),(kH P "__doc__" 316 .none)] 2),#[]⟩),(109,⟨(.type "type"),none,(.cls ⟨"BadPlan",[(.ref 24)],[(.ref 109),(.ref 24),(!15),(.type "Exception"),(!10),(.type "object")],108,"BadPlan",true,[],[],false,none,false⟩),#[(!(.ref 100)),none,(!(.str "BadPlan" 303)),(!(.str "BadPlan" 311)),(!11),(!(.bool true))]⟩),(119,⟨(.type "tuple"),none,(.seq #[] 0),#[]⟩),(120,⟨(.type "dict"),none,(.dict #[(kH P "__module__" 326 (.str "pocketmill.errors" 187)),(kH P "__firstlineno__" 330 (.int 18 329)),(kH P "__static_attributes__" 331 (.ref 119)),(kH P "__doc__" 332 .none)] 2),#[]⟩),(121,⟨(.type "type"),none,(.cls ⟨"BadCount",[(.ref 24)],[(.ref 121),(.ref 24),(!15),(.type "Exception"),(!10),(.type "object")],120,"BadCount",true,[],[],false,none,false⟩),#[(!(.ref 112)),none,(!(.str "BadCount" 319)),(!(.str "BadCount" 327)),(!11),(!(.bool true))]⟩),(131,⟨(.type "tuple"),none,(.seq #[] 0),#[]⟩),(132,⟨(.type "dict"),none,(.dict #[(kH P "__module__" 342 (.str "pocketmill.errors" 187)),(kH P "__firstlineno__" 346 (.int 20 345)),(kH P "__static_attributes__" 347 (.ref 131)),(kH P "__doc__" 348 .none)] 2),#[]⟩),(133,⟨(.type "type"),none,(.cls ⟨"BadRow",[(.ref 24)],[(.ref 133),(.ref 24),(!15),(.type "Exception"),(!10),(.type "object")],132,"BadRow",true,[],[],false,none,false⟩),#[(!(.ref 124)),none,(!(.str "BadRow" 335)),(!(.str "BadRow" 343)),(!11),(!(.bool true))]⟩),(143,⟨(.type "tuple"),none,(.seq #[] 0),#[]⟩),(144,⟨(.type "dict"),none,(.dict #[(kH P "__module__" 358 (.str "pocketmill.errors" 187)),(kH P "__firstlineno__" 362 (.int 22 361)),(kH P "__static_attributes__" 363 (.ref 143)),(kH P "__doc__" 364 .none)] 2),#[]⟩),(145,⟨(.type "type"),none,(.cls ⟨"BadPrices",[(.ref 24)],[(.ref 145),(.ref 24),(!15),(.type "Exception"),(!10),(.type "object")],144,"BadPrices",true,[],[],false,none,false⟩),#[(!(.ref 136)),none,(!(.str "BadPrices" 351)),(!(.str "BadPrices" 359)),(!11),(!(.bool true))]⟩),(155,⟨(.type "tuple"),none,(.seq #[] 0),#[]⟩),(156,⟨(.type "dict"),none,(.dict #[(kH P "__module__" 374 (.str "pocketmill.errors" 187)),(kH P "__firstlineno__" 378 (.int 24 377)),(kH P "__static_attributes__" 379 (.ref 155)),(kH P "__doc__" 380 .none)] 2),#[]⟩),(157,⟨(.type "type"),none,(.cls ⟨"NoRow",[(.ref 24)],[(.ref 157),(.ref 24),(!15),(.type "Exception"),(!10),(.type "object")],156,"NoRow",true,[],[],false,none,false⟩),#[(!(.ref 148)),none,(!(.str "NoRow" 367)),(!(.str "NoRow" 375)),(!11),(!(.bool true))]⟩),(167,⟨(.type "tuple"),none,(.seq #[] 0),#[]⟩),(168,⟨(.type "dict"),none,(.dict #[(kH P "__module__" 390 (.str "pocketmill.errors" 187)),(kH P "__firstlineno__" 394 (.int 26 393)),(kH P "__static_attributes__" 395 (.ref 167)),(kH P "__doc__" 396 .none)] 2),#[]⟩),(169,⟨(.type "type"),none,(.cls ⟨"Shut",[(.ref 24)],[(.ref 169),(.ref 24),(!15),(.type "Exception"),(!10),(.type "object")],168,"Shut",true,[],[],false,none,false⟩),#[(!(.ref 160)),none,(!(.str "Shut" 383)),(!(.str "Shut" 391)),(!11),(!(.bool true))]⟩),(172,⟨(.type "tuple"),none,(.seq #[(.str "queue" 401),(.str "pile" 402)] 0),#[]⟩),(178,kD "is_within" 414 35 3 173 420),(179,kG "is_within" jk gY 399 178),(185,kD "is_size" 423 37 1 180 427),(186,kG "is_size" lC gY 399 185),(192,kD "is_pocket" 430 39 1 187 434),(193,kG "is_pocket" jm gY 399 192),(197,kE "is_pass" 437 43 1 194 440),(198,kG "is_pass" lA gY 399 197),(202,kE "are_passes" 443 47 1 199 446),(203,kG "are_passes" gU gY 399 202),(209,kD "codes_of" 449 51 1 204 455),(210,kG "codes_of" j4 gY 399 209),(221,(kC "__init__" 470 "Mill.__init__" 471 472 58 2 0 0 3 218 181 219 .none .none .none (.ref 220) 473 58 474)),(222,kF "__init__" "Mill.__init__" aK gY 399 221),(228,(kC "codes" 476 "Mill.codes" 477 478 63 1 0 0 3 223 181 224 .none (.ref 225) (.ref 226) (.ref 227) 480 63 481)),(229,kF "codes" "Mill.codes" bD gY 399 228),(235,(kC "many" 483 "Mill.many" 484 485 66 1 0 0 3 230 181 231 .none (.ref 232) (.ref 233) (.ref 234) 487 66 488)),(236,kF "many" "Mill.many" bX gY 399 235),(237,⟨(.type "tuple"),none,(.seq #[(.str "passes" 490)] 0),#[]⟩),(238,⟨(.type "dict"),none,(.dict #[(kH P "__module__" 465 (.str "pocketmill.mills" 399)),(kH P "__firstlineno__" 469 (.int 56 468)),(kH P "__init__" 475 (.ref 222)),(kH P "codes" 482 (.ref 229)),(kH P "many" 489 (.ref 236)),(kH P "__static_attributes__" 491 (.ref 237)),(kH P "__dict__" 493 (.ref 240)),(kH P "__weakref__" 495 (.ref 241)),(kH P "__doc__" 496 .none)] 4),#[]⟩),(239,⟨(.type "type"),none,(.cls ⟨"Mill",[(.type "object")],[(.ref 239),(.type "object")],238,"Mill",true,[],[],false,none,false⟩),#[none,none,(!(.str "Mill" 458)),(!(.str "Mill" 466)),(!(.builtin "object.__new__")),(!(.bool true))]⟩),(240,⟨(.type "getset_descriptor"),none,(.fields #[(.str "__dict__" 492),(.ref 239),(.builtin "function.__dict__"),(.builtin "function.__dict__#set")]),#[]⟩),(241,⟨(.type "getset_descriptor"),none,(.fields #[(.str "__weakref__" 494),(.ref 239),(.builtin "ExceptionGroup.__weakref__"),.none]),#[]⟩),(249,kD "is_late" 499 68 2 244 504),(250,kG "is_late" lD gY 399 249),(254,kE "is_word" 507 70 3 251 510),(255,kG "is_word" lE gY 399 254),(261,kD "look_at_late" 513 75 2 256 518),(262,kG "look_at_late" fW gY 399 261),(268,kD "look_at_word" 521 78 3 263 527),(269,kG "look_at_word" fX gY 399 268),(273,kE "pockets_of" 530 82 3 270 533),(274,kG "pockets_of" gX gY 399 273),(280,kD "laid" 536 84 3 275 542),(281,kG "laid" rA gY 399 280),(287,kD "word_code" 545 86 3 282 555),(288,kG "word_code" js gY 399 287),(294,kD "code_word" 558 94 3 289 569),(295,kG "code_word" jt gY 399 294),(299,kE "face" 572 109 3 296 575),(300,kG "face" rB gY 399 299),(304,kE "fits" 578 113 4 301 581),(305,kG "fits" rz gY 399 304),(311,kD "is_letter" 588 120 2 306 593),(312,kG "is_letter" jr yu 584 311),(316,kE "look_at_letters" 596 124 2 313 599),(317,kG "look_at_letters" d9 yu 584 316),(323,kD "is_word_for" 602 129 3 318 608),(324,kG "is_word_for" gN yu 584 323),(328,kE "look_at_plan" 611 131 3 325 614),(329,kG "look_at_plan" cq yu 584 328),(333,kE "filled" 617 137 5 330 620),(334,kG "filled" mC yu 584 333),(340,kD "emptied" 623 142 2 335 631),(341,kG "emptied" lB yu 584 340),(345,kE "look_at_widths" 636 148 1 342 639),(346,kG "look_at_widths" bM Of 634 345),(350,kE "is_row" 642 152 1 347 645),(351,kG "is_row" mD Of 634 350),(355,kE "letters_of" 650 157 1 352 653),(356,kG "letters_of" gW tK 648 355),(362,kD "look_at_words" 656 159 2 357 661),(363,kG "look_at_words" b8 tK 648 362),(369,kD "look_at_counts" 664 164 2 364 669),(370,kG "look_at_counts" bN tK 648 369),(376,kD "end_from" 672 167 3 371 681),(377,kG "end_from" eu tK 648 376),(381,kE "classes" 684 175 2 378 687),(382,kG "classes" fC tK 648 381),(388,kD "parting" 690 181 4 383 699),(389,kG "parting" fE tK 648 388),(395,kD "turns_letters" 702 190 2 390 707),(396,kG "turns_letters" fF tK 648 395),(400,kE "into_queues" 710 192 2 397 713),(401,kG "into_queues" cQ tK 648 400),(407,kD "_law_cell_at" 718 198 2 402 723),(408,kG "_law_cell_at" fU lF 716 407),(414,kD "_law_part" 726 202 2 409 732),(415,kG "_law_part" jn lF 716 414),(419,kE "_law_cells" 735 206 2 416 738),(420,kG "_law_cells" gV lF 716 419),(426,kD "_law_pockets" 741 220 1 421 749),(427,kG "_law_pockets" fV lF 716 426),(431,kE "_law_passes" 752 227 2 428 755),(432,kG "_law_passes" gJ lF 716 431),(436,kE "_law_plan" 758 229 4 433 761),(437,kG "_law_plan" jo lF 716 436),(443,kD "_law_coming" 764 235 3 438 772),(444,kG "_law_coming" gK lF 716 443),(450,kD "_law_shut" 775 240 2 445 783),(451,kG "_law_shut" jp lF 716 450),(457,kD "_law_spoilt" 786 246 3 452 798),(458,kG "_law_spoilt" gL lF 716 457),(464,kD "_law_torn" 801 260 2 459 808),(465,kG "_law_torn" jq lF 716 464),(471,kD "_law_told" 811 270 6 466 824),(472,kG "_law_told" cE lF 716 471),(478,kD "_law_due" 827 288 2 473 832),(479,kG "_law_due" j5 lF 716 478),(483,kE "law" 835 300 1 480 838),(484,kG "law" j6 lF 716 483)]
noncomputable def  adr:List Addr:=[2,3,22,23,24,25,35,36,37,47,48,49,59,60,61,71,72,73,83,84,85,95,96,97,107,108,109,119,120,121,131,132,133,143,144,145,155,156,157,167,168,169,172,178,179,185,186,192,193,197,198,202,203,209,210,221,222,228,229,235,236,237,238,239,240,241,249,250,254,255,261,262,268,269,273,274,280,281,287,288,294,295,299,300,304,305,311,312,316,317,323,324,328,329,333,334,340,341,345,346,350,351,355,356,362,363,369,370,376,377,381,382,388,389,395,396,400,401,407,408,414,415,419,420,426,427,431,432,436,437,443,444,450,451,457,458,464,465,471,472,478,479,483,484]
def adr_ok(P:Params):adr=(KK P).map (·.1):=by kernel_rfl
noncomputable abbrev NN:Nat:=9070
noncomputable def  env0:Env:={scope:=PySem.Challenge.pw_pocketmill_k47_plans_refused.main.scope,locals:=mainNs,globals:=mainNs,cells:=[],code:=(.ref 13),frame:=some 14}
def GG:∀w:World,(PySem.W.fencedOpening treeTable PySem.Challenge.pw_pocketmill_k47_plans_refused w NN).map (λs=>(s.heap,s.gens,s.drawn,s.toks))=!(PySem.W.boot_heap w.params,Array.mk [],PySem.W.boot_drawn,PySem.W.boot_toks):=PySem.W.boot_open (!1) (!4) (λs=>by kernel_rfl)
def GH(w:World):(PySem.W.boot_heap w.params).isNs mainGlobals=true/\(PySem.W.boot_heap w.params).objs.size=11/\(PySem.W.boot_heap w.params).nsMap mainGlobals "__annotations__"=(!(.ref 6)):=⟨by kernel_rfl,by kernel_rfl,by kernel_rfl⟩
def SW(w:World)(os:OsState):(HD.A PySem.Challenge.pw_pocketmill_k47_plans_refused 11 (!(.ref 6)) 12 w os).map (·.2)=!⟨denote treeTable (HD.cd PySem.Challenge.pw_pocketmill_k47_plans_refused env0),HD.cd PySem.Challenge.pw_pocketmill_k47_plans_refused env0,⟨0,0,0,0⟩,[PySem.W.topFrame ⟨0,0,0,0⟩]⟩:=by kernel_rfl
def SY(w:World)(os:OsState):(HD.B PySem.Challenge.pw_pocketmill_k47_plans_refused 11 ((!(.ref 6))) env0 ⟨0,0,0,0⟩ ⟨0,0,0,0⟩ 12 1 w os).map (λr=>(r.1,r.2.2))=!(.next,HD.cd PySem.Challenge.pw_pocketmill_k47_plans_refused env0,⟨0,0,0,0⟩):=by kernel_rfl
def SZ(w:World)(os:OsState):(HD.toT (HD.SB PySem.Challenge.pw_pocketmill_k47_plans_refused 11 ((!(.ref 6))) env0 ⟨0,0,0,0⟩ ⟨0,0,0,0⟩ 12 1 w os)).abs=HD.SB PySem.Challenge.pw_pocketmill_k47_plans_refused 11 ((!(.ref 6))) env0 ⟨0,0,0,0⟩ ⟨0,0,0,0⟩ 12 1 w os:=by kernel_rfl
def S1(w:World)(os:OsState):(HD.C PySem.Challenge.pw_pocketmill_k47_plans_refused 11 ((!(.ref 6))) env0 ⟨0,0,0,0⟩ ⟨0,0,0,0⟩ ⟨0,0,0,0⟩ 12 1 4473 w os).map (λr=>(r.1,r.2.2))=!(.next,HD.cd PySem.Challenge.pw_pocketmill_k47_plans_refused env0,⟨300,0,331,15⟩):=by kernel_rfl
def S2(w:World)(s:Shared):PySem.W.topRun treeTable PySem.Challenge.pw_pocketmill_k47_plans_refused w 11 (!(.ref 6)) 2 s ⟨PySem.W.doneF .next,HD.cd PySem.Challenge.pw_pocketmill_k47_plans_refused env0,⟨300,0,331,15⟩,[PySem.W.topFrame ⟨0,0,0,0⟩]⟩=!s:=by kernel_rfl
noncomputable abbrev FF(w:World)(os:OsState):Shared:=(HD.SC PySem.Challenge.pw_pocketmill_k47_plans_refused 11 ((!(.ref 6))) env0 ⟨0,0,0,0⟩ ⟨0,0,0,0⟩ ⟨0,0,0,0⟩ 12 1 4473 w os).abs
abbrev XT(s:Shared):Bool:=PySem.W.xlAt Q [] s&&PySem.W.recOk PySem.Challenge.rw_pocketmill_k47_plans_refused.row.records s
def O0(w:World)(os:OsState):(PySem.W.staticsOk (importedModules PySem.Challenge.pw_pocketmill_k47_plans_refused.main.body) (PySem.W.boot_heap w.params) (FF w os).heap&&PySem.W.namesBound PySem.Challenge.pw_pocketmill_k47_plans_refused (FF w os).heap&&PySem.W.gensDone (FF w os)&&PySem.W.laidKept (PySem.W.boot_heap w.params) (FF w os).heap)=true:=by
 rw[PySem.W.Fast.te5923862056798008813];kernel_rfl
def O6(w:World)(os:OsState):PySem.W.openSeen Q [] (importedModules PySem.Challenge.pw_pocketmill_k47_plans_refused.main.body) XT true (FF w os)=PySem.W.openGood Q []:=by
 rw[PySem.W.Fast.te5923862056798008813,PySem.W.Fast.te4187177175401517315];kernel_rfl
def O7(w:World)(os:OsState):adr.map (FF w os).heap.get?=(KK w.params).map λp=>!p.2:=by kernel_rfl
def t_left:PySem.W.LeftO PySem.Challenge.pw_pocketmill_k47_plans_refused Q [] XT (PySem.W.Hook.obs (PySem.W.kHook KK adr adr_ok)) (PySem.W.Hook.val (PySem.W.kHook KK adr adr_ok)) NN:=
 HD.left_of GG GH (HD.run_of SW SY SZ S1 S2) (!4) λw os=>by rw[O0 w os,O6 w os];exact congrArg (λz=>(true,PySem.W.openGood Q [],z)) (O7 w os)
end K42
namespace L2
open PySem PySem.Spec PyProof.Rows
abbrev gO:=Sum Int Str
noncomputable def  keyIs:gO->Value->Bool
 |.inl k,v=>Value.isInt k v
 |.inr x,v=>Value.isStrOf x v
noncomputable def  O8(w:World):gO->Int
 |.inl k=>hashInt k
 |.inr x=>hashStr w x
def keyIs_shape:∀{k:gO}{v:Value},keyIs k v=true->(∃i t,k=Sum.inl i/\v=Value.int i t)\/(∃x t,k=Sum.inr x/\v=Value.str x t)
 |.inl i,v,h=>by
  let⟨t,e⟩:=Value.isInt_shape h;exact .inl ⟨i,t,rfl,e⟩
 |.inr x,v,h=>by
  let⟨t,e⟩:=Value.isStrOf_shape h;exact .inr ⟨x,t,rfl,e⟩
def wW(i:Int)(t:Tok):keyIs (.inl i) (.int i t)=true:=by simp[keyIs,Value.isInt]
def wX(x:Str)(t:Tok):keyIs (.inr x) (.str x t)=true:=by simp[keyIs,Value.isStrOf]
def GI(a b:Int):decide ((Sum.inl a:gO)=Sum.inl b)=(a==b):=by grind
def GJ(a b:Str):decide ((Sum.inr a:gO)=Sum.inr b)=decide (a=b):=by simp
def GK(a:Int)(b:Str):decide ((Sum.inl a:gO)=Sum.inr b)=false:=decide_eq_false (λq=>nomatch q)
def GL(a:Str)(b:Int):decide ((Sum.inr a:gO)=Sum.inl b)=false:=decide_eq_false (λq=>nomatch q)
def  c9(prog:Program)(w:World):PySem.KeyKind prog w gO where
 is:=keyIs
 hash:=O8 w
 inj:=λv a b ha hb=>by
  rcases keyIs_shape ha with⟨i,t,rfl,rfl⟩|⟨x,t,rfl,rfl⟩
  .rcases keyIs_shape hb with⟨j,u,rfl,e⟩|⟨y,u,rfl,e⟩
   .injection e with e1 _;rw[e1]
   .exact nomatch e
  .rcases keyIs_shape hb with⟨j,u,rfl,e⟩|⟨y,u,rfl,e⟩
   .exact nomatch e
   .injection e with e1 _;rw[e1]
 byValue:=λk v h=>by
  rcases keyIs_shape h with⟨i,t,rfl,rfl⟩|⟨x,t,rfl,rfl⟩<;>rfl
 pyHash:=λhv h=>by
  rcases keyIs_shape hv with⟨i,t,rfl,rfl⟩|⟨x,t,rfl,rfl⟩
  .exact wpAny_pyHash_int h
  .exact wpAny_pyHash_str h
 eqBool:=λhu hv h=>by
  rcases keyIs_shape hu with⟨i,t,rfl,rfl⟩|⟨x,t,rfl,rfl⟩
  .rcases keyIs_shape hv with⟨j,u,rfl,rfl⟩|⟨y,u,rfl,rfl⟩
   .rw[GI]at h;exact wpAny_eqBool_int h
   .rw[GK]at h;exact SeqAt.EqAt.int_str i t y u _ _ _ _ h
  .rcases keyIs_shape hv with⟨j,u,rfl,rfl⟩|⟨y,u,rfl,rfl⟩
   .rw[GL]at h;exact SeqAt.EqAt.str_int x t j u _ _ _ _ h
   .rw[GJ]at h;exact wpAny_eqBool_str h
 «strs»:=λk x t v h=>by
  rcases keyIs_shape h with⟨i,u,rfl,e⟩|⟨y,u,rfl,e⟩
  .exact nomatch e
  .injection e with e1 _;subst e1;cases v<;>rfl
def rC(prog:Program)(w:World)(i:Int)(t:Tok):(c9 prog w).is (.inl i) (.int i t)=true:=wW i t
def rD(prog:Program)(w:World)(x:Str)(t:Tok):(c9 prog w).is (.inr x) (.str x t)=true:=wX x t
inductive V where
 |non|bl (b:Bool)|int (i:Int)|str (x:Str)|byt (b:Array UInt8)|flt (b:UInt64)|ref (a:Addr)|ty (n:String)
 deriving DecidableEq
def  RelV:V->Value->Prop
 |.non,u=>u=Value.none
 |.bl b,u=>u=Value.bool b
 |.int i,u=>∃t,u=Value.int i t
 |.str x,u=>∃t,u=Value.str x t
 |.byt b,u=>∃t,u=Value.bytes b t
 |.flt b,u=>∃t,u=Value.float b t
 |.ref a,u=>u=Value.ref a
 |.ty n,u=>u=Value.type n
abbrev Vals:List V->TY->Prop:=Paired RelV
def Vals.length(r:Vals xs g):xs.length=g.length:=Paired.length r
def Vals.get:∀{xs:List V}{us:TY}{i:Nat}{x:V},Vals xs us->xs[i]?=!x->∃u,us[i]?=!u/\RelV x u
 |_,_,_,_,.nil,e=>by simp at e
 |_,_,0,_,.cons r _,e=>by simp at e;subst e;exact⟨_,rfl,r⟩
 |_,_,i+1,x,.cons _ t,e=>by
  let⟨u,h1,h2⟩:=Vals.get (i:=i) (x:=x) t (by simpa using e);exact⟨u,by simpa using h1,h2⟩
def Vals.set(r:RelV x u):∀{xs:List V}{us:TY}(i:Nat),Vals xs us->Vals (xs.set i x) (us.set i u)
 |_,_,_,.nil=>.nil
 |_,_,0,.cons _ t=>.cons r t
 |_,_,i+1,.cons q t=>.cons q (Vals.set r i t)
def Vals.append:∀{xs ys:List V}{us ws:TY},Vals xs us->Vals ys ws->Vals (xs++ys) (us++ws)
 |_,_,_,_,.nil,s=>s
 |_,_,_,_,.cons r t,s=>.cons r (Vals.append t s)
def Vals.take:∀{xs:List V}{us:TY}(n:Nat),Vals xs us->Vals (xs.take n) (us.take n)
 |_,_,0,_=>.nil
 |_,_,_+1,.nil=>.nil
 |_,_,n+1,.cons r t=>.cons r (Vals.take n t)
def Vals.drop:∀{xs:List V}{us:TY}(n:Nat),Vals xs us->Vals (xs.drop n) (us.drop n)
 |_,_,0,r=>r
 |_,_,_+1,.nil=>.nil
 |_,_,n+1,.cons _ t=>Vals.drop n t
def  RelO:Option V->TZ->Prop
 |some v,!u=>RelV v u
 |none,none=>True
 |_,_=>False
def  KV{κ:Type}:List (κ×V)->List (κ×Value)->Prop:=Paired λ(p:κ×V)(q:κ×Value)=>p.1=q.1/\RelV p.2 q.2
noncomputable def  kV:gO->V
 |.inl i=>.int i
 |.inr x=>.str x
inductive HO where
 |lst (xs:List V)
 |tup (xs:List V)
 |dK (kvs:List (gO×V))|dT (kvs:List (List gO×V))
 |set (S:Int->Bool) (n:Nat)
 |ins (C dx:Addr) (fs:List (Str×V))
 |own (x:Addr)
 |xd (fs:List (Str×V))
 |met (f x:Addr)
 |rng (lo hi:Int)
 |frz (o:Obj) (u:HO)
 |tbl (ps:T7)
 |ext (φ:Heap->Prop)
abbrev Hp:=Addr->Option HO
noncomputable def  upd(H:Hp)(a:Addr)(o:HO):Hp:=λb=>if b=a then !o else H b
def ak:upd H a o a=!o:=by unfold upd;rw[if_pos rfl]
def al(h:b≠a):upd H a o b=H b:=by unfold upd;rw[if_neg h]
def Cw:upd (upd H a o) a u=upd H a u:=by
 funext b;unfold upd;split<;>rfl
def aG{H:Hp}(h:H a=!o)(h':H b=none):a≠b:=by
 intro e;subst e;rw[h]at h';cases h'
section
variable(P:Program)(w:World)
def  ObjOk(H:Hp)(h:Heap)(a:Addr):HO->Prop
 |.lst xs=>xs.length<=sizeLine/\∃(its:TY)(n:Nat),Vals xs its/\h.get? a=some {cls:=.type "list",data:=.seq its.toArray n}
 |.tup xs=>xs.length<=sizeLine/\∃its:TY,Vals xs its/\IsTup h a its.toArray
 |.dK kvs=>kvs.length<=sizeLine/\(a==sysModules)=false/\∃vs,KV kvs vs/\h.DictOf (c9 P w) a vs
 |.dT kvs=>kvs.length<=sizeLine/\(a==sysModules)=false/\∃xs:List (List gO×Addr×Value),
  Paired (λ(p:List gO×V)(q:List gO×Addr×Value)=>p.1=q.1/\H q.2.1=!(.tup (p.1.map kV))/\RelV p.2 q.2.2) kvs xs/\
  ∃o es ep,h.get? a=!o/\o.ExactDict/\o.data=.dict es ep/\es.toList=xs.map (entryOfKey (tupleKind (c9 P w)))/\(xs.map (·.1)).Nodup
 |.set S n=>h.SetOf (intKind P w) a S n
 |.ins C dx fs=>H dx=!(.own a)/\fs.length<=1000/\dx≠a/\h.get? a=!(PySem.W.instObj C dx)/\
  ∃mA,h.Ns1 dx mA/\(∀f,RelO (fs.lookup f) (mA f))/\PySem.Within mA (fs.map (·.1))
 |.own _=>∃o,h.get? a=!o
 |.xd fs=>∃mA,h.Ns1 a mA/\∀f,RelO (fs.lookup f) (mA f)
 |.rng lo hi=>∃t u v,h.get? a=some {cls:=.type "range",data:=.fields #[.int lo t,.int hi u,.int 1 v]}
 |.frz o u=>h.get? a=!o/\ObjOk H h a u
 |.tbl ps=>h.get? a=some {cls:=.none,data:=.fields ps}
 |.met f x=>h.get? a=!(PySem.W.methodObj (.ref f) (.ref x))
 |.ext φ=>φ h/\(∃o,h.get? a=!o)/\∀h1 h2:Heap,φ h1->(∀o,h1.get? a=!o->h2.get? a=!o)->φ h2
def  HOk(H:Hp)(h:Heap):Prop:=∀a o,H a=!o->ObjOk P w H h a o
end
section
variable{P:Program}{w:World}{H H':Hp}{h h':Heap}{a:Addr}{o:HO}
def ObjOk.lt(x:ObjOk P w H h a o):a<h.objs.size:=by
 cases o with
 |lst xs=>let⟨_,_,_,_,e⟩:=x;exact Uh e
 |tup xs=>let⟨_,_,_,p⟩:=x;exact p.lt
 |dK kvs=>let⟨_,_,_,_,o,_,_,e,_⟩:=x;exact Uh e
 |dT kvs=>let⟨_,_,_,_,o,_,_,e,_⟩:=x;exact Uh e
 |set S n=>let⟨o,_,_,_,e,_⟩:=x;exact Uh e
 |ins C dx fs=>let⟨_,_,_,e,_⟩:=x;exact Uh e
 |own y=>let⟨_,e⟩:=x;exact Uh e
 |xd fs=>let⟨_,⟨_,_,_,e,_⟩,_⟩:=x;exact Uh e
 |rng lo hi=>let⟨_,_,_,e⟩:=x;exact Uh e
 |frz ob u=>let⟨e,_⟩:=x;exact Uh e
 |tbl ps=>exact Uh (show h.get? a=some _ from x)
 |met f y=>exact Uh (show h.get? a=some _ from x)
 |ext φ=>let⟨_,⟨_,e⟩,_⟩:=x;exact Uh e
def Paired.mapP:∀{l₁:List α}{l₂:List β},Paired F l₁ l₂->(∀a b,F a b->G a b)->Paired G l₁ l₂
 |_,_,.nil,_=>.nil
 |_,_,.cons r t,f=>.cons (f _ _ r) (Paired.mapP t f)
def ObjOk.stay(x:ObjOk P w H h a o)(k:∀b u,(b=a\/H b=!(.own a))->h.get? b=!u->h'.get? b=!u)
  (ho:∀b,H b=!(.own a)->H' b=!(.own a)) (ht:∀b xs,H b=!(.tup xs)->H' b=!(.tup xs)):ObjOk P w H' h' a o:=by
 induction o with
 |lst xs=>let⟨z,its,n,r,e⟩:=x;exact⟨z,its,n,r,k _ _ (.inl rfl) e⟩
 |tup xs=>let⟨z,its,r,ob,e,c⟩:=x;exact⟨z,its,r,ob,k _ _ (.inl rfl) e,c⟩
 |dK kvs=>let⟨z,y,vs,r,ob,es,ep,e,c⟩:=x;exact⟨z,y,vs,r,ob,es,ep,k _ _ (.inl rfl) e,c⟩
 |dT kvs=>
  let⟨z,y,xs,r,ob,es,ep,e,c⟩:=x;exact⟨z,y,xs,Paired.mapP r λp q z=>⟨z.1,ht _ _ z.2.1,z.2.2⟩,ob,es,ep,k _ _ (.inl rfl) e,c⟩
 |set S n=>let⟨ob,es,ep,t,e,c⟩:=x;exact⟨ob,es,ep,t,k _ _ (.inl rfl) e,c⟩
 |ins C dx fs=>
  let⟨d,z,ne,e,mA,⟨od,es,ep,e2,c⟩,r⟩:=x;exact⟨ho _ d,z,ne,k _ _ (.inl rfl) e,mA,⟨od,es,ep,k _ _ (.inr d) e2,c⟩,r⟩
 |own y=>let⟨ob,e⟩:=x;exact⟨ob,k _ _ (.inl rfl) e⟩
 |xd fs=>let⟨mA,⟨od,es,ep,e,c⟩,r⟩:=x;exact⟨mA,⟨od,es,ep,k _ _ (.inl rfl) e,c⟩,r⟩
 |rng lo hi=>let⟨t,u,v,e⟩:=x;exact⟨t,u,v,k _ _ (.inl rfl) e⟩
 |frz ob u ih=>let⟨e,q⟩:=x;exact⟨k _ _ (.inl rfl) e,ih q⟩
 |tbl ps=>
  have e:h.get? a=some {cls:=.none,data:=.fields ps}:=x;show h'.get? a=some {cls:=.none,data:=.fields ps};exact k a _ (.inl rfl) e
 |met f y=>
  have e:h.get? a=!(PySem.W.methodObj (.ref f) (.ref y)):=x;show h'.get? a=!(PySem.W.methodObj (.ref f) (.ref y));exact k a _ (.inl rfl) e
 |ext φ=>let⟨p,⟨o,e⟩,st⟩:=x;exact⟨st _ _ p λo q=>k _ _ (.inl rfl) q,⟨o,k _ _ (.inl rfl) e⟩,st⟩
def HOk.lt(x:HOk P w H h)(e:H a=!o):a<h.objs.size:=(x a o e).lt
def HOk.fresh(x:HOk P w H h)(e:h.objs.size<=a):H a=none:=by
 cases q:H a with
 |none=>rfl
 |some u=>exact absurd (Up (x.lt q) e) (Ux _)
def HOk.kept(x:HOk P w H h)(k:∀b u,h.get? b=!u->h'.get? b=!u):HOk P w H h':=λa o e=>
 (x a o e).stay (λb u _ q=>k b u q) (λ_ q=>q) λ_ _ q=>q
def HOk.laid(x:HOk P w H h)(k:∀b u,h.get? b=!u->h'.get? b=!u)(hp:h.objs.size<=a)(new:ObjOk P w (upd H a o) h' a o):HOk P w (upd H a o) h':=λb u e=>by
 have hn:=x.fresh hp;by_cases hb:b=a
 .subst hb;rw[ak]at e;cases e;exact new
 .rw[al hb]at e;exact(x b u e).stay (λc v _ q=>k c v q) (λc q=>by rw[al (aG q hn)];exact q) λc xs q=>by rw[al (aG q hn)];exact q
end
def  Rd(H:Hp)(a:Addr)(u:HO):Prop:=H a=!u\/∃o,H a=!(.frz o u)
def Rd.of{H:Hp}{a:Addr}{u:HO}(h:H a=!u):Rd H a u:=.inl h
def Rd.ok(r:Rd H a u)(x:HOk P w H h):ObjOk P w H h a u:=by
 rcases r with r|⟨o,r⟩
 .exact x a u r
 .let⟨_,q⟩:=x a _ r;exact q
def  K9:Option HO->Prop
 |some (.lst _)=>True
 |some (.dK _)=>True
 |some (.dT _)=>True
 |some (.set _ _)=>True
 |some (.ins _ _ _)=>True
 |some (.ext _)=>True
 |_=>False
section
variable{P:Program}{w:World}{H:Hp}{h h':Heap}{x e:Addr}{o':HO}
def HOk.write(ok:HOk P w H h)(mu:K9 (H x))(he:e=x\/H e=!(.own x))(k:∀b u,b≠e->h.get? b=!u->h'.get? b=!u)(heo:∃u,h'.get? e=!u)
  (new:ObjOk P w (upd H x o') h' x o'):HOk P w (upd H x o') h':=λb u q=>by
 have nown:∀c y,H c=!(.own y)->c≠x:=λc y r z=>by subst z;rw[r]at mu;exact mu
 have ntup:∀c xs,H c=!(.tup xs)->c≠x:=λc xs r z=>by subst z;rw[r]at mu;exact mu
 by_cases hb:b=x
 .subst hb;rw[ak]at q;cases q;exact new
 .rw[al hb]at q;by_cases hbe:b=e
  .have q':H b=!(.own x):=by
    rcases he with z|z
    .exact absurd (hbe.trans z) hb
    .rw[hbe];exact z
   rw[q]at q';cases q';let⟨v,hv⟩:=heo;exact⟨v,by rw[hbe];exact hv⟩
  .refine(ok b u q).stay (λc v hc r=>k c v ?_ r) (λc r=>by rw[al (nown c b r)];exact r) λc xs r=>by rw[al (ntup c xs r)];exact r
   rcases hc with rfl|hc
   .exact hbe
   .rintro rfl;rcases he with z|z
    .exact nown c b hc z
    .rw[hc]at z;cases z;exact hb rfl
end
structure Un(fs ex:List Addr)(H H':Hp)(h h':Heap):Prop where
 keep:∀b o,h.get? b=!o->H b=none->b ∉ fs->b ∉ ex->h'.get? b=!o
 slot:∀b o,h.get? b=!o->H b=none->b∈fs->b ∉ ex->∃sl,h'.get? b=some {o with slots:=sl}
 free:∀b o,h.get? b=!o->H b=none->b ∉ ex->H' b=none
 there:∀b o,h.get? b=!o->b ∉ ex->∃o',h'.get? b=!o'
 tups:∀b xs,H b=!(.tup xs)->H' b=!(.tup xs)
 frzs:∀b o u,H b=!(.frz o u)->H' b=!(.frz o u)
 tbls:∀b ps,H b=!(.tbl ps)->∃more,H' b=!(.tbl (ps++more))
section
variable{fs fs' ex ex':List Addr}{H H1 H2:Hp}{h h1 h2 h':Heap}{a x e:Addr}{o:HO}
def Un.any(u:Un fs ex H H1 h h1)(q:h.get? b=!ob)(n:H b=none)(hx:b ∉ ex):∃sl,h1.get? b=some {ob with slots:=sl}:=by
 by_cases hb:b∈fs
 .exact u.slot b ob q n hb hx
 .exact⟨ob.slots,u.keep b ob q n hb hx⟩
def Un.kept(k:∀b u,h.get? b=!u->h'.get? b=!u):Un fs ex H H h h':=
 ⟨λb g q _ _ _=>k b g q,λb g q _ _ _=>⟨g.slots,k b g q⟩,λ_ _ _ n _=>n,λb g q _=>⟨g,k b g q⟩,λ_ _ q=>q,λ_ _ _ q=>q,λ_ ps q=>⟨#[],by rw[q];simp⟩⟩
def Un.refl:Un fs ex H H h h:=Un.kept λ_ _ q=>q
def Un.laid(k:∀b u,h.get? b=!u->h'.get? b=!u)(j:h.objs.size<=a)(g:H a=none):Un fs ex H (upd H a o) h h' where
 keep:=λb u q _ _ _=>k b u q
 slot:=λb u q _ _ _=>⟨u.slots,k b u q⟩
 free:=λb u q n _=>by rw[al (Nat.ne_of_lt (lt_of_lt_of_le (Heap.lt_size q) j))];exact n
 there:=λb u q _=>⟨u,k b u q⟩
 tups:=λb xs q=>by rw[al (aG q g)];exact q
 frzs:=λb u xs q=>by rw[al (aG q g)];exact q
 tbls:=λb ps q=>⟨#[],by rw[al (aG q g),q];simp⟩
def Un.write(mu:K9 (H x))(he:e=x\/H e=!(.own x))(k:∀b u,b≠e->h.get? b=!u->h'.get? b=!u)(heo:∃u,h'.get? e=!u):Un fs ex H (upd H x o) h h':=by
 have hx:∀b,H b=none->b≠x:=λb n z=>by subst z;rw[n]at mu;exact mu
 have hb:∀b,H b=none->b≠e:=λb n z=>by
  subst z;rcases he with r|r
  .exact hx b n r
  .rw[n]at r;cases r
 have hm:∀b u,H b=!u->¬K9 (!u)->b≠x:=λb u q nm z=>by subst z;rw[q]at mu;exact nm mu
 refine⟨λb u q n _ _=>k b u (hb b n) q,λb u q n _ _=>⟨u.slots,k b u (hb b n) q⟩,λb u q n _=>by rw[al (hx b n)];exact n,λb u q _=>?_,
  λb xs q=>by rw[al (hm b _ q λz=>z)];exact q,λb u xs q=>by rw[al (hm b _ q λz=>z)];exact q,λb ps q=>⟨#[],by rw[al (hm b _ q λz=>z),q];simp⟩⟩
 by_cases hbe:b=e
 .subst hbe;exact heo
 .exact⟨u,k b u hbe q⟩
end
noncomputable def  RG(h:Heap)(H:Hp):List Addr:=(List.range h.objs.size).filter λa=>(H a).isSome
def  pV(h:Heap)(H:Hp):Heap:=PySem.W.hideAll h (RG h H)
def wY(h:Heap)(H:Hp):(pV h H).objs.size=h.objs.size:=PySem.W.hideAll_size _ _
def yB(e:h.get? b=!o)(n:H b=none):(pV h H).get? b=!o:=
 PySem.W.hideAll_get _ e λg=>by
  have q:=(List.mem_filter.mp g).2;rw[n]at q;simp at q
def Cy(e:(pV h H).get? b=!o):h.get? b=!o/\H b=none:=by
 have g:=PySem.W.of_hideAll _ e;refine⟨g,?_⟩;cases q:H b with
 |none=>rfl
 |some x=>
  have j:b∈RG h H:=List.mem_filter.mpr ⟨Uz.mpr (Uh g),by simp[q]⟩;have z:(pV h H).get? b=none:=PySem.W.hideAll_none _ j;rw[z]at e;cases e
noncomputable def  Cz(g h:Heap)(L:Addr):TU:=(List.range h.objs.size).filterMap λa=>if a=L\/(g.get? a).isSome=true then none else(h.get? a).map λo=>(a,o)
def  rest(g h:Heap)(L d:Addr):TU:=(Cz g h L).filter λp=>decide (p.1≠d)
structure Mod(K:Frag)(mg:Str->TZ)(base:Heap):Prop where
 kin:K.In base
 glob:base.Ns mainGlobals mg
 blt:∃mb,base.Ns builtinsNs mb/\∀x:Str,x≠"__name__" ->mb x=bootBuiltins x
 nolimit:base.NoLimit
structure Cx where
 prog:Program
 w:World
 K:Frag
 mg:Str->TZ
 base:Heap
 A:Around
 N:T3
 s₀:Shared
 H₀:Hp
 env:Env
 outer:List Env
 stack:List Env
 ex:List Addr
 fn:Str->Bool
 calm:Bool
 pn:TU
 xe:TX
noncomputable def  frs(l:List Env):List Addr:=l.filterMap (·.frame)
abbrev Cx.fs(X:Cx):List Addr:=frs X.outer
def  tO(sc:Scope)(x:Str):Prop:=sc.names.lookup x=some .local\/sc.names.lookup x=some .cell\/sc.names.lookup x=some .free
def  Co(sc:Scope)(x:Str):Prop:=sc.names.lookup x=some .local\/sc.names.lookup x=some .cell
def  O9(env:Env)(h:Heap)(m:Str->TZ)(x:Str)(u:Value):Prop:=
 (env.kindOf x=some .local/\m x=!u)\/((env.kindOf x=some .cell\/env.kindOf x=some .free)/\∃c,env.cells.lookup x=!c/\h.IsCell c (!u))
structure Cx.Ok(X:Cx):Prop where
 mod:Mod X.K X.mg X.base
 kind:X.env.scope.kind=.function
 glob:X.env.globals=mainGlobals
 blt:X.env.builtins=builtinsNs
 above:X.s₀.heap.objs.size<=X.env.locals
 inj:∀x y c,X.env.cells.lookup x=!c->X.env.cells.lookup y=!c->x=y
 has:∀x,(X.env.kindOf x=some .cell\/X.env.kindOf x=some .free)->∃c,X.env.cells.lookup x=!c
 cab:∀x c,X.fn x=true->X.env.cells.lookup x=!c->X.s₀.heap.objs.size<=c
 hd:X.calm=true->X.A.handled=none
 frames:X.A.frames=!X.stack
 stk:X.stack=X.outer\/(X.stack=X.env::X.outer/\X.env.frame=!X.env.locals)
 exf:∀b∈X.ex,b≠X.env.locals/\∀x c,X.env.cells.lookup x=!c->c≠b
 bs:∀b o,X.base.get? b=!o->X.s₀.heap.get? b=!o/\X.H₀ b=none
 bsz:X.base.objs.size<=X.s₀.heap.objs.size
 noex:∀b o,X.base.get? b=!o->b ∉ X.ex
 exfs:∀b∈X.ex,b ∉ X.fs
 funs:X.s₀.heap.FunFrames X.base X.outer
 frf:∀b∈X.fs,X.H₀ b=none
structure Inv(X:Cx)(pins:TU)(σ:List (Option V))(H:Hp)(s:Shared):Prop where
 ok:X.Ok
 os:s.os=X.s₀.os
 bare:AllBare s.gens
 base:Un X.fs X.ex X.H₀ H X.s₀.heap s.heap
 loc:∃m,s.heap.Ns X.env.locals m/\∀(i:Nat)(x:Str)(v:V),X.N[i]?=!x->σ[i]?=!(!v)->tO X.env.scope x->∃u,RelV v u/\O9 X.env s.heap m x u
 cell:∀x c,X.env.cells.lookup x=!c->∃v,s.heap.IsCell c v
 free:H X.env.locals=none
 freeC:∀x c,X.env.cells.lookup x=!c->H c=none
 pin:∀p∈X.pn++pins,s.heap.get? p.1=!p.2/\H p.1=none/\p.1≠X.env.locals/\p.1 ∉ X.fs/\∀v,p.2.data≠.cell v
 hok:HOk X.prog X.w H s.heap
 len:σ.length=X.N.length
section
variable{X:Cx}{pins:TU}{σ:List (Option V)}{H H':Hp}{s:Shared}{h':Heap}
def Cx.Ok.nofr(ok:X.Ok)(e:X.base.get? b=!o):b ∉ X.fs:=λg=>by
 have:=(ok.funs.mem g).1;grind
def Inv.bs(I:Inv X pins σ H s):∀b o,X.base.get? b=!o->s.heap.get? b=!o/\H b=none:=λb o e=>
 ⟨I.base.keep b o (I.ok.bs b o e).1 (I.ok.bs b o e).2 (I.ok.nofr e) (I.ok.noex b o e),I.base.free b o (I.ok.bs b o e).1 (I.ok.bs b o e).2 (I.ok.noex b o e)⟩
def Inv.bk(I:Inv X pins σ H s):∀b o,X.base.get? b=!o->s.heap.get? b=!o:=λb o e=>(I.bs b o e).1
def Inv.mod(I:Inv X pins σ H s):Mod X.K X.mg X.base:=I.ok.mod
def Inv.kIn(I:Inv X pins σ H s):X.K.In s.heap:=I.ok.mod.kin.keeps I.bk
def Inv.lt(I:Inv X pins σ H s):X.env.locals<s.heap.objs.size:=let⟨_,g,_⟩:=I.loc;g.lt
def Inv.sz(I:Inv X pins σ H s):X.s₀.heap.objs.size<=s.heap.objs.size:=Ur I.ok.above (Uy I.lt)
def Inv.nofs(I:Inv X pins σ H s){a:Addr}(h:s.heap.objs.size<=a):a ∉ X.fs:=λj=>by
 let⟨_,o,g,_⟩:=I.ok.funs.mem j;exact absurd (Up (Uh g) (Ur I.sz h)) (Ux _)
def Inv.cne(I:Inv X pins σ H s):∀x c,X.env.cells.lookup x=!c->c≠X.env.locals:=λx c e z=>by
 let⟨v,o,l,hd⟩:=I.cell x c e;let⟨m,⟨o',es,p,g,j,_⟩,_⟩:=I.loc;grind
def Inv.funs(I:Inv X pins σ H s):s.heap.FunFrames X.base X.outer:=by
 have all:∀(l:List Env),(∀b∈frs l,b∈X.fs)->X.s₀.heap.FunFrames X.base l->s.heap.FunFrames X.base l:=by
  intro l;induction l with
  |nil=>intro _ _;trivial
  |cons env r ih=>
   intro hs hl;let⟨hk,⟨L,o,hf,hn,ho,hd⟩,hr⟩:=hl;have hL:L∈X.fs:=hs L (by unfold frs;rw[List.filterMap_cons,hf];exact Ul);let⟨sl,e⟩:=I.base.slot L o ho (I.ok.frf L hL) hL λz=>I.ok.exfs L z hL;exact⟨hk,⟨L,_,hf,hn,e,hd⟩,ih (λb hb=>hs b (by unfold frs;rw[List.filterMap_cons,hf];exact Um _ hb)) hr⟩
 exact all X.outer (λ_ hb=>hb) I.ok.funs
def Inv.stack(I:Inv X pins σ H s):s.heap.FunFrames X.base X.stack:=by
 rcases I.ok.stk with e|⟨e,j⟩
 .rw[e];exact I.funs
 .rw[e];let⟨m,g,_⟩:=I.loc;refine .cons (by rw[I.ok.kind];decide) j g ?_ I.funs;exact Heap.get?_none_of_le (Ur I.ok.bsz I.ok.above)
def Inv.stkSub(I:Inv X pins σ H s):∀b∈frs X.stack,b∈X.env.locals::X.fs:=λb g=>by
 rcases I.ok.stk with e|⟨e,j⟩
 .rw[e]at g;exact Um _ g
 .rw[e]at g;unfold frs at g;rw[List.filterMap_cons,j]at g;exact g
def Inv.stkFree(I:Inv X pins σ H s):∀b∈frs X.stack,H b=none:=λb hb=>by
 rcases mem_cons.mp (I.stkSub b hb)with e|hb
 .rw[e];exact I.free
 .let⟨_,o,ho,_⟩:=I.ok.funs.mem hb;exact I.base.free b o ho (I.ok.frf b hb) λz=>I.ok.exfs b z hb
def Inv.step{g':Array GenState}{t':Nat}{d':Drawn}{ch:List Addr}(I:Inv X pins σ H s)
  (hch:∀b∈ch,(b∈X.ex\/X.s₀.heap.objs.size<=b)/\b≠X.env.locals/\(∀x c,X.env.cells.lookup x=!c->c≠b)/\∀p∈X.pn++pins,p.1≠b)
  (keep:∀b o,b≠X.env.locals->b ∉ X.fs->b ∉ ch->s.heap.get? b=!o->H b=none->h'.get? b=!o)
  (slot:∀b o,b≠X.env.locals->b∈X.fs->b ∉ ch->s.heap.get? b=!o->H b=none->∃sl,h'.get? b=some {o with slots:=sl}) (free:∀b o,b ∉ ch->s.heap.get? b=!o->H b=none->H' b=none)
  (there:∀b o,b ∉ ch->s.heap.get? b=!o->∃o',h'.get? b=!o')
  (tups:∀b xs,H b=!(.tup xs)->H' b=!(.tup xs)) (frzs:∀b o u,H b=!(.frz o u)->H' b=!(.frz o u)) (tbls:∀b ps,H b=!(.tbl ps)->∃more,H' b=!(.tbl (ps++more)))
  (ns:∀m,s.heap.Ns X.env.locals m->h'.Ns X.env.locals m) (hok:HOk X.prog X.w H' h') (hg:AllBare g'):
  Inv X pins σ H' {s with heap:=h',gens:=g',drawn:=d',toks:=t'}:=by
 have neL:∀b o,X.s₀.heap.get? b=!o->b≠X.env.locals:=λb o e=>Us (Up (Uh e) I.ok.above)
 have neC:∀b o,X.s₀.heap.get? b=!o->b ∉ X.ex->b ∉ ch:=λb o e hx hb=>by
  rcases(hch b hb).1 with z|z
  .exact hx z
  .exact absurd (Up (Uh e) z) (Ux _)
 have cellK:∀x c,X.env.cells.lookup x=!c->∀v,s.heap.IsCell c v->h'.IsCell c v:=λx c e v ⟨o,ho,hd⟩=>by
  have nch:c ∉ ch:=λz=>(hch c z).2.2.1 x c e rfl;by_cases hc:c∈X.fs
  .let⟨sl,q⟩:=slot c o (I.cne x c e) hc nch ho (I.freeC x c e);exact⟨_,q,hd⟩
  .exact⟨o,keep c o (I.cne x c e) hc nch ho (I.freeC x c e),hd⟩
 refine⟨I.ok,I.os,hg,⟨λb o e n hb hx=>?_,λb o e n hb hx=>?_,λb o e n hx=>?_,λb o e hx=>?_,λb xs e=>tups b xs (I.base.tups b xs e),λb o xs e=>frzs b o xs (I.base.frzs b o xs e),λb ps e=>?_⟩,?_,λx c e=>?_,?_,λx c e=>?_,λp hp=>?_,hok,I.len⟩
 .exact keep b o (neL b o e) hb (neC b o e hx) (I.base.keep b o e n hb hx) (I.base.free b o e n hx)
 .let⟨sl,e1⟩:=I.base.slot b o e n hb hx;let⟨sl',e2⟩:=slot b _ (neL b o e) hb (neC b o e hx) e1 (I.base.free b o e n hx);exact⟨sl',e2⟩
 .let⟨o',e1⟩:=I.base.there b o e hx;exact free b o' (neC b o e hx) e1 (I.base.free b o e n hx)
 .let⟨o',e1⟩:=I.base.there b o e hx;exact there b o' (neC b o e hx) e1
 .let⟨m1,e1⟩:=I.base.tbls b ps e;let⟨m2,e2⟩:=tbls b _ e1;exact⟨m1++m2,by rw[e2,Array.append_assoc]⟩
 .let⟨m,hn,hl⟩:=I.loc;refine⟨m,ns m hn,λi x v e1 e2 e3=>?_⟩;let⟨u,r,l⟩:=hl i x v e1 e2 e3;refine⟨u,r,?_⟩;rcases l with l|⟨k,c,e,z⟩
  .exact .inl l
  .exact .inr ⟨k,c,e,cellK x c e _ z⟩
 .let⟨v,z⟩:=I.cell x c e;exact⟨v,cellK x c e v z⟩
 .let⟨m,⟨o,_,_,ho,_⟩,_⟩:=I.loc;exact free _ o (λz=>(hch _ z).2.1 rfl) ho I.free
 .let⟨v,o,ho,hd⟩:=I.cell x c e;exact free c o (λz=>(hch c z).2.2.1 x c e rfl) ho (I.freeC x c e)
 .let⟨e,n,ne,nf,d⟩:=I.pin p hp;have nch:p.1 ∉ ch:=λz=>(hch p.1 z).2.2.2 p hp rfl;exact⟨keep p.1 p.2 ne nf nch e n,free p.1 p.2 nch e n,ne,nf,d⟩
def Inv.un(I:Inv X pins σ H s)(u:Un X.fs [] H H' s.heap h')(hok:HOk X.prog X.w H' h'):Inv X pins σ H' {s with heap:=h',toks:=t'}:=by
 let⟨m,⟨o,es,ep,ho,r⟩,_⟩:=id I.loc;let⟨sl,hL⟩:=u.any ho I.free (by simp);exact I.step (ch:=[]) (λ_ z=>nomatch z) (λb o _ hb _ e n=>u.keep b o e n hb (by simp)) (λb o _ hb _ e n=>u.slot b o e n hb (by simp)) (λb o _ e n=>u.free b o e n (by simp)) (λb o _ e=>u.there b o e (by simp)) u.tups u.frzs u.tbls (λm' hm=>by
  let⟨o',es',ep',ho',r'⟩:=hm;rw[ho]at ho';cases ho';exact⟨_,es',ep',hL,r'⟩) hok I.bare
def Inv.call(I:Inv X pins σ H s)(u:Un (frs X.stack) ch H H' s.heap h')(t:HOk X.prog X.w H' h')(hg:AllBare g')(l:∀b∈ch,(b∈X.ex\/X.s₀.heap.objs.size<=b)/\b≠X.env.locals/\(∀x c,X.env.cells.lookup x=!c->c≠b)/\∀p∈X.pn++pins,p.1≠b):
  Inv X pins σ H' {s with heap:=h',gens:=g',drawn:=d',toks:=t'}:=by
 let⟨m,⟨o,es,ep,U,r⟩,_⟩:=id I.loc
 let⟨sl,C⟩:=u.any U I.free λz=>(l _ z).2.1 rfl
 exact I.step l (λb o C hb g e n=>u.keep b o e n (λz=>(mem_cons.mp (I.stkSub b z)).elim C hb) g) (λb o _ _ g e n=>u.any e n g) (λb o g e n=>u.free b o e n g) (λb o g e=>u.there b o e g) u.tups u.frzs u.tbls (λm' hm=>by
  let⟨o',J,T,j,r'⟩:=hm;rw[U]at j;cases j;exact⟨_,J,T,C,r'⟩) t hg
def Inv.turned(I:Inv X pins σ H s)(k:∀b o,b≠it->s.heap.get? b=!o->h'.get? b=!o)(hn:H it=none)(hL:it≠X.env.locals)(h1:it∈X.ex\/X.s₀.heap.objs.size<=it)(h2:∀x c,X.env.cells.lookup x=!c->c≠it)(h3:∀p∈X.pn++pins,p.1≠it):Inv X pins σ H {s with heap:=h',toks:=t'}:=by
 have nit:∀b u,H b=!u->b≠it:=λb u e z=>by rw[z,hn]at e;cases e
 refine I.step (ch:=[it]) (λb hb=>?_) (λb o _ _ hc e _=>k b o (λz=>hc (by simp[z])) e) (λb o _ _ hc e _=>⟨o.slots,k b o (λz=>hc (by simp[z])) e⟩) (λ_ _ _ _ n=>n)
  (λb o hc e=>⟨o,k b o (λz=>hc (by simp[z])) e⟩) (λ_ _ e=>e) (λ_ _ _ e=>e) (λb ps e=>⟨#[],by rw[e];simp⟩) (λm hm=>?_) (λb u e=>?_) I.bare
 .have e:b=it:=by simpa using hb
  subst e;exact⟨h1,hL,h2,h3⟩
 .let⟨o,es,ep,ho,r⟩:=hm;exact⟨o,es,ep,k _ o (Ne.symm hL) ho,r⟩
 .refine(I.hok b u e).stay (λc v hc q=>k c v ?_ q) (λ_ q=>q) λ_ _ q=>q;rcases hc with z|z
  .rw[z];exact nit b u e
  .exact nit c _ z
def Inv.tok(I:Inv X pins σ H s)(t:Nat):Inv X pins σ H {s with toks:=t}:=I.un Un.refl I.hok
def Inv.kept(I:Inv X pins σ H s)(k:∀b u,s.heap.get? b=!u->h'.get? b=!u):Inv X pins σ H {s with heap:=h',toks:=t'}:=I.un (Un.kept k) (I.hok.kept k)
def Inv.laid{a:Addr}(I:Inv X pins σ H s)(k:∀b u,s.heap.get? b=!u->h'.get? b=!u)(hp:s.heap.objs.size<=a)(new:ObjOk X.prog X.w (upd H a o) h' a o):
 Inv X pins σ (upd H a o) {s with heap:=h',toks:=t'}:=I.un (Un.laid k hp (I.hok.fresh hp)) (I.hok.laid k hp new)
def Inv.write(I:Inv X pins σ H s)(mu:K9 (H x))(he:e=x\/H e=!(.own x))(k:∀b u,b≠e->s.heap.get? b=!u->h'.get? b=!u)(heo:∃u,h'.get? e=!u)(new:ObjOk X.prog X.w (upd H x o) h' x o):Inv X pins σ (upd H x o) {s with heap:=h',toks:=t'}:=I.un (Un.write mu he k heo) (I.hok.write mu he k heo new)
def Inv.weak(I:Inv X pins σ H s)(o:g.length=σ.length)(w:∀(i:Nat) v,g[i]?=!(!v)->σ[i]?=!(!v)):Inv X pins g H s:=
 ⟨I.ok,I.os,I.bare,I.base,let⟨m,l,j⟩:=I.loc;⟨m,l,λi x v r e2 p=>j i x v r (w i v e2) p⟩,I.cell,I.free,I.freeC,I.pin,I.hok,o.trans I.len⟩
def Inv.pins_of(I:Inv X pins σ H s)(h:∀p∈g,s.heap.get? p.1=!p.2/\H p.1=none/\p.1≠X.env.locals/\p.1 ∉ X.fs/\∀v,p.2.data≠.cell v):Inv X g σ H s:=
 ⟨I.ok,I.os,I.bare,I.base,I.loc,I.cell,I.free,I.freeC,λp j=>(mem_append.mp j).elim (λz=>I.pin p (Uv _ z)) (h p),I.hok,I.len⟩
def mE{N:T3}(g:N.Nodup){i j:Nat}(a:N[i]?=!x)(b:N[j]?=!x):i=j:=by
 let⟨h1,l⟩:=Uk.mp a;let⟨h2,e2⟩:=Uk.mp b;exact(List.getElem_inj g).mp (l.trans e2.symm)
def oO(I:Inv X pins σ H s)(hN:X.N.Nodup)(hi:X.N[i]?=!x)(J:Co X.env.scope x)(r:RelV v u)(h:∀s',Inv X pins (σ.set i (!v)) H s'->(∃a,Heap.SameBut a s.heap s'.heap/\(a=X.env.locals\/X.env.cells.lookup x=!a))->Q () s')(hf:X.fn x=true\/X.env.scope.names.lookup x=some .local:=by first|exact .inl rfl|exact .inr rfl|assumption):wpAny M A (storeName X.env x u) Q E s:=by
 let⟨m,hn,hl⟩:=id I.loc;have hcls:(X.env.scope.kind==.class||(X.env.scope.kind==.module&&X.env.locals !=X.env.globals))=false:=by rw[I.ok.kind];rfl
 have hiσ:i<σ.length:=by rw[I.len];exact(Uk.mp hi).1
 have cne:=I.cne;have l:∀{a:Addr}{h':Heap},(∃o,s.heap.get? a=!o/\H a=none)->Heap.SameBut a s.heap h'->HOk X.prog X.w H h':=λ{a h'} ha g b ob e=>by
  let⟨_,_,T⟩:=ha;refine(I.hok b ob e).stay (λc w' C q=>(g.2 c ?_).trans q) (λ_ q=>q) λ_ _ q=>q;rintro rfl;rcases C with rfl|C
  .rw[T]at e;cases e
  .rw[T]at C;cases C
 rcases J with U|U
 .refine wpAny_storeName_local U hn (λh' hn' g=>?_) hcls;let⟨oL,_,_,hoL,_⟩:=id hn;refine h _ ⟨I.ok,I.os,I.bare,⟨λb o e n hb J=>?_,λb o e n hb J=>?_,I.base.free,λb o e J=>?_,I.base.tups,I.base.frzs,I.base.tbls⟩,⟨_,hn',λj y v' t e2 e3=>?_⟩,λy c e=>?_,I.free,I.freeC,λp hp=>?_,l ⟨oL,hoL,I.free⟩ g,by simpa using I.len⟩ ⟨_,g,.inl rfl⟩
  .exact(g.2 b (Us (Up (Uh e) I.ok.above))).trans (I.base.keep b o e n hb J)
  .let⟨sl,t⟩:=I.base.slot b o e n hb J;exact⟨sl,(g.2 b (Us (Up (Uh e) I.ok.above))).trans t⟩
  .let⟨o',t⟩:=I.base.there b o e J;exact⟨o',(g.2 b (Us (Up (Uh e) I.ok.above))).trans t⟩
  .by_cases hj:j=i
   .subst hj;rw[hi]at t;cases t;rw[List.getElem?_set_self hiσ]at e2;cases e2;exact⟨u,r,.inl ⟨U,by simp⟩⟩
   .rw[List.getElem?_set_ne (Ne.symm hj)]at e2;let⟨u',r',q⟩:=hl j y v' t e2 e3;refine⟨u',r',?_⟩;rcases q with⟨k,e⟩|⟨k,c,e,z⟩
    .refine .inl ⟨k,?_⟩;have:y≠x:=λe=>hj (mE hN t (e▸hi));simp[this,e]
    .exact .inr ⟨k,c,e,z.sameBut g (cne y c e)⟩
  .let⟨w',z⟩:=I.cell y c e;exact⟨w',z.sameBut g (cne y c e)⟩
  .let⟨e,n,ne,nf,d⟩:=I.pin p hp;exact⟨(g.2 p.1 ne).trans e,n,ne,nf,d⟩
 .have hfn:X.fn x=true:=by
   rcases hf with z|z
   .exact z
   .rw[z]at U;cases U
  let⟨c,C⟩:=I.ok.has x (.inl U);let⟨w',z⟩:=I.cell x c C;refine wpAny_storeName_cell I.ok.kind U C z (λh' hc' g=>?_);let⟨oc,hoc,hocd⟩:=id z;refine h {s with heap:=h'} ⟨I.ok,I.os,I.bare,⟨λb o e n hb J=>?_,λb o e n hb J=>?_,I.base.free,λb o e J=>?_,I.base.tups,I.base.frzs,I.base.tbls⟩,⟨m,hn.sameBut g (Ne.symm (cne x c C)),λj y v' t e2 e3=>?_⟩,λy c' e=>?_,I.free,I.freeC,λp hp=>?_,l ⟨oc,hoc,I.freeC x c C⟩ g,by simpa using I.len⟩ ⟨c,g,.inr C⟩
  .exact(g.2 b (Us (Up (Uh e) (I.ok.cab x c hfn C)))).trans (I.base.keep b o e n hb J)
  .let⟨sl,t⟩:=I.base.slot b o e n hb J;exact⟨sl,(g.2 b (Us (Up (Uh e) (I.ok.cab x c hfn C)))).trans t⟩
  .let⟨o',t⟩:=I.base.there b o e J;exact⟨o',(g.2 b (Us (Up (Uh e) (I.ok.cab x c hfn C)))).trans t⟩
  .by_cases hj:j=i
   .subst hj;rw[hi]at t;cases t;rw[List.getElem?_set_self hiσ]at e2;cases e2;exact⟨u,r,.inr ⟨.inl U,c,C,hc'⟩⟩
   .rw[List.getElem?_set_ne (Ne.symm hj)]at e2;let⟨u',r',q⟩:=hl j y v' t e2 e3;refine⟨u',r',?_⟩;rcases q with q|⟨k,c',e,z'⟩
    .exact .inl q
    .refine .inr ⟨k,c',e,z'.sameBut g ?_⟩;rintro rfl;exact hj (mE hN t (I.ok.inj _ _ _ e C▸hi))
  .by_cases hcc:c'=c
   .subst hcc;exact⟨_,hc'⟩
   .let⟨w2,z2⟩:=I.cell y c' e;exact⟨w2,z2.sameBut g hcc⟩
  .let⟨e,n,ne,nf,d⟩:=I.pin p hp;refine⟨(g.2 p.1 ?_).trans e,n,ne,nf,d⟩;intro q;rw[q,hoc]at e;have q':=Option.some.inj e;exact d w' (by rw[<-q'];exact hocd)
def mF(I:Inv X pins σ H s)(l:X.N.Nodup)(hi:X.N[i]?=!x)(g:Co X.env.scope x)(r:RelV v u)(h:∀s',Inv X pins (σ.set i (!v)) H s'->Q () s')(j:X.fn x=true\/X.env.scope.names.lookup x=some .local:=by first|exact .inl rfl|exact .inr rfl|assumption):wpAny M A (storeName X.env x u) Q E s:=
 oO I l hi g r (λs' o _=>h s' o) j
def Inv.call'(I:Inv X pins σ H s)(l:s'.os=s.os)(u:Un (frs X.stack) r H H' s.heap s'.heap)(g:HOk X.prog X.w H' s'.heap)(o:AllBare s'.gens)(j:∀b∈r,(b∈X.ex\/X.s₀.heap.objs.size<=b)/\b≠X.env.locals/\(∀x c,X.env.cells.lookup x=!c->c≠b)/\∀p∈X.pn++pins,p.1≠b):Inv X pins σ H' s':=by
 let⟨h',C,J,t,o'⟩:=s';have e:=l;subst e;exact I.call u g o j
end
abbrev XK:=Value->Option Addr->Hp->Prop
abbrev St:=List (Option V)
abbrev VK:=V->Hp->Prop
noncomputable abbrev TE:=St->Hp->VK->Prop
noncomputable abbrev TT:=St->Hp->(Bool->Hp->Prop)->Prop
noncomputable abbrev TA:=St->Hp->(List V->Hp->Prop)->Prop
structure Ends where
 nx:St->Hp->Prop
 rt:VK
 bk:St->Hp->Prop:=λ_ _=>False
 ct:St->Hp->Prop:=λ_ _=>False
noncomputable abbrev TS:=Ends->St->Hp->Prop
def  EP(X:Cx)(pins:TU)(σ:St)(Q:VK)(u:Value)(s':Shared):Prop:=∃v H',Inv X pins σ H' s'/\RelV v u/\Q v H'
def  TP(X:Cx)(pins:TU)(σ:St)(Q:Bool->Hp->Prop)(b:Bool)(s':Shared):Prop:=∃H',Inv X pins σ H' s'/\Q b H'
def  AP(X:Cx)(pins:TU)(σ:St)(Q:List V->Hp->Prop)(us:TY)(s':Shared):Prop:=∃vs H',Inv X pins σ H' s'/\Vals vs us/\Q vs H'
def  SP(X:Cx)(pins:TU)(D:Ends)(f:Flow)(s':Shared):Prop:=
 match f with
 |.next=>∃σ' H',Inv X pins σ' H' s'/\D.nx σ' H'
 |.brk=>∃σ' H',Inv X pins σ' H' s'/\D.bk σ' H'
 |.cont=>∃σ' H',Inv X pins σ' H' s'/\D.ct σ' H'
 |.ret u=>∃v σ' H',Inv X pins σ' H' s'/\RelV v u/\D.rt v H'
def  PE(X:Cx)(e:Expr)(t:TE):Prop:=
 ∀(pins:TU)(s:Shared)(σ:St)(H:Hp)(Q:VK),Inv X pins σ H s->t σ H Q->wpAny (!5) X.A (eval e X.env) (EP X pins σ Q) X.xe s
def  PT(X:Cx)(e:Expr)(t:TT):Prop:=
 ∀(pins:TU)(s:Shared)(σ:St)(H:Hp)(Q:Bool->Hp->Prop),Inv X pins σ H s->t σ H Q->wpAny (!5) X.A (isTrue e X.env (eval e X.env)) (TP X pins σ Q) X.xe s
def  PW(X:Cx)(e:Expr)(t:TT):Prop:=
 ∀(whole:Sem Value)(pins:TU)(s:Shared)(σ:St)(H:Hp)(Q:Bool->Hp->Prop),Inv X pins σ H s->t σ H Q->wpAny (!5) X.A (isTrue e X.env whole) (TP X pins σ Q) X.xe s
def PW.pt(h:PW X e t):PT X e t:=h _
def  PA(X:Cx)(es:Ua)(t:TA):Prop:=
 ∀(pos:Pos)(pins:TU)(s:Shared)(σ:St)(H:Hp)(Q:List V->Hp->Prop),Inv X pins σ H s->t σ H Q->wpAny (!5) X.A (spliced (!18)) (AP X pins σ Q) X.xe s
def  PS(X:Cx)(st:Stmt)(t:TS):Prop:=
 ∀(pins:TU)(s:Shared)(σ:St)(H:Hp)(D:Ends),Inv X pins σ H s->t D σ H->wpAny (!5) X.A (exec st X.env) (SP X pins D) X.xe s
def  PSs(X:Cx)(st:List Stmt)(t:TS):Prop:=
 ∀(pins:TU)(s:Shared)(σ:St)(H:Hp)(D:Ends),Inv X pins σ H s->t D σ H->wpAny (!5) X.A (execs st X.env) (SP X pins D) X.xe s
def bu{Q g:α->Shared->Prop}(h:wpAny M A t Q E s)(j:∀a s,Q a s->g a s):wpAny M A t g E s:=UC h j λ_ _ x=>x
section
variable{X:Cx}
def  La(i:Nat):TE:=λσ H Q=>∃v,σ[i]?=!(!v)/\Q v H
def  tC(v:V):TE:=λ_ H Q=>Q v H
def da{pos}(U:X.N[i]?=!x)(t:tO X.env.scope x)(hd:(!8)=false:=by decide)(o:(x==("__classdict__":Str))=false:=by decide):PE X (.Name x pos) (La i):=by
 intro pins s σ H Q I h;let⟨v,e,h⟩:=h;let⟨m,C,T⟩:=I.loc;let⟨u,r,l⟩:=T i x v U e t;have fin:EP X pins σ Q u s:=⟨v,H,I,r,h⟩;rcases l with⟨j,J⟩|⟨j,c,p,g⟩
 .exact wpAny_Name (wpAny_loadName_local I.ok.kind j C J fin) hd
 .rcases j with j|j
  .exact wpAny_Name (wpAny_loadName_cell I.ok.kind j p g fin) hd
  .exact wpAny_Name (wpAny_loadName_free I.ok.kind j p g fin o) hd
def pe_int:PE X (.Constant (.int i) j pos) (tC (.int i)):=λ_ _ _ H _ I h=>wpAny_Constant_int ⟨.int i,H,I.tok _,⟨_,rfl⟩,h⟩
def pe_bl:PE X (.Constant (.bool b) j pos) (tC (.bl b)):=λ_ _ _ H _ I h=>Constant_bool ⟨.bl b,H,I,rfl,h⟩
def pe_non:PE X (.Constant .none j pos) (tC .non):=λ_ _ _ H _ I h=>Constant_none ⟨.non,H,I,rfl,h⟩
def pe_str:PE X (.Constant (.str x) j pos) (tC (.str x)):=λ_ _ _ H _ I h=>Calls.Constant_str ⟨.str x,H,I.tok _,⟨_,rfl⟩,h⟩
def  Gl(X:Cx)(x:Str):Prop:=X.env.kindOf x=some .globalImplicit
def gr{σ:St}(I:Inv X pins σ H s)(j:Gl X x)(g:X.mg x=!u)(h:Q u s)(hd:(!8)=false:=by decide):wpAny (!5) X.A (eval (.Name x pos) X.env) Q E s:=
 Calls.Name_function_global I.ok.kind j (Calls.loadGlobal_global (by rw[I.ok.glob];exact I.mod.glob.keeps I.bk) g h) hd
def db{E}{σ:St}{pos}(I:Inv X pins σ H s)(o:Gl X x)(l:X.mg x=none)(g:bootBuiltins x=!u)(h:Q u s)(j:x≠"__name__":=by decide)(hd:(!8)=false:=by decide):wpAny (!5) X.A (eval (.Name x pos) X.env) Q E s:=by
 let⟨p,h1,h2⟩:=I.mod.blt;exact Calls.Name_function_global I.ok.kind o (Calls.loadGlobal_builtin (by rw[I.ok.glob];exact I.mod.glob.keeps I.bk) l (by rw[I.ok.blt];exact h1.keeps I.bk) ((h2 x j).trans g) h) hd
def vo(j:Gl X x)(g:X.mg x=!u)(r:RelV v u)(hd:(!8)=false:=by decide):PE X (.Name x pos) (tC v):=
 λ_ _ _ H _ I h=>gr I j g ⟨v,H,I,r,h⟩ hd
def vp{pos}(o:Gl X x)(l:X.mg x=none)(g:bootBuiltins x=!u)(r:RelV v u)(j:x≠"__name__":=by decide)(hd:(!8)=false:=by decide):PE X (.Name x pos) (tC v):=
 λ_ _ _ H _ I h=>db I o l g ⟨v,H,I,r,h⟩ j hd
variable{a b:Expr}{ta tb:TE}{pos:Pos}
variable{tA tB':TT}{rest:Ua}
def  Pa(t u:TT):TT:=λσ H Q=>t σ H λc H1=>if c=true then u σ H1 Q else Q false H1
def  S3(t u:TT):TT:=λσ H Q=>t σ H λc H1=>if c=true then Q true H1 else u σ H1 Q
def  Pb(t:TT):TT:=λσ H Q=>t σ H λc H1=>Q (not c) H1
def pw_and1(g:PT X a tA):PW X (.BoolOp .And [a] pos) tA:=by
 intro j pins s σ H Q I h;refine isTrue_and (bu (g pins s σ H Q I h) λc l e=>?_);cases c with
 |true=>exact isTrue_and_nil e
 |false=>exact e
def pw_or1(g:PT X a tA):PW X (.BoolOp .Or [a] pos) tA:=by
 intro j pins s σ H Q I h;refine isTrue_or (bu (g pins s σ H Q I h) λc l e=>?_);cases c with
 |false=>exact isTrue_or_nil e
 |true=>exact e
def pw_and(r:PT X a tA)(p:PW X (.BoolOp .And (b::rest) pos) tB'):PW X (.BoolOp .And (a::b::rest) pos) (Pa tA tB'):=by
 intro l pins s σ H Q I h;refine isTrue_and (bu (r pins s σ H _ I h) λc o ⟨H1,j,g⟩=>?_);cases c with
 |true=>exact p l pins o σ H1 Q j g
 |false=>exact⟨H1,j,g⟩
def pw_or(r:PT X a tA)(p:PW X (.BoolOp .Or (b::rest) pos) tB'):PW X (.BoolOp .Or (a::b::rest) pos) (S3 tA tB'):=by
 intro l pins s σ H Q I h;refine isTrue_or (bu (r pins s σ H _ I h) λc o ⟨H1,j,g⟩=>?_);cases c with
 |true=>exact⟨H1,j,g⟩
 |false=>exact p l pins o σ H1 Q j g
def GM(g:PT X a tA):PT X (.UnaryOp .Not a pos) (Pb tA):=by
 intro pins s σ H Q I h;exact isTrue_not (g pins s σ H (λc H1=>Q (not c) H1) I h)
def  Lb(ta tb:TE):TE:=λσ H Q=>ta σ H λx H1=>∃c,x=.bl c/\if c=true then tb σ H1 Q else Q (.bl false) H1
def  Pc(ta tb:TE):TE:=λσ H Q=>ta σ H λx H1=>∃c,x=.bl c/\if c=true then Q (.bl true) H1 else tb σ H1 Q
def  Lc(ta:TE):TE:=λσ H Q=>ta σ H λx H1=>∃c,x=.bl c/\Q (.bl (not c)) H1
def GN(h:PE X a t):PE X (.BoolOp op [a] pos) t:=λpins s σ H Q I g=>BoolOp_one (h pins s σ H Q I g)
def GO(r:PE X a ta)(p:PE X (.BoolOp .And (b::rest) pos) tb):PE X (.BoolOp .And (a::b::rest) pos) (Lb ta tb):=by
 intro pins s σ H Q I h;refine BoolOp_and (bu (r pins s σ H _ I h) λv l ⟨x,H1,j,o,g⟩=>?_);let⟨c,rfl,g⟩:=g;cases o;refine wpAny_truthy_bool ?_;cases c with
 |true=>exact p pins l σ H1 Q j g
 |false=>exact⟨.bl false,H1,j,rfl,g⟩
def Ld(ha:PE X a ta)(hb:PE X (.BoolOp .Or (b::rest) pos) tb):PE X (.BoolOp .Or (a::b::rest) pos) (Pc ta tb):=by
 intro pins s σ H Q I h;refine BoolOp_or (bu (ha pins s σ H _ I h) λv s1 ⟨x,H1,I1,r1,q1⟩=>?_);let⟨c,rfl,q1⟩:=q1;cases r1;refine wpAny_truthy_bool ?_;cases c with
 |false=>exact hb pins s1 σ H1 Q I1 q1
 |true=>exact⟨.bl true,H1,I1,rfl,q1⟩
def GP(l:PE X a ta):PE X (.UnaryOp .Not a pos) (Lc ta):=by
 intro pins s σ H Q I h;refine UnaryOp_ (bu (l pins s σ H _ I h) λv p ⟨x,H1,o,j,g⟩=>?_);let⟨c,rfl,g⟩:=g;cases j;exact not_of (wpAny_truthy_bool ⟨.bl (not c),H1,o,rfl,g⟩)
def  S4(t:TT)(ta tb:TE):TE:=λσ H Q=>t σ H λc H1=>if c=true then ta σ H1 Q else tb σ H1 Q
def yC(o:PT X c tA)(r:PE X a ta)(p:PE X b tb):PE X (.IfExp c a b pos) (S4 tA ta tb):=by
 intro pins s σ H Q I h;refine wpAny_IfExp (bu (o pins s σ H _ I h) λd g ⟨H1,l,j⟩=>?_);cases d with
 |true=>exact r pins g σ H1 Q l j
 |false=>exact p pins g σ H1 Q l j
end
def  SqL(K:Frag)(H:Hp)(a:Addr)(xs:List V):Prop:=
 Rd H a (.lst xs)\/
  ∃(o:Obj)(its:T7)(n:Nat),K.lookup a=!o/\o.cls=.type "list"/\o.dict=none/\o.data=.seq its n/\its.size<=sizeLine/\Vals xs its.toList
def  SqT(K:Frag)(H:Hp)(a:Addr)(xs:List V):Prop:=
 Rd H a (.tup xs)\/
  ∃(o:Obj)(its:T7)(n:Nat),K.lookup a=!o/\o.cls=.type "tuple"/\o.data=.seq its n/\its.size<=sizeLine/\Vals xs its.toList
noncomputable def  Pd:Value->Option V
 |.none=>some .non
 |.bool b=>!(.bl b)
 |.int i _=>!(.int i)
 |.str x _=>!(.str x)
 |.bytes b _=>!(.byt b)
 |.float b _=>!(.flt b)
 |.ref a=>!(.ref a)
 |.type n=>!(.ty n)
 |_=>none
def RelV.abs(r:RelV x u):Pd u=!x:=by
 cases x with
 |non=>cases r;rfl
 |bl _=>cases r;rfl
 |int _=>let⟨t,rfl⟩:=r;rfl
 |str _=>let⟨t,rfl⟩:=r;rfl
 |byt _=>let⟨t,rfl⟩:=r;rfl
 |flt _=>let⟨t,rfl⟩:=r;rfl
 |ref _=>cases r;rfl
 |ty _=>cases r;rfl
def RelV.inj(r:RelV x u)(q:RelV y u):x=y:=Option.some.inj (r.abs.symm.trans q.abs)
def Vals.inj:∀{xs ys:List V}{us:TY},Vals xs us->Vals ys us->xs=ys
 |_,_,_,.nil,.nil=>rfl
 |_,_,_,.cons r t,.cons r' t'=>by rw[r.inj r',Vals.inj t t']
section
variable{X:Cx}{pins:TU}{σ:St}{H:Hp}{s:Shared}{a:Addr}{xs ys:List V}
def SqL.of{K}(h:H a=!(.lst xs)):SqL K H a xs:=.inl (.inl h)
def SqT.of{K}(h:H a=!(.tup xs)):SqT K H a xs:=.inl (.inl h)
def Inv.list(I:Inv X pins σ H s)(h:SqL X.K H a xs):∃g:TY,Vals xs g/\PlainL s.heap a g.toArray/\xs.length<=sizeLine:=by
 rcases h with h|⟨o,g,n,l,p,hd,j,t,r⟩
 .let⟨z,g,n,r,e⟩:=h.ok I.hok;exact⟨g,r,⟨_,n,e,rfl,rfl,rfl⟩,z⟩
 .refine⟨g.toList,r,⟨o,n,I.kIn a o l,p,hd,by simpa using j⟩,?_⟩;have e:=r.length;simp only[Array.length_toList]at e;omega
def Inv.tuple(I:Inv X pins σ H s)(h:SqT X.K H a xs):∃g:TY,Vals xs g/\IsTup s.heap a g.toArray/\xs.length<=sizeLine:=by
 rcases h with h|⟨o,g,n,l,t,j,C,r⟩
 .let⟨z,g,r,p⟩:=h.ok I.hok;exact⟨g,r,p,z⟩
 .refine⟨g.toList,r,⟨o,I.kIn a o l,t,n,by simpa using j⟩,?_⟩;have e:=r.length;simp only[Array.length_toList]at e;omega
def Inv.list_inj(I:Inv X pins σ H s)(h:SqL X.K H a xs)(h':SqL X.K H a ys):xs=ys:=by
 let⟨j,r,⟨o,n,e,_,_,d⟩,_⟩:=I.list h;let⟨g,t,⟨o',C,l,_,_,p⟩,_⟩:=I.list h';rw[e]at l;cases l;rw[d]at p;injection p with d1 _;have:j=g:=by simpa using congrArg Array.toList d1
 subst this;exact r.inj t
def Inv.tuple_inj(I:Inv X pins σ H s)(h:SqT X.K H a xs)(h':SqT X.K H a ys):xs=ys:=by
 let⟨j,r,⟨o,e,_,n,d⟩,_⟩:=I.tuple h;let⟨g,t,⟨o',l,_,C,p⟩,_⟩:=I.tuple h';rw[e]at l;cases l;rw[d]at p;injection p with d1 _;have:j=g:=by simpa using congrArg Array.toList d1
 subst this;exact r.inj t
end
noncomputable abbrev Cx.wish(X:Cx)(E:TX):Cx:={X with xe:=E}
abbrev Cx.nox(X:Cx):Cx:=X.wish λ_ _=>False
def Cx.Ok.wish{X:Cx}(ok:X.Ok)(E:TX):(X.wish E).Ok:=
 ⟨ok.mod,ok.kind,ok.glob,ok.blt,ok.above,ok.inj,ok.has,ok.cab,ok.hd,ok.frames,ok.stk,ok.exf,ok.bs,ok.bsz,ok.noex,ok.exfs,ok.funs,ok.frf⟩
def Cx.Ok.unwish{X:Cx}(ok:(X.wish E).Ok):X.Ok:=
 ⟨ok.mod,ok.kind,ok.glob,ok.blt,ok.above,ok.inj,ok.has,ok.cab,ok.hd,ok.frames,ok.stk,ok.exf,ok.bs,ok.bsz,ok.noex,ok.exfs,ok.funs,ok.frf⟩
section
variable{X:Cx}{pins:TU}{σ:St}{H:Hp}{s:Shared}{E:TX}
def Inv.wish(I:Inv X pins σ H s)(E:TX):Inv (X.wish E) pins σ H s:=⟨I.ok.wish E,I.os,I.bare,I.base,I.loc,I.cell,I.free,I.freeC,I.pin,I.hok,I.len⟩
def Inv.unwish(I:Inv (X.wish E) pins σ H s):Inv X pins σ H s:=⟨I.ok.unwish,I.os,I.bare,I.base,I.loc,I.cell,I.free,I.freeC,I.pin,I.hok,I.len⟩
def SP.unwish{D}(h:SP (X.wish E) pins D f s'):SP X pins D f s':=by
 cases f with
 |next=>let⟨g,H',I,q⟩:=h;exact⟨g,H',I.unwish,q⟩
 |brk=>let⟨g,H',I,q⟩:=h;exact⟨g,H',I.unwish,q⟩
 |cont=>let⟨g,H',I,q⟩:=h;exact⟨g,H',I.unwish,q⟩
 |ret u=>let⟨v,g,H',I,r,q⟩:=h;exact⟨v,g,H',I.unwish,r,q⟩
def PSs.nox{st}(h:PSs X.nox st t):PSs X st t:=λpins s σ H D I g=>
 UC (h pins s σ H D (I.wish _) g) (λ_ _ q=>q.unwish) λ_ _ z=>False.elim z
end
section
variable{X:Cx}{st:Stmt}{rest:List Stmt}{t u:TS}{e:Expr}{te:TE}{pos:Pos}
def  yD:TS:=λD σ H=>D.nx σ H
def  Pe(t u:TS):TS:=λD σ H=>t {D with nx:=u D} σ H
def pss_nil:PSs X [] yD:=λ_ _ σ H _ I h=>wpAny_execs_nil ⟨σ,H,I,h⟩
def mG(h1:PS X st t)(h2:PSs X rest u):PSs X (st::rest) (Pe t u):=by
 intro pins s σ H D I h;refine wpAny_execs_cons (bu (h1 pins s σ H {D with nx:=u D} I h) λf j q=>?_);cases f with
 |next=>
  let⟨g,H',l,q⟩:=q;exact h2 pins j g H' D l q
 |ret v=>exact q
 |brk=>exact q
 |cont=>exact q
def  GQ:TS:=λD σ H=>D.bk σ H
def  Le:TS:=λD σ H=>D.ct σ H
def ps_pass:PS X (.Pass pos) yD:=λ_ _ σ H _ I h=>wpAny_Pass ⟨σ,H,I,h⟩
def ps_break:PS X (.Break pos) GQ:=λ_ _ σ H _ I h=>wpAny_Break ⟨σ,H,I,h⟩
def ps_continue:PS X (.Continue pos) Le:=λ_ _ σ H _ I h=>wpAny_Continue ⟨σ,H,I,h⟩
def Inv.quiet{σ:St}(I:Inv X pins σ H s):interactive X.env=false:=by simp[interactive,I.ok.kind]
def ps_doc:PS X (.Expr (.Constant (.str x) j pos) pos') yD:=λ_ s σ H _ I h=>wpAny_Expr (Calls.Constant_str (⟨σ,H,I.tok _,h⟩)) I.quiet
def  Lf(te:TE):TS:=λD σ H=>te σ H λ_ H1=>D.nx σ H1
def gu(l:PE X e te)(j:swapsWith e none pos.line X.env=pure false:=by rfl):PS X (.Expr e pos) (Lf te):=by
 intro pins s σ H D I h;exact wpAny_Expr_any (bu (l pins s σ H _ I h) λv p ⟨x,H1,o,r,g⟩=>⟨σ,H1,o,g⟩) I.quiet j
def  Pf(te:TE):TS:=λD σ H=>te σ H D.rt
def tR(l:PE X e te):PS X (.Return (!e) pos) (Pf te):=by
 intro pins s σ H D I h;exact wpAny_Return_some (bu (l pins s σ H _ I h) λv p ⟨x,H1,o,g,j⟩=>⟨x,σ,H1,o,g,j⟩)
def  Lg:TS:=λD _ H=>D.rt .non H
def ps_retN:PS X (.Return none pos) Lg:=λ_ _ σ H _ I h=>wpAny_Return_none ⟨.non,σ,H,I,rfl,h⟩
def  Pg(c:TT)(t u:TS):TS:=λD σ H=>c σ H λb H1=>if b=true then t D σ H1 else u D σ H1
def yE(o:PT X c tc)(r:PSs X a t)(p:PSs X b u):PS X (.If c a b pos) (Pg tc t u):=by
 intro pins s σ H D I h;refine wpAny_If (bu (o pins s σ H _ I h) λd g ⟨H1,l,j⟩=>?_);cases d with
 |true=>exact r pins g σ H1 D l j
 |false=>exact p pins g σ H1 D l j
def  yF:TS:=λ_ _ _=>False
def ps_never:PS X st yF:=λ_ _ _ _ _ _ h=>h.elim
def pss_never:PSs X J yF:=λ_ _ _ _ _ _ h=>h.elim
end
abbrev TG:=V->St->Hp->(St->Hp->Prop)->Prop
abbrev Ft:=List V->St->Hp->(St->Hp->Prop)->Prop
def  PG(X:Cx)(target:Expr)(t:TG):Prop:=
 ∀(pins:TU)(s:Shared)(σ:St)(H:Hp)(v:V)(u:Value)(Q:St->Hp->Prop),Inv X pins σ H s->RelV v u->t v σ H Q->
  wpAny (!5) X.A (assign target X.env u) (λ_ s'=>∃σ' H',Inv X pins σ' H' s'/\Q σ' H') X.xe s
def  PGs(X:Cx)(ts:Ua)(t:Ft):Prop:=
 ∀(pins:TU)(s:Shared)(σ:St)(H:Hp)(vs:List V)(us:TY)(Q:St->Hp->Prop),Inv X pins σ H s->Vals vs us->t vs σ H Q->
  wpAny (!5) X.A (assignInOrder ((assignEach ts X.env).map (·.2)) us) (λ_ s'=>∃σ' H',Inv X pins σ' H' s'/\Q σ' H') X.xe s
abbrev Lh:=V->V->V->Hp->(Hp->Prop)->Prop
def  Li(X:Cx)(t:Lh):Prop:=
 ∀(pins:TU)(s:Shared)(σ:St)(H:Hp)(o i v:V)(ov iv u:Value)(Q:Hp->Prop),Inv X pins σ H s->RelV o ov->RelV i iv->RelV v u->t o i v H Q->
  wpAny (!5) X.A (setItem ov iv u) (λ_ s'=>∃H',Inv X pins σ H' s'/\Q H') X.xe s
section
variable{X:Cx}{pos:Pos}
def  rE(i:Nat):TG:=λv σ H Q=>Q (σ.set i (!v)) H
def vq(l:X.N.Nodup)(hi:X.N[i]?=!x)(g:Co X.env.scope x)(j:X.fn x=true\/X.env.scope.names.lookup x=some .local:=by first|exact .inl rfl|exact .inr rfl|assumption):PG X (.Name x pos) (rE i):=by
 intro pins s σ H v u Q I r h;exact wpAny_assign_Name (mF I l hi g r (λs' o=>⟨_,H,o,h⟩) j)
def  Ph:Ft:=λvs σ H Q=>vs=[]/\Q σ H
def  Lj(t:TG)(u:Ft):Ft:=λvs σ H Q=>∃v r,vs=v::r/\t v σ H λσ' H'=>u r σ' H' Q
def pgs_nil:PGs X [] Ph:=by
 intro pins s σ H g j Q I r h;let⟨e,h⟩:=h;exact assignInOrder_nil ⟨σ,H,I,h⟩
def rF(h1:PG X e t)(h2:PGs X es u)(p:(assignEach (e::es) X.env).map (·.2)=assign e X.env::(assignEach es X.env).map (·.2):=by rfl):PGs X (e::es) (Lj t u):=by
 intro pins s σ H T us Q I r h;let⟨v,U,C,h⟩:=h;subst C;cases r with
 |cons r l=>
  rw[p];refine assignInOrder_cons (bu (h1 pins s σ H _ _ _ I r h) λ_ j ⟨g,H1,J,o⟩=>?_);exact h2 pins j g H1 _ _ Q J l o
def  Pi(K:Frag)(n:Nat)(t:Ft):TG:=λv σ H Q=>∃a xs,v=.ref a/\SqT K H a xs/\xs.length=n/\t xs σ H Q
def yG{k}(hc:X.calm=true)(h:PGs X es t)(hn:(assignEach es X.env).length=n:=by rfl)(hst:(assignEach es X.env).findIdx? (·.1)=none:=by rfl):PG X (.Tuple es k pos) (Pi X.K n t):=by
 intro pins s σ H v u Q I r hw;let⟨a,xs,e1,hq,hl,hw⟩:=hw;subst e1;cases r;let⟨its,rv,ht,hz⟩:=I.tuple hq;refine assign_Tuple_tuple (I.ok.hd hc) ht (by simp[hn,<-hl,rv.length]) hst λh' hx=>?_;have I1:Inv X pins σ H {s with heap:=h'}:=I.kept λb o e=>hx b o (Us (Uh e)) e;exact h pins _ σ H xs _ Q I1 (by simpa using rv) hw
def  Pj(to ti:TE)(t:Lh):TG:=λv σ H Q=>to σ H λo H1=>ti σ H1 λi H2=>t o i v H2 λH3=>Q σ H3
def GR(ho:PE X o to)(hi:PE X i l)(hs:Li X t)(ha:∀v,assign (.Subscript o i pos) X.env v=(do
  let g<-holding [v] (eval o X.env)
  let j<-holding [v,g] (eval i X.env)
  standAt pos
  holding [v,g,j] (setItem g j v)
  release [v,g,j] []):=by intro _;rfl):PG X (.Subscript o i pos) (Pj to l t):=by
 intro pins s σ H v u Q I r h
 refine Ud (wpAny_holding (bu (ho pins s σ H _ I h) λg C ⟨x,H1,I1,T,q1⟩=>?_))
 refine Ud (wpAny_holding (bu (hi pins C σ H1 _ I1 q1) λj p ⟨y,H2,I2,J,q2⟩=>?_))
 refine Ud (wpAny_standAt (Ud (wpAny_holding (bu (hs pins p σ H2 x y v g j u _ I2 T J r q2) λ_ s3 ⟨H3,I3,U⟩=>?_))))
 exact wpAny_release ⟨σ,H3,I3,U⟩
def  yH(te:TE)(g:TG):TS:=λD σ H=>te σ H λx H1=>g x σ H1 D.nx
def GS(C:PE X e te)(t:PG X tg g)(r:swapsWithSole [tg] e pos.line X.env=pure false:=by rfl)(p:swappedStores [tg] e X.env=pure none:=by rfl)(h1:(assignEach [tg] X.env).map (·.2)=[assign tg X.env]:=by rfl):PS X (.Assign [tg] e pos) (yH te g):=by
 intro pins s σ H D I h;refine wpAny_Assign_stores (bu (C pins s σ H _ I h) λv j ⟨x,H1,J,l,o⟩=>?_) r p;rw[h1];exact bu (t pins j σ H1 x v _ J l o) λ_ T q=>q
def yI(t:X.N.Nodup)(hi:X.N[i]?=!x)(l:Co X.env.scope x)(r:PE X e te)(o:swapsWith e (!(.Name x pos')) pos.line X.env=pure false:=by rfl)(p:X.fn x=true\/X.env.scope.names.lookup x=some .local:=by first|exact .inl rfl|exact .inr rfl|assumption):
  PS X (.Assign [.Name x pos'] e pos) (yH te (rE i)):=by
 intro pins s σ H D I h
 refine wpAny_Assign_Name (bu (r pins s σ H _ I h) λv U ⟨y,H1,J,g,j⟩=>?_) o
 exact mF J t hi l g (λT C=>⟨_,H1,C,j⟩) p
end
structure It where
 go:Nat->Hp->Prop
 yld:Nat->Hp->V->Hp->Prop
 stop:Nat->Hp->Prop
def  jI(X:Cx)(pins:TU)(H:Hp)(b:Addr):Prop:=
 H b=none/\b≠X.env.locals/\b ∉ X.fs/\(b∈X.ex\/X.s₀.heap.objs.size<=b)/\(∀x c,X.env.cells.lookup x=!c->c≠b)/\∀p∈X.pn++pins,p.1≠b
def Inv.fpOk{σ:St}{b:Addr}(I:Inv X pins σ H s)(g:s.heap.objs.size<=b)(l:H' b=none):jI X pins H' b:=by
 refine⟨l,Nat.ne_of_gt (Up I.lt g),I.nofs g,.inr (Ur I.sz g),λx c e z=>?_,λp j z=>?_⟩
 .let⟨v,q⟩:=I.cell x c e;exact absurd (Up q.lt (by rw[z];exact g)) (Ux _)
 .exact absurd (Up (Uh (I.pin p j).1) (by rw[z];exact g)) (Ux _)
structure Turn(P:Program)(w:World)(K:Frag)(tg:Expr)(J:It)(fp:List Addr)(it:Addr)(tn:Nat->Heap->Prop):Prop where
 mem:it∈fp
 obj:∀i h,tn i h->∀b∈fp,∃o,h.get? b=!o/\∀v,o.data≠.cell v
 keep:∀i h h',tn i h->(∀b∈fp,∀o,h.get? b=!o->h'.get? b=!o)->tn i h'
 item:∀(X:Cx),X.prog=P->X.w=w->X.K=K->X.calm=true->∀(i:Nat)(pins:TU)(s:Shared)(σ:St)(H:Hp)(E:TX),Inv X pins σ H s->(∀b∈fp,jI X pins H b)->tn i s.heap->J.go i H->
  wpAny (model P w) X.A (pyNext (.ref it)) (λr s1=>∃u,r=!u/\
   wpAny (model P w) X.A (letOwnedTupleGo tg (.ref it) u) (λ_ s2=>∃x H',Inv X pins σ H' s2/\RelV x u/\J.yld i H x H'/\tn (i+1) s2.heap/\∀b∈fp,H' b=none) E s1) E s
 done:∀(X:Cx),X.prog=P->X.w=w->X.K=K->X.calm=true->∀(i:Nat)(pins:TU)(s:Shared)(σ:St)(H:Hp)(E:TX),Inv X pins σ H s->(∀b∈fp,jI X pins H b)->tn i s.heap->J.stop i H->
  wpAny (model P w) X.A (pyNext (.ref it)) (λr s1=>r=none/\Inv X pins σ H s1) E s
 self:∀(A:Around)(i:Nat)(s:Shared)(Q:TX)(E:TX),tn i s.heap->Q (.ref it) s->wpAny (model P w) A (pyIter (.ref it)) Q E s
noncomputable abbrev TI:=St->Hp->(It->Hp->Prop)->Prop
def  RH(X:Cx)(pins:TU)(σ:St)(tg:Expr)(R:It->Hp->Prop)(itv:Value)(s2:Shared):Prop:=
 ∃(it:Addr)(fp:List Addr)(tn:Nat->Heap->Prop)(J:It)(H':Hp),itv=.ref it/\Inv X pins σ H' s2/\Turn X.prog X.w X.K tg J fp it tn/\tn 0 s2.heap/\(∀b∈fp,jI X pins H' b)/\R J H'
def  PI(X:Cx)(tg iter:Expr)(wi:TI):Prop:=
 ∀(pins:TU)(s:Shared)(σ:St)(H:Hp)(R:It->Hp->Prop),Inv X pins σ H s->wi σ H R->
  wpAny (!5) X.A (eval iter X.env) (λv s1=>wpAny (!5) X.A (pyIter v) (RH X pins σ tg R) X.xe s1) X.xe s
def vr(p:s.heap.get? l = !o)(t:o.cls = .type n)(hd:o.data = .fields j)(r:["enumerate", "zip", "dict_itemiterator", "dict_reverseitemiterator", "odict_iterator", "itertools.zip_longest", "itertools.pairwise"].contains n = false)(g:Q () s):wpAny M A (letOwnedTupleGo tg (.ref l) u) Q E s:=by
  cases tg <;> first
    | exact Ug g
    | (cases u <;> first
        | exact Ug g
        | (refine Ud (wpAny_load p ?_)
           rw [t,hd]
           show wpAny M A (if (["enumerate", "zip", "dict_itemiterator", "dict_reverseitemiterator", "odict_iterator", "itertools.zip_longest", "itertools.pairwise"].contains n && j[0]? == !(rawInt _)) = true then _ else _) Q E s
           rw [if_neg (by intro h; rw [r,Bool.false_and] at h; cases h)]
           exact Ug g))
noncomputable def  Pl(K:Frag)(a:Addr):It:=
 ⟨λi H=>∃xs x,SqL K H a xs/\xs[i]?=!x,λi H x H'=>H'=H/\∀xs,SqL K H a xs->xs[i]?=!x,λi H=>∃xs,SqL K H a xs/\xs.length<=i⟩
noncomputable def  Pm(K:Frag)(a:Addr):It:=
 ⟨λi H=>∃xs x,SqT K H a xs/\xs[i]?=!x,λi H x H'=>H'=H/\∀xs,SqT K H a xs->xs[i]?=!x,λi H=>∃xs,SqT K H a xs/\xs.length<=i⟩
noncomputable def  Og(lo:Int)(n:Nat):It:=⟨λi _=>i<n,λi H x H'=>H'=H/\x=.int (lo+i),λi _=>n<=i⟩
def w5{P:Program}{w:World}{K:Frag}{tg:Expr}(a g:Addr):Turn P w K tg (Pl K a) [g] g (λi h=>h.IsListIter g a i) where
 mem:=by simp
 obj:=λi h st b j=>by
  have e:b=g:=by simpa using j
  subst e;let⟨o,e,c,d⟩:=st;exact⟨o,e,λv z=>by rw[d]at z;cases z⟩
 keep:=λi h h' st k=>st.at λo e=>k g (by simp) o e
 item:=by
  intro X hP T hK hc i pins s σ H E I t st U;subst hP T hK;let⟨xs,x,r,J⟩:=U;let⟨C,rv,p,hz⟩:=I.list r;let⟨u,hu,ru⟩:=rv.get J;let⟨f0,f1,f2,f3,f4,f5⟩:=t g (by simp);refine wpAny_pyNext_list_item st p.isList (by simpa using hu) λh' l sb=>?_;have I1:Inv X pins σ H {s with heap:=h'}:=I.turned (λb o j e=>(sb.2 b j).trans e) f0 f1 f3 f4 f5;let⟨o,e,c,d⟩:=id l;exact⟨u,rfl,vr e c d (!4) ⟨x,H,I1,ru,⟨rfl,λys hy=>by rw[I.list_inj hy r];exact J⟩,l,λb j=>(t b j).1⟩⟩
 done:=by
  intro X hP T hK hc i pins s σ H E I t st U;subst hP T hK;let⟨xs,r,J⟩:=U;let⟨C,rv,p,hz⟩:=I.list r;let⟨f0,f1,f2,f3,f4,f5⟩:=t g (by simp);have hl:=rv.length;exact wpAny_pyNext_list_end (I.ok.hd hc) st p.isList (by simp;omega) λh' eb=>⟨rfl,I.turned (λb o j e=>eb b o j e) f0 f1 f3 f4 f5⟩
 self:=λ_ _ _ _ _ st h=>wpAny_pyIter_listiter st h
def tT{P:Program}{w:World}{K:Frag}{tg:Expr}(a g:Addr):Turn P w K tg (Pm K a) [g] g (λi h=>h.IsTupleIter g a i) where
 mem:=by simp
 obj:=λi h st b j=>by
  have e:b=g:=by simpa using j
  subst e;let⟨o,e,c,d⟩:=st;exact⟨o,e,λv z=>by rw[d]at z;cases z⟩
 keep:=λi h h' st k=>st.at λo e=>k g (by simp) o e
 item:=by
  intro X hP T hK hc i pins s σ H E I t st U;subst hP T hK;let⟨xs,x,r,J⟩:=U;let⟨C,rv,p,hz⟩:=I.tuple r;let⟨u,hu,ru⟩:=rv.get J;let⟨f0,f1,f2,f3,f4,f5⟩:=t g (by simp);refine wpAny_pyNext_tuple_item st (p) (by simpa using hu) λh' l sb=>?_;have I1:Inv X pins σ H {s with heap:=h'}:=I.turned (λb o j e=>(sb.2 b j).trans e) f0 f1 f3 f4 f5;let⟨o,e,c,d⟩:=id l;exact⟨u,rfl,vr e c d (!4) ⟨x,H,I1,ru,⟨rfl,λys hy=>by rw[I.tuple_inj hy r];exact J⟩,l,λb j=>(t b j).1⟩⟩
 done:=by
  intro X hP T hK hc i pins s σ H E I t st U;subst hP T hK;let⟨xs,r,J⟩:=U;let⟨C,rv,p,hz⟩:=I.tuple r;let⟨f0,f1,f2,f3,f4,f5⟩:=t g (by simp);have hl:=rv.length;exact wpAny_pyNext_tuple_end (I.ok.hd hc) st (p) (by simp;omega) λh' eb=>⟨rfl,I.turned (λb o j e=>eb b o j e) f0 f1 f3 f4 f5⟩
 self:=λ_ _ _ _ _ st h=>wpAny_pyIter_tupleiter st h
def tU{P:Program}{w:World}{K:Frag}{tg:Expr}(g:Addr)(lo:Int)(n:Nat):Turn P w K tg (Og lo n) [g] g (λi h=>IsRangeIter h g (lo+(i:Nat)*1) ((n:Int)-(i:Nat)) 1) where
 mem:=by simp
 obj:=λi h st b j=>by
  have e:b=g:=by simpa using j
  subst e;exact⟨_,st,λv z=>by
   have z':=z;cases z'⟩
 keep:=λi h h' st k=>k g (by simp) _ st
 item:=by
  intro X hP hw hK C i pins s σ H E I p st r;subst hP hw hK;let⟨f0,f1,f2,U,T,J⟩:=p g (by simp);have W:=Walks.range (prog:=X.prog) (w:=X.w) (I.ok.hd C) g lo 1 n;refine W.item i s _ _ r st λv h' tk hv l kk=>?_;let⟨t,rfl⟩:=hv;have I1:Inv X pins σ H {s with heap:=h',toks:=tk}:=I.turned (λb o j e=>kk b o (by simpa using j) e) f0 f1 U T J;refine⟨_,rfl,vr l rfl rfl (!4) ⟨.int _,H,I1,⟨t,?_⟩,⟨rfl,rfl⟩,l,λb j=>(p b j).1⟩⟩;rw[Int.mul_one]
 done:=by
  intro X hP hw hK C i pins s σ H E I p st r;let⟨f0,f1,f2,U,T,J⟩:=p g (by simp);exact wpAny_pyNext_range_end (I.ok.hd C) st (by have:n<=i:=r;omega) λh' eb=>⟨rfl,I.turned (λb o j e=>eb b o j e) f0 f1 U T J⟩
 self:=λ_ _ _ _ _ st h=>wpAny_pyIter_rangeiter st h
section
variable{X:Cx}{tg:Expr}
def yJ{σ:St}{lo hi}(I:Inv X pins σ H s)(h1:-(2^62)<=lo)(h2:lo<2^62)(h3:-(2^62)<=hi)(h4:hi<2^62)(q:R (Og lo (hi-lo).toNat) H):wpAny (!5) X.A (pyIter (.ref s.heap.objs.size)) (RH X pins σ tg R) E {s with heap:=s.heap.push {cls:=.type "range",data:=.fields #[.int lo t,.int hi u,.int 1 v]},toks:=tk}:=by
 refine wpAny_pyIter_range (IsRange.new ..) (small_one h1 h2 h3 h4) ?_;have I1:Inv X pins σ H {s with heap:=s.heap.push {cls:=.type "range",data:=.fields #[.int lo t,.int hi u,.int 1 v]},toks:=tk}:=I.kept λb o e=>Ue _ e;refine⟨(s.heap.push {cls:=.type "range",data:=.fields #[.int lo t,.int hi u,.int 1 v]}).objs.size,[(s.heap.push {cls:=.type "range",data:=.fields #[.int lo t,.int hi u,.int 1 v]}).objs.size],_,_,H,rfl,
  I1.kept λb o e=>Ue _ e,tU _ lo (hi-lo).toNat,?_,λb hb=>?_,q⟩
 .have e1:lo+((0:Nat):Int)*1=lo:=by simp
  have e2:(((hi-lo).toNat:Nat):Int)-((0:Nat):Int)=Builtin.Range.rangeSize lo hi 1:=by rw[rangeSize_one];split<;>omega
  rw[e1,e2];exact Ui _ rfl
 .have e:b=(s.heap.push {cls:=.type "range",data:=.fields #[.int lo t,.int hi u,.int 1 v]}).objs.size:=by simpa using hb
  subst e;exact I1.fpOk (UB _) (I1.hok.fresh (UB _))
def  Lk(ta:TA):TI:=λσ H R=>ta σ H λvs H1=>∃j:Int,vs=[.int j]/\ -(2^62)<=j/\j<2^62/\R (Og 0 j.toNat) H1
def w6(U:Gl X "range")(T:X.mg "range"=none)(ha:PA X [a] ta)(J:starEach [a] X.env=[(false,eval a X.env)]:=by rfl):PI X tg (.Call (.Name "range" p) [a] [] pos) (Lk ta):=by
 intro pins s σ H R I h;refine Call_ (db I U T boot_range (PyProof.Rows.callWith_type1 (bu (ha pos pins s σ H _ I h) λus s1 ⟨vs,H1,I1,o,g⟩=>?_) J rfl));let⟨j,e,g,C,q⟩:=g;subst e;cases o with
 |cons r l=>
  cases l;let⟨t,rfl⟩:=r;exact call_range_1 (yJ I1 (!3) (!3) g C (by simpa using q))
def  GT(wi:TI)(g:TG)(tb:TS):TS:=λD σ H=>wi σ H λJ H1=>∃W:Nat->Nat->St->Hp->Prop,(∃m,W 0 m σ H1)/\∀i m σ H,W i m σ H->
 (J.stop i H/\D.nx σ H)\/(J.go i H/\∃N:St->Hp->Prop,(∀σ' H',N σ' H'->∃m',m'<m/\W (i+1) m' σ' H')/\∀x H',J.yld i H x H'->g x σ H' λσ2 H2=>tb {D with nx:=N,ct:=N,bk:=D.nx} σ2 H2)
noncomputable def  mH(fp:List Addr)(h:Heap):TU:=fp.filterMap λb=>(h.get? b).map λo=>(b,o)
def gv(g:b∈fp)(e:h.get? b=!o):(b,o)∈mH fp h:=List.mem_filterMap.mpr ⟨b,g,by rw[e];rfl⟩
def w9(g:p∈mH fp h):p.1∈fp/\h.get? p.1=!p.2:=by
 let⟨b,j,e⟩:=List.mem_filterMap.mp g;cases q:h.get? b with
 |none=>rw[q]at e;cases e
 |some o=>
  rw[q]at e;have l:=Option.some.inj e;subst l;exact⟨j,q⟩
def Inv.pinned{σ:St}(I:Inv X pins σ H s)(t:∀b∈fp,jI X pins H b)(r:∀b∈fp,∃o,s.heap.get? b=!o/\∀v,o.data≠.cell v):Inv X (pins++mH fp s.heap) σ H s:=
 I.pins_of λp l=>(mem_append.mp l).elim (λz=>I.pin p (Uw _ z)) λz=>by
  let⟨g,e⟩:=w9 z;let⟨C,f1,f2,_⟩:=t p.1 g;let⟨o,j,d⟩:=r p.1 g;rw[e]at j;cases j;exact⟨e,C,f1,f2,d⟩
def Inv.unpinned{σ:St}(I:Inv X (pins++pl) σ H s):Inv X pins σ H s:=I.pins_of λp g=>I.pin p (Uw _ (Uv _ g))
def pW(hp:PassesOwn (!5) X.A X.env X.xe)(hc:X.calm=true)(hi:PI X tg iter wi)(hg:PG X tg g)(C:PSs X body tb)(hs:∀x,foldedSetIterable iter X.env x=pure x:=by intro _;rfl):PS X (.For tg iter body [] pos) (GT wi g tb):=by
 intro pins s σ H D I h
 refine wpAny_For (bu (hi pins s σ H _ I h) λv s1 h1=>bu h1 λitv s2 h2=>?_) hs
 let⟨it,fp,tn,J,H2,e,I2,T,KU,f2,W,⟨m0,w0⟩,turn⟩:=h2
 subst e
 -- what stays true of the iterator's objects through the loop
 have t:∀{H':Hp},(∀b∈fp,H' b=none)->∀b∈fp,jI X pins H' b:=λhn b C=>⟨hn b C,(f2 b C).2⟩
 refine codeAny_forLoop_any (λn s'=>∃i p H',Inv X pins p H' s'/\tn i s'.heap/\(∀b∈fp,H' b=none)/\W i n p H') ?_ m0 ⟨0,σ,H2,I2,KU,λb C=>(f2 b C).1,w0⟩
 rintro n s3 ⟨i,l,H3,I3,Fs,fr3,w3⟩
 rcases turn i n l H3 w3 with⟨stop,qn⟩|⟨go,N,hN,step⟩
 .refine wpAny_passesOwn hp (bu (T.done X rfl rfl rfl hc i pins s3 l H3 X.xe I3 (t fr3) Fs stop) λr s4 ⟨hr,I4⟩=>?_)
  subst hr
  exact wpAny_execs_nil ⟨l,H3,I4,qn⟩
 .refine wpAny_passesOwn hp (bu (T.item X rfl rfl rfl hc i pins s3 l H3 X.xe I3 (t fr3) Fs go) λr s4 ⟨u,hr,h4⟩=>?_)
  subst hr
  refine wpAny_passesOwn hp (bu h4 λ_ s5 ⟨x,H5,I5,r5,y5,st5,fr5⟩=>?_)
  have I5':=I5.pinned (t fr5) (T.obj _ _ st5)
  refine wpAny_passesOwn hp (bu (hg _ s5 l H5 x u _ I5' r5 (step x H5 y5)) λ_ s6 ⟨σ6,H6,I6,q6⟩=>?_)
  refine wpAny_passesOwn hp (bu (C _ s6 σ6 H6 _ I6 q6) λf s7 q7=>?_)
  have again:∀{j:St}{H7:Hp},Inv X (pins++mH fp s5.heap) j H7 s7->N j H7->∃m,m<n/\∃i p H',Inv X pins p H' s7/\tn i s7.heap/\(∀b∈fp,H' b=none)/\W i m p H':=λ{j H7} U n7=>by
   let⟨m',hm,w7⟩:=hN j H7 n7
   refine⟨m',hm,i+1,j,H7,U.unpinned,T.keep _ _ _ st5 λb C o e=>(U.pin (b,o) (Uw _ (Uw _ (gv C e)))).1,λb C=>?_,w7⟩
   let⟨o,e,d⟩:=T.obj _ _ st5 b C
   exact(U.pin (b,o) (Uw _ (Uw _ (gv C e)))).2.1
  cases f with
  |next=>let⟨j,H7,U,n7⟩:=q7;exact again U n7
  |cont=>let⟨j,H7,U,n7⟩:=q7;exact again U n7
  |brk=>let⟨j,H7,U,q7⟩:=q7;exact⟨j,H7,U.unpinned,q7⟩
  |ret v=>let⟨x7,j,H7,U,r7,q7⟩:=q7;exact⟨x7,j,H7,U.unpinned,r7,q7⟩
end
abbrev R2:=V->V->Hp->VK->Prop
def  OpR(X:Cx)(f:Value->Value->Sem Value)(r:R2):Prop:=
 ∀(pins:TU)(s:Shared)(σ:St)(H:Hp)(x y:V)(v u:Value)(Q:VK),Inv X pins σ H s->RelV x v->RelV y u->r x y H Q->
  wpAny (!5) X.A (f v u) (EP X pins σ Q) X.xe s
def  Pn(X:Cx)(f:Value->Sem Value)(r:V->Hp->VK->Prop):Prop:=
 ∀(pins:TU)(s:Shared)(σ:St)(H:Hp)(x:V)(v:Value)(Q:VK),Inv X pins σ H s->RelV x v->r x H Q->
  wpAny (!5) X.A (f v) (EP X pins σ Q) X.xe s
def  dI(X:Cx)(f:Value)(r:List V->Hp->VK->Prop):Prop:=
 ∀(pins:TU)(s:Shared)(σ:St)(H:Hp)(xs:List V)(us:TY)(Q:VK),Inv X pins σ H s->Vals xs us->r xs H Q->
  wpAny (!5) X.A (call f us) (EP X pins σ Q) X.xe s
def  Po(X:Cx)(r:V->Hp->(Bool->Hp->Prop)->Prop):Prop:=
 ∀(pins:TU)(s:Shared)(σ:St)(H:Hp)(x:V)(v:Value)(Q:Bool->Hp->Prop),Inv X pins σ H s->RelV x v->r x H Q->
  wpAny (!5) X.A (truthy v) (TP X pins σ Q) X.xe s
def  Ll(r:R2)(ta tb:TE):TE:=λσ H Q=>ta σ H λx H1=>tb σ H1 λy H2=>r x y H2 Q
def  S5(r:V->Hp->VK->Prop)(ta:TE):TE:=λσ H Q=>ta σ H λx H1=>r x H1 Q
def  rI(C:Int->Int->Prop)(g:Int->Int->V):R2:=λx y H Q=>∃i j,x=.int i/\y=.int j/\C i j/\Q (g i j) H
def  rG(g:Int->Int->V):R2:=λx y H Q=>∃i j,x=.int i/\y=.int j/\Q (g i j) H
def  rU(g:Int->V):V->Hp->VK->Prop:=λx H Q=>∃i,x=.int i/\Q (g i) H
section
variable{X:Cx}{a b c:Expr}{ta tb tc:TE}{pos:Pos}
def GU(t:PE X a ta)(r:PE X b tb){σ:St}{R:V->V->Hp->Prop}(I:Inv X pins σ H s)(h:ta σ H λx H1=>tb σ H1 λy H2=>R x y H2){f:Value->Value->Sem Value}(hf:∀v u l x y H2,Inv X pins σ H2 l->RelV x v->RelV y u->R x y H2->wpAny (!5) X.A (f v u) Q X.xe l):
  wpAny (!5) X.A (eval a X.env) (λv j=>wpAny (!5) X.A (eval b X.env) (λu g=>wpAny (!5) X.A (f v u) Q X.xe g) X.xe j) X.xe s:=by
 refine bu (t pins s σ H _ I h) λv o ⟨x,H1,C,T,p⟩=>?_
 refine bu (r pins o σ H1 _ C p) λu l ⟨y,H2,I2,J,U⟩=>?_
 grind
def yK(l:OpR X (binaryOp op) r)(p:PE X a ta)(o:PE X b tb):PE X (.BinOp a op b pos) (Ll r ta tb):=by
 intro pins s σ H Q I h;exact wpAny_BinOp (GU p o I h λv u g x y H2 t rx j q=>l pins g σ H2 x y v u Q t rx j q)
def Lm(o:Pn X (unaryOp op) r)(p:PE X a ta):PE X (.UnaryOp op a pos) (S5 r ta):=by
 intro pins s σ H Q I h;exact UnaryOp_ (bu (p pins s σ H _ I h) λv g ⟨x,H1,t,j,l⟩=>o pins g σ H1 x v Q t j l)
def Ln{g:Int->Int->Int}(rule:∀(i j:Int)(t u:Tok)(s:Shared)(Q:TX)(E:TX),C i j->Q (.int (g i j) s.toks) {s with toks:=s.toks+1}->wpAny (!5) X.A (f (.int i t) (.int j u)) Q E s):
  OpR X f (rI C λi j=>.int (g i j)):=by
 intro pins s σ H x y v u Q I rx ry h
 let⟨i,j,rfl,rfl,hc,q⟩:=h
 let⟨t,rfl⟩:=rx
 let⟨t',rfl⟩:=ry
 exact rule i j t t' s _ _ hc ⟨.int (g i j),H,I.tok _,⟨_,rfl⟩,q⟩
def Lo{g:Int->Int->Int}(rule:∀(i j:Int)(t u:Tok)(s:Shared)(Q:TX)(E:TX),Q (.int (g i j) s.toks) {s with toks:=s.toks+1}->wpAny (!5) X.A (f (.int i t) (.int j u)) Q E s):
  OpR X f (rG λi j=>.int (g i j)):=by
 intro pins s σ H x y v u Q I rx ry h
 let⟨i,j,rfl,rfl,q⟩:=h
 let⟨t,rfl⟩:=rx
 let⟨t',rfl⟩:=ry
 exact rule i j t t' s _ _ ⟨.int (g i j),H,I.tok _,⟨_,rfl⟩,q⟩
def CA{g:Int->Int->Bool}(rule:∀(i j:Int)(t u:Tok)(s:Shared)(Q:TX)(E:TX),Q (.bool (g i j)) s->wpAny (!5) X.A (f (.int i t) (.int j u)) Q E s):
  OpR X f (rG λi j=>.bl (g i j)):=by
 intro pins s σ H x y v u Q I rx o h
 let⟨i,j,rfl,rfl,q⟩:=h
 let⟨t,rfl⟩:=rx
 let⟨l,rfl⟩:=o
 exact rule i j t l s _ _ ⟨.bl (g i j),H,I,rfl,q⟩
def  xa(i j:Int):Prop:=0<j/\j<1073741824
def  oy(i j:Int):Prop:=0<=j/\j<=1000000/\i.natAbs<2^64
def  CMul(i j:Int):Prop:=(-(2^64)<i/\i<2^64)\/(-(2^64)<j/\j<2^64)
def CMul.ok(h:CMul i j):IntMulOk i j:=by
 rcases h with⟨h1,h2⟩|⟨h1,h2⟩
 .exact .of_left (intBits_le_64 h1 h2)
 .exact .of_right (intBits_le_64 h1 h2)
def GV:OpR X (binaryOp .Add) (rG λi j=>.int (i+j)):=Lo λ_ _ _ _ _ _ _ q=>add_int q
def GW:OpR X (binaryOp .Sub) (rG λi j=>.int (i-j)):=Lo λ_ _ _ _ _ _ _ q=>sub_int q
def GX:OpR X (binaryOp .Mult) (rI CMul λi j=>.int (i*j)):=Ln λ_ _ _ _ _ _ _ g q=>mul_int q g.ok
def CB:OpR X (binaryOp .FloorDiv) (rI xa λi j=>.int (i/j)):=Ln λi j _ _ _ _ _ hc q=>by
 have h1:(0:Int)<j:=hc.1;have h2:j<1073741824:=hc.2;exact floordiv_int (!3) (by rw[Int.fdiv_eq_ediv_of_nonneg i (!3)];exact q) (.inl (PyProof.noPylong_small (!3)))
def GY:OpR X (binaryOp .Mod) (rI (λ_ j=>0<j) λi j=>.int (i%j)):=Ln λi j _ _ _ _ _ g q=>by
 exact mod_int' (!3) (by rw[Int.fmod_eq_emod_of_nonneg i (!3)];exact q)
def GZ:OpR X (binaryOp .Pow) (rI oy λi j=>.int (i^j.toNat)):=Ln λ_ _ _ _ _ _ _ hc q=>pow_int_small hc.1 hc.2.1 hc.2.2 q
def Ha:OpR X (binaryOp .LShift) (rI oy λi j=>.int (i*2^j.toNat)):=Ln λ_ _ _ _ _ _ _ hc q=>lshift_int_small hc.1 hc.2.1 hc.2.2 q
def S6{g:Int->Int}(rule:∀(i:Int)(t:Tok)(s:Shared)(Q:TX)(E:TX),Q (.int (g i) s.toks) {s with toks:=s.toks+1}->wpAny (!5) X.A (f (.int i t)) Q E s):
  Pn X f (rU λi=>.int (g i)):=by
 intro pins s σ H x v Q I rx h
 let⟨i,rfl,q⟩:=h
 let⟨t,rfl⟩:=rx
 exact rule i t s _ _ ⟨.int (g i),H,I.tok _,⟨_,rfl⟩,q⟩
def Hb:Pn X (unaryOp .USub) (rU λi=>.int (-i)):=S6 λ_ _ _ _ _ q=>neg_int q
end
noncomputable def  xf:V->V->Bool
 |.non,.non=>true|.non,.int _=>true|.int _,.non=>true|.non,.bl _=>true|.bl _,.non=>true|.non,.str _=>true|.str _,.non=>true
 |.int _,.int _=>true|.bl _,.bl _=>true|.str _,.str _=>true|.byt _,.byt _=>true
 |.int _,.str _=>true|.str _,.int _=>true|.bl _,.str _=>true|.str _,.bl _=>true
 |_,_=>false
def  S7:R2:=λx y H Q=>xf x y=true/\Q (.bl (decide (x=y))) H
def  S8:R2:=λx y H Q=>xf x y=true/\Q (.bl (not (decide (x=y)))) H
def vt:decide (V.int i=V.int j)=(i==j):=by
 rw[Bool.eq_iff_iff];simp
def dec_bl:decide (V.bl i=V.bl j)=(i==j):=by
 rw[Bool.eq_iff_iff];simp
def vv:decide (V.str i=V.str j)=(i==j):=by
 rw[Bool.eq_iff_iff];simp
def vx:decide (V.byt i=V.byt j)=(i.toList==j.toList):=by
 rw[Bool.eq_iff_iff];cases i;cases j;simp
section
variable{X:Cx}{a b c:Expr}{ta tb tc:TE}{pos:Pos}
def fin_bl{σ:St}(I:Inv X pins σ H s)(q:Q (.bl k) H)(e:k=g):EP X pins σ Q (.bool g) s:=by
 subst e;exact⟨.bl k,H,I,rfl,q⟩
def Lp:OpR X (compareOp .Eq) S7:=by
 intro pins s σ H x y v u Q I rx g h;let⟨o,q⟩:=h;cases x with
 |non=>
  cases rx;cases y with
  |non=>cases g;exact PySem.EqNone.eq_none_none (!16)
  |bl j=>cases g;exact PySem.EqNone.eq_none_bool (!16)
  |int j=>let⟨l,rfl⟩:=g;exact PySem.EqNone.eq_none_int (!16)
  |str j=>let⟨l,rfl⟩:=g;exact PySem.EqNone.eq_none_str (!16)
  |_=>exact absurd (o) Uj
 |bl i=>
  cases rx;cases y with
  |non=>cases g;exact PySem.EqNone.eq_bool_none (!16)
  |bl j=>cases g;exact eq_bool (fin_bl I q dec_bl)
  |str j=>let⟨l,rfl⟩:=g;exact PySem.EqMixed.eq_bool_str (!16)
  |_=>exact absurd (o) Uj
 |int i=>
  let⟨t,rfl⟩:=rx;cases y with
  |non=>cases g;exact PySem.EqNone.eq_int_none (!16)
  |int j=>let⟨l,rfl⟩:=g;exact eq_int (fin_bl I q vt)
  |str j=>let⟨l,rfl⟩:=g;exact PySem.EqMixed.eq_int_str (!16)
  |_=>exact absurd (o) Uj
 |str i=>
  let⟨t,rfl⟩:=rx;cases y with
  |non=>cases g;exact PySem.EqNone.eq_str_none (!16)
  |bl j=>cases g;exact PySem.EqMixed.eq_str_bool (!16)
  |int j=>let⟨l,rfl⟩:=g;exact PySem.EqMixed.eq_str_int (!16)
  |str j=>let⟨l,rfl⟩:=g;exact eq_str (fin_bl I q vv)
  |_=>exact absurd (o) Uj
 |byt i=>
  let⟨t,rfl⟩:=rx;cases y with
  |byt j=>let⟨l,rfl⟩:=g;exact PySem.W.eq_bytes (fin_bl I q vx)
  |_=>exact absurd (o) Uj
 |_=>cases y<;>exact absurd (show false=true from o) Uj
def Lq:OpR X (compareOp .NotEq) S8:=by
 intro pins s σ H x y v u Q I rx g h;let⟨o,q⟩:=h;cases x with
 |non=>
  cases rx;cases y with
  |non=>cases g;exact PySem.EqNone.ne_none_none (!16)
  |bl j=>cases g;exact PySem.EqNone.ne_none_bool (!16)
  |int j=>let⟨l,rfl⟩:=g;exact PySem.EqNone.ne_none_int (!16)
  |str j=>let⟨l,rfl⟩:=g;exact PySem.EqNone.ne_none_str (!16)
  |_=>exact absurd (o) Uj
 |bl i=>
  cases rx;cases y with
  |non=>cases g;exact PySem.EqNone.ne_bool_none (!16)
  |bl j=>cases g;exact ne_bool (fin_bl I q (congrArg not dec_bl))
  |str j=>let⟨l,rfl⟩:=g;exact PySem.EqMixed.ne_bool_str (!16)
  |_=>exact absurd (o) Uj
 |int i=>
  let⟨t,rfl⟩:=rx;cases y with
  |non=>cases g;exact PySem.EqNone.ne_int_none (!16)
  |int j=>let⟨l,rfl⟩:=g;exact ne_int (fin_bl I q (congrArg not vt))
  |str j=>let⟨l,rfl⟩:=g;exact PySem.EqMixed.ne_int_str (!16)
  |_=>exact absurd (o) Uj
 |str i=>
  let⟨t,rfl⟩:=rx;cases y with
  |non=>cases g;exact PySem.EqNone.ne_str_none (!16)
  |bl j=>cases g;exact PySem.EqMixed.ne_str_bool (!16)
  |int j=>let⟨l,rfl⟩:=g;exact PySem.EqMixed.ne_str_int (!16)
  |str j=>let⟨l,rfl⟩:=g;exact ne_str (fin_bl I q (congrArg not vv))
  |_=>exact absurd (o) Uj
 |byt i=>
  let⟨t,rfl⟩:=rx;cases y with
  |byt j=>let⟨l,rfl⟩:=g;exact PySem.W.ne_bytes (fin_bl I q (congrArg not vx))
  |_=>exact absurd (o) Uj
 |_=>cases y<;>exact absurd (show false=true from o) Uj
def op_lt:OpR X (compareOp .Lt) (rG λi j=>.bl (decide (i<j))):=CA λ_ _ _ _ _ _ _ q=>lt_int q
def oP:OpR X (compareOp .LtE) (rG λi j=>.bl (decide (i<=j))):=CA λ_ _ _ _ _ _ _ q=>le_int q
def Fu:OpR X (compareOp .Gt) (rG λi j=>.bl (decide (j<i))):=CA λ_ _ _ _ _ _ _ q=>gt_int q
def Fw:OpR X (compareOp .GtE) (rG λi j=>.bl (decide (j<=i))):=CA λ_ _ _ _ _ _ _ q=>ge_int q
def op_isN:OpR X (compareOp .Is) (λx y H Q=>y=.non/\Q (.bl (decide (x=.non))) H):=by
 intro pins s σ H x y v u Q I rx g h;let⟨rfl,q⟩:=h;cases g;refine is_none_gen (fin_bl I q ?_);cases x<;>first
  |(cases rx;rfl)
  |(let⟨t,rfl⟩:=rx;rfl)
def op_notN:OpR X (compareOp .IsNot) (λx y H Q=>y=.non/\Q (.bl (not (decide (x=.non)))) H):=by
 intro pins s σ H x y v u Q I rx ry h;let⟨rfl,q⟩:=h;cases ry;refine isnot_none_gen (fin_bl I q ?_);cases x<;>first
  |(cases rx;rfl)
  |(let⟨t,rfl⟩:=rx;rfl)
def OpR.or(h:OpR X f r)(h':OpR X f j):OpR X f (λx y H Q=>r x y H Q\/j x y H Q):=by
 intro pins s σ H x y v u Q I rx g q;rcases q with q|q
 .exact h pins s σ H x y v u Q I rx g q
 .exact h' pins s σ H x y v u Q I rx g q
def dA(b:Expr)(h:op≠.In:=by decide)(h2:op≠.NotIn:=by decide):behindInMarks op b=false:=by
 have g:(op==CmpOp.In)=false:=by cases op<;>first|rfl|exact absurd rfl h
 have e2:(op==CmpOp.NotIn)=false:=by cases op<;>first|rfl|exact absurd rfl h2
 cases b<;>simp[behindInMarks,g,e2]
def CC(l:OpR X (compareOp op) r)(t:PE X a ta)(p:PE X b tb)(o:behindInMarks op b=false):PE X (.Compare a [op] [b] pos) (Ll r ta tb):=by
 intro pins s σ H Q I h;exact wpAny_Compare1 (GU t p I h λv u g x y H2 C rx j q=>l pins g σ H2 x y v u Q C rx j q) o
def  Fy(t:TE):TT:=λσ H Q=>t σ H λx H'=>∃k,x=.bl k/\Q k H'
def CD(T:OpR X (compareOp op) r)(ha:PE X a ta)(hb:PE X b tb)(U:behindInMarks op b=false):PT X (.Compare a [op] [b] pos) (Fy (Ll r ta tb)):=by
 intro pins s σ H Q I h;refine wpAny_isTrue_Compare1 (bu (ha pins s σ H _ I h) λv j ⟨x,H1,I1,p,J⟩=>bu (hb pins j σ H1 _ I1 J) λu g ⟨y,H2,I2,o,C⟩=>
  bu (T pins g σ H2 x y v u _ I2 p o C) λc s3 ⟨z,H3,I3,l,k,e,t⟩=>?_) U
 subst e;cases l;exact wpAny_truthy_bool ⟨H3,I3,t⟩
def  tV(r r':R2)(ta tb tc:TE):TE:=λσ H Q=>ta σ H λx H1=>tb σ H1 λy H2=>r x y H2 λz H3=>∃k,z=.bl k/\
 (if k=true then tc σ H3 λw' H4=>r' y w' H4 Q else Q (.bl false) H3)
def yL(ho:OpR X (compareOp op) r)(ho':OpR X (compareOp op') r')(ha:PE X a ta)(hb:PE X b tb)(hc:PE X c tc)(hm:lastMarks [op,op'] [b,c]=false:=by with_unfolding_all rfl):PE X (.Compare a [op,op'] [b,c] pos) (tV r r' ta tb tc):=by
 intro pins s σ H Q I h;refine Compare_chain (bu (ha pins s σ H _ I h) λv s1 ⟨x,H1,I1,r1,q1⟩=>chain_link (bu (hb pins s1 σ H1 _ I1 q1) λu s2 ⟨y,H2,I2,r2,q2⟩=>
  bu (ho pins s2 σ H2 x y v u _ I2 r1 r2 q2) λd s3 ⟨z,H3,I3,r3,k,e,q3⟩=>?_)) hm
 subst e;cases r3;refine wpAny_truthy_bool ?_;cases k with
 |false=>exact ite_ff ⟨.bl false,H3,I3,rfl,q3⟩
 |true=>exact ite_tt (chain_last (bu (hc pins s3 σ H3 _ I3 q3) λw' s4 ⟨z',H4,I4,r4,q4⟩=>ho' pins s4 σ H4 y z' u w' Q I4 r2 r4 q4))
def yM(ho:OpR X (compareOp op) r)(ho':OpR X (compareOp op') r')(ha:PE X a ta)(hb:PE X b tb)(hc:PE X c tc)(hm:lastMarks [op,op'] [b,c]=false:=by with_unfolding_all rfl):PT X (.Compare a [op,op'] [b,c] pos) (Fy (tV r r' ta tb tc)):=by
 intro pins s σ H Q I h;refine isTrue_chain (bu (ha pins s σ H _ I h) λv s1 ⟨x,H1,I1,r1,q1⟩=>test_link (bu (hb pins s1 σ H1 _ I1 q1) λu s2 ⟨y,H2,I2,r2,q2⟩=>
  bu (ho pins s2 σ H2 x y v u _ I2 r1 r2 q2) λd s3 ⟨z,H3,I3,r3,k,e,q3⟩=>?_)) hm
 subst e;cases r3;refine wpAny_truthy_bool ?_;cases k with
 |false=>
  let⟨k',e',q'⟩:=q3;cases e';exact ite_ff ⟨H3,I3,q'⟩
 |true=>
  refine ite_tt (test_last (bu (hc pins s3 σ H3 _ I3 q3) λw' s4 ⟨z',H4,I4,r4,q4⟩=>bu (ho' pins s4 σ H4 y z' u w' _ I4 r2 r4 q4) λd' s5 ⟨z2,H5,I5,r5,k2,e2,q5⟩=>?_));subst e2;cases r5;exact wpAny_truthy_bool ⟨H5,I5,q5⟩
def  Lr(K:Frag)(x:V)(H:Hp)(k:Bool):Prop:=
 match x with
 |.non=>k=false
 |.bl b=>k=b
 |.int i=>k=(i !=0)
 |.str y=>y.length<=sizeLine/\k=((y.length:Int) !=0)
 |.byt y=>y.size<=sizeLine/\k=((y.size:Int) !=0)
 |.ref p=>(∃xs,SqL K H p xs/\k=not xs.isEmpty)\/(∃xs,SqT K H p xs/\k=not xs.isEmpty)\/∃kvs,H p=!(.dK kvs)/\k=not kvs.isEmpty
 |_=>False
def tW{vs:List (κ×Value)}(r:KV kvs vs):(not vs.isEmpty)=not kvs.isEmpty:=by
 cases r<;>rfl
def mI(r:Vals xs its):(not its.toArray.isEmpty)=not xs.isEmpty:=by
 cases r<;>simp
def jJ:(sizeLine:Nat)<2^63:=by rw[sizeLine_eq];decide
def Hc:Po X (λx H Q=>∃k,Lr X.K x H k/\Q k H):=by
 intro pins s σ H x v Q I rx h;let⟨k,e,q⟩:=h;have hs:=sizeLine_eq;cases x with
 |non=>
  cases rx;have g:=e;subst g;exact truthy_none ⟨H,I,q⟩
 |bl b=>
  cases rx;have g:=e;subst g;exact wpAny_truthy_bool ⟨H,I,q⟩
 |int i=>
  let⟨t,rfl⟩:=rx;have g:=e;subst g;exact PySem.P.truthy_int ⟨H,I,q⟩
 |str y=>
  let⟨t,rfl⟩:=rx;obtain⟨T,g⟩:y.length<=sizeLine/\k=((y.length:Int) !=0):=e;subst g;exact PySem.P.truthy_str (!3) ⟨H,I.tok _,q⟩
 |byt y=>
  let⟨t,rfl⟩:=rx;obtain⟨T,g⟩:y.size<=sizeLine/\k=((y.size:Int) !=0):=e;subst g;exact PySem.W.truthy_bytes (!3) ⟨H,I.tok _,q⟩
 |ref p=>
  cases rx;have g:(∃xs,SqL X.K H p xs/\k=not xs.isEmpty)\/(∃xs,SqT X.K H p xs/\k=not xs.isEmpty)\/∃kvs,H p=!(.dK kvs)/\k=not kvs.isEmpty:=e;rcases g with⟨xs,l,g⟩|⟨xs,l,g⟩|⟨kvs,l,g⟩
  .subst g;let⟨C,r,pl,J⟩:=I.list l;have j:=r.length;exact wpAny_truthy_list pl.isList (by simp only[size_toArray];omega) ⟨H,I.tok _,by rw[mI r];exact q⟩
  .subst g;let⟨C,r,pl,J⟩:=I.tuple l;have j:=r.length;exact truthy_tuple pl (by simp only[size_toArray];omega) ⟨H,I.tok _,by rw[mI r];exact q⟩
  .subst g;obtain⟨J,U,o,r,m⟩:kvs.length<=sizeLine/\(p==sysModules)=false/\∃o,KV kvs o/\s.heap.DictOf (c9 X.prog X.w) p o:=I.hok p _ l;have j:=Paired.length r;exact wpAny_truthy_dict U m (!3) ⟨H,I.tok _,by rw[tW r];exact q⟩
 |_=>exact(e).elim
def rH(p:PE X a ta)(o:∀whole,isTrue a X.env whole=(do let v<-whole;standAt a.pos;holding [v] (truthy v))):
  PT X a (λσ H Q=>ta σ H λx H'=>∃k,Lr X.K x H' k/\Q k H'):=by
 intro pins s σ H Q I h
 exact isTrue_plain (bu (p pins s σ H _ I h) λv g ⟨x,H1,r,j,l⟩=>Hc pins g σ H1 x v Q r j l) (o _)
def fY(r:Vals [x] g):∃u,g=[u]/\RelV x u:=by
 cases r with
 |cons l j=>cases j;exact⟨_,rfl,l⟩
def mJ(r:Vals [x,y] j):∃u g,j=[u,g]/\RelV x u/\RelV y g:=by
 cases r with
 |cons t p=>
  cases p with
  |cons o l=>cases l;exact⟨_,_,rfl,t,o⟩
def call_max2(hc:X.calm=true):dI X (.builtin "max") (λxs H Q=>∃i j,xs=[.int i,.int j]/\Q (.int (if j>i then j else i)) H):=by
 intro pins s σ H xs us Q I r h;let⟨i,j,rfl,q⟩:=h;let⟨u,w',rfl,⟨t,rfl⟩,⟨t',rfl⟩⟩:=mJ r;refine max_two_ints (I.ok.hd hc) λh' tk k=>⟨_,H,I.kept k,?_,q⟩;by_cases hj:j>i
 .rw[if_pos hj,if_pos hj];exact⟨_,rfl⟩
 .rw[if_neg hj,if_neg hj];exact⟨_,rfl⟩
def call_min2(l:X.calm=true):dI X (.builtin "min") (λxs H Q=>∃i j,xs=[.int i,.int j]/\Q (.int (if j<i then j else i)) H):=by
 intro pins s σ H xs p Q I r h;let⟨i,j,rfl,q⟩:=h;let⟨u,o,rfl,⟨t,rfl⟩,⟨C,rfl⟩⟩:=mJ r;refine min_two_ints (I.ok.hd l) λh' tk k=>⟨_,H,I.kept k,?_,q⟩;by_cases g:j<i
 .rw[if_pos g,if_pos g];exact⟨_,rfl⟩
 .rw[if_neg g,if_neg g];exact⟨_,rfl⟩
end
structure ObjM(h:Heap)(x dx C:Addr)(mA:Str->TZ):Prop where
 obj:h.get? x=!(PySem.W.instObj C dx)
 ns:h.Ns1 dx mA
 ne:dx≠x
def xg{h:Heap}(n:h.Ns1 dx mA):∃j,h.get? dx=!j/\∀name,PySem.W.lookIn name j=!(mA name):=by
 let⟨o,es,J,p,hd,C,_,r⟩:=n;refine⟨o,p,λname=>?_⟩;have e:=r name;unfold nsFind findBy at e;rw[<-Array.find?_toList]at e;unfold PySem.W.lookIn;rw[hd];dsimp only;split
 .rename_i y q;rw[q]at e;exact congrArg some e
 .rename_i q;rw[q]at e;have a:es.toList.any (·.refKey)=false:=by
   rw[List.any_eq_false];intro y l;let⟨z,t,g⟩:=C y (Array.mem_toList_iff.mp l);simp[DictEntry.refKey,g]
  have I:¬es.toList.any (·.refKey)=true:=by rw[a];exact Uj
  rw[if_neg I];exact congrArg some e
def ObjM.look(I:ObjM h x dx C mA):∃g,PySem.W.InstAt h x (PySem.W.instObj C dx) C (!g)/\∀name,PySem.W.lookIn name g=!(mA name):=
 let⟨g,j,l⟩:=xg I.ns
 ⟨g,⟨I.obj,rfl,rfl,j⟩,l⟩
section
variable{prog:Program}{w:World}{A:Around}{E:TX}{s:Shared}{K:Frag}{x dx C f:Addr}{mA:Str->TZ}{name:Str}{v:Value}
def CF(X:K.In s.heap)(I:ObjM s.heap x dx C mA)(hg:PySem.W.plainGet K C name=true)(hh:PySem.W.hasDictIn K C=true)(ha:findIn K (.ref C) name=!none)(hv:mA name=!v)(hv':PySem.W.handedIn v=true)(h:Q v {s with toks:=s.toks+1}):
  wpAny (!7) A (getAttr (.ref x) name expr) Q E s:=by
 let⟨od,J,hl⟩:=I.look
 exact PySem.W.get_value X J (PySem.W.plainGet_of hg).1 (PySem.W.findObj_own hh ha rfl (by rw[hl,hv])) hv' h
def yN(X:K.In s.heap)(I:ObjM s.heap x dx C mA)(g:PySem.W.plainGet K C name=true)(r:findIn K (.ref C) name=!(!(.ref f)))(o:PySem.W.isFn K (.ref f)=true)(l:mA name=none)(h:Q (.ref f,[.ref x]) s):
  wpAny (!7) A (getMethod (.ref x) name pl) Q E s:=by
 let⟨j,J,p⟩:=I.look
 exact PySem.W.method_fn X J (PySem.W.plainGet_of g).1 (PySem.W.plainGet_of g).2 r (beq_iff_eq.mp o) (by show(PySem.W.lookIn name j).map (·.isSome)=!false;rw[p,l];rfl) h
def CG(X:K.In s.heap)(I:ObjM s.heap x dx C mA)(hs:findIn K (.ref C) "__setattr__"=!(!(.builtin "object.__setattr__")))(hp:PySem.W.plainOver K C=true)(ht:PySem.W.takerIn K C name=!none)(hh:PySem.W.hasDictIn K C=true)(hw:PySem.Within mA ns)(hsz:ns.length<=sizeLine)(h:∀h',ObjM h' x dx C (λy=>if y=name then !v else mA y)->Heap.SameBut dx s.heap h'->Q () {s with heap:=h',toks:=s.toks+2}):
  wpAny (!7) A (setAttr (.ref x) name v) Q E s:=by
 let⟨od,J,hl⟩:=I.look
 refine PySem.W.set_plain X J hs (PySem.W.osa_open X J hp ht λb=>?_)
 let⟨cd,hc,hd'⟩:=PySem.W.any_some hh
 have hx:=I.obj
 refine Ud (Ug (Ud (Ud (wpAny_loadPart hx (Ud (PySem.W.Looks.here (PySem.W.looks_clsIn X hc) ?_))))))
 rw[hd']
 refine Ug (Ud (Ug (Ud ?_)))
 refine wpAny_nsSet1 I.ns λh' hn2 hs2=>?_
 let⟨oD,esD,epD,hoD,hdD,hcD⟩:=hn2.count (PySem.Within.cons name v hw)
 refine Ud (wpAny_lookBehind hoD (by rw[hdD];exact pastItsLine_dict (Ur hcD (by rw[length_cons];omega))) ?_)
 exact Ug (h _ ⟨(hs2.2 _ (Ne.symm I.ne)).trans I.obj,hn2,I.ne⟩ hs2)
def rJ(X:K.In s.heap)(hm:PySem.W.makesIn K C=true)(hi:findIn K (.ref C) "__init__"=!(!(.ref f)))(hf:PySem.W.typeIn K (.ref f)=!(.type "function"))(h:codeAny (!7) (A.under (.builtin "type.__call__" ⟨.ref C::vs,kw⟩)) (.call (.ref f) ⟨.ref (s.heap.objs.size+1)::vs,kw⟩) (PySem.W.InitBack (s.heap.objs.size+1) R)
   {s with heap:=(s.heap.push PySem.W.emptyDict).push (PySem.W.instObj C s.heap.objs.size)}):
  codeAny (!7) A (.call (.ref C) ⟨vs,kw⟩) R s:=by
 exact PySem.W.make_core (PySem.W.makes_of X hm) (PySem.W.looks_findIn X hi) (λself=>PySem.W.bind_fn X self hf) (.inl rfl) h
end
noncomputable def  gw(f:Str)(v:V):List (Str×V)->List (Str×V)
 |[]=>[(f,v)]
 |(g,x)::r=>if g=f then(g,v)::r else(g,x)::gw f v r
def lG(f g:Str)(v:V):∀fs:List (Str×V),(gw f v fs).lookup g=if g=f then !v else fs.lookup g
 |[]=>by
  show List.lookup g [(f,v)]=_;by_cases h:g=f
  .have hb:(g==f)=true:=beq_iff_eq.mpr h;simp only[List.lookup,hb,if_pos h]
  .have hb:(g==f)=false:=beq_eq_false_iff_ne.mpr h;simp only[List.lookup,hb,if_neg h]
 |(k,x)::r=>by
  have ih:=lG f g v r;rw[show gw f v ((k,x)::r)=(if k=f then(k,v)::r else(k,x)::gw f v r)from rfl];by_cases hk:k=f
  .rw[if_pos hk];by_cases h:g=k
   .have hb:(g==k)=true:=beq_iff_eq.mpr h;simp only[List.lookup,hb,if_pos (h.trans hk)]
   .have hb:(g==k)=false:=beq_eq_false_iff_ne.mpr h;simp only[List.lookup,hb,if_neg (λe:g=f=>h (e.trans hk.symm))]
  .rw[if_neg hk];by_cases h:g=k
   .have hb:(g==k)=true:=beq_iff_eq.mpr h;simp only[List.lookup,hb,if_neg (λe:g=f=>hk (h.symm.trans e))]
   .have hb:(g==k)=false:=beq_eq_false_iff_ne.mpr h;simp only[List.lookup,hb];exact ih
def kM(f:Str)(v:V):∀fs:List (Str×V),f∈(gw f v fs).map (·.1)/\∀g,g∈fs.map (·.1)->g∈(gw f v fs).map (·.1)
 |[]=>⟨by simp[gw],λg h=>by simp at h⟩
 |(k,x)::r=>by
  let⟨i1,i2⟩:=kM f v r;rw[show gw f v ((k,x)::r)=(if k=f then(k,v)::r else(k,x)::gw f v r)from rfl];by_cases hk:k=f
  .rw[if_pos hk];subst hk;exact⟨by simp,λg h=>by simpa using h⟩
  .rw[if_neg hk];refine⟨?_,λg h=>?_⟩
   .rw[List.map_cons];exact Um _ i1
   .rw[List.map_cons]at h⊢;rcases mem_cons.mp h with e|e
    .exact mem_cons.mpr (.inl e)
    .exact Um _ (i2 g e)
def lH(f:Str)(v:V):∀fs:List (Str×V),(gw f v fs).length<=fs.length+1
 |[]=>by simp[gw]
 |(k,x)::r=>by
  have ih:=lH f v r;rw[show gw f v ((k,x)::r)=(if k=f then(k,v)::r else(k,x)::gw f v r)from rfl];by_cases hk:k=f
  .rw[if_pos hk,length_cons,length_cons];omega
  .rw[if_neg hk,length_cons,length_cons];omega
def RelO.some_of(r:RelO (!v) o):∃u,o=!u/\RelV v u:=by
 cases o with
 |none=>exact(r).elim
 |some u=>exact⟨u,rfl,r⟩
def RelO.none_of(r:RelO none o):o=none:=by grind [RelO]
def xh(r:RelV v u):PySem.W.handedIn u=true:=by
 cases v with
 |non=>cases(r);rfl
 |bl b=>cases(r);rfl
 |int i=>let⟨t,e⟩:=(r);cases e;rfl
 |str x=>let⟨t,e⟩:=(r);cases e;rfl
 |byt b=>let⟨t,e⟩:=(r);cases e;rfl
 |flt b=>let⟨t,e⟩:=(r);cases e;rfl
 |ref a=>cases(r);rfl
 |ty n=>cases(r);rfl
section
variable{P:Program}{w:World}{H H':Hp}{h h':Heap}{a C dx:Addr}{fs fs':List (Str×V)}
def pX(g:HOk P w H h)(e:H a=!(.ins C dx fs)):∃mA,ObjM h a dx C mA/\(∀f,RelO (fs.lookup f) (mA f))/\PySem.Within mA (fs.map (·.1))/\fs.length<=1000/\H dx=!(.own a):=by
 let⟨d,z,ne,j,mA,n,r,q⟩:=(g a _ e);exact⟨mA,⟨j,n,ne⟩,r,q,z,d⟩
end
structure Cls(K:Frag)(C:Addr):Prop where
 pg:PySem.W.plainGet K C Str.empty=true
 hd:PySem.W.hasDictIn K C=true
 po:PySem.W.plainOver K C=true
 sa:findIn K (.ref C) "__setattr__"=!(!(.builtin "object.__setattr__"))
def Cls.get{K}(c:Cls K C)(f:Str):PySem.W.plainGet K C f=true:=c.pg
def  NoAttr(K:Frag)(C:Addr)(f:Str):Prop:=findIn K (.ref C) f=!none
def NoAttr.taker{K}(n:NoAttr K C f):PySem.W.takerIn K C f=!none:=by
 unfold PySem.W.takerIn;grind [NoAttr]
structure Meth(K:Frag)(C:Addr)(m:Str)(f:Addr):Prop where
 at_:findIn K (.ref C) m=!(!(.ref f))
 fn:PySem.W.isFn K (.ref f)=true
 kp:PySem.W.keepIn K (.ref f)=true
section
variable{X:Cx}{pins:TU}{σ:St}{H:Hp}{s:Shared}{a C dx:Addr}{fs:List (Str×V)}{f:Str}{v:V}{A:Around}{E:TX}
def tX(I:Inv X pins σ H s)(e:H a=!(.ins C dx fs))(c:Cls X.K C)(n:NoAttr X.K C f)(l:fs.lookup f=!v)(h:∀u s',Inv X pins σ H s'->RelV v u->Q u s'):wpAny (!5) A (getAttr (.ref a) f b) Q E s:=by
 let⟨mA,O,r,_,_,_⟩:=pX I.hok e;let⟨u,j,g⟩:=RelO.some_of (by rw[<-l];exact r f);exact CF I.kIn O (c.get f) c.hd n j (xh g) (h u _ (I.tok _) g)
def tY(I:Inv X pins σ H s)(e:H a=!(.ins C dx fs))(c:Cls X.K C)(k:Meth X.K C m g)(l:fs.lookup m=none)(h:Q (.ref g,[.ref a]) s):wpAny (!5) A (getMethod (.ref a) m pl) Q E s:=by
 let⟨mA,O,r,_,_,_⟩:=pX I.hok e;have j:=RelO.none_of (by rw[<-l];exact r m);exact yN I.kIn O (c.get m) k.at_ k.fn j h
def t5(I:Inv X pins σ H s)(e:H a=!(.ins C dx fs))(c:Cls X.K C)(n:NoAttr X.K C f)(hl:fs.length<1000)(J:RelV y u)(h:∀s',Inv X pins σ (upd H a (.ins C dx (gw f y fs))) s'->Q () s'):wpAny (!5) A (setAttr (.ref a) f u) Q E s:=by
 let⟨mA,O,r,l,_,p⟩:=pX I.hok e;have T:(fs.map (·.1)).length<=sizeLine:=by rw[length_map,sizeLine_eq];omega
 refine CG I.kIn O c.sa c.po n.taker c.hd l T λh' j t=>h _ ?_;have hd:∃o,h'.get? dx=!o:=let⟨o,_,_,e',_⟩:=j.ns;⟨o,e'⟩;refine I.write (by rw[e];exact True.intro) (.inr p) (λb q hb z=>(t.2 b hb).trans z) hd ?_;refine⟨by rw[al O.ne];exact p,?_,O.ne,j.obj,_,j.ns,λg=>?_,λg U=>?_⟩
 .have:=lH f y fs;omega
 .show RelO ((gw f y fs).lookup g) (if g=f then !u else mA g);rw[lG];by_cases q:g=f
  .rw[if_pos q,if_pos q];exact J
  .rw[if_neg q,if_neg q];exact r g
 .by_cases q:g=f
  .rw[q];exact(kM f y fs).1
  .refine(kM f y fs).2 g (l g λz=>U ?_);show(if g=f then !u else mA g)=none;rw[if_neg q];exact z
def Inv.made(I:Inv X pins σ H s):Inv X pins σ (upd (upd H s.heap.objs.size (.own (s.heap.objs.size+1))) (s.heap.objs.size+1) (.ins C s.heap.objs.size []))
  {s with heap:=(s.heap.push PySem.W.emptyDict).push (PySem.W.instObj C s.heap.objs.size)}:=by
 have e1:(s.heap.push PySem.W.emptyDict).get? s.heap.objs.size=!PySem.W.emptyDict:=Ui s.heap rfl
 have e2:((s.heap.push PySem.W.emptyDict).push (PySem.W.instObj C s.heap.objs.size)).get? (s.heap.objs.size+1)=!(PySem.W.instObj C s.heap.objs.size):=by
  have:=Ui (s.heap.push PySem.W.emptyDict) (o:=PySem.W.instObj C s.heap.objs.size) rfl;rwa [Heap.size_push]at this
 have e3:(s.heap.push PySem.W.emptyDict).Ns s.heap.objs.size (λ_=>none):=⟨PySem.W.emptyDict,#[],_,e1,rfl,(λe he=>absurd he (by simp)),λ_=>rfl⟩
 have I1:=I.laid (o:=.own (s.heap.objs.size+1)) (t':=s.toks) (λb u q=>Ue _ q) (UB _) ⟨_,e1⟩
 refine I1.laid (λb u q=>Ue _ q) (Nat.le_of_eq (Heap.size_push _ _)) ?_
 have ne:s.heap.objs.size≠s.heap.objs.size+1:=Us (Nat.lt_succ_self _)
 refine⟨by rw[al ne,ak],Nat.zero_le _,ne,e2,λ_=>none,(Heap.Ns1.of_empty e3).at λo q=>Ue _ q,λ_=>True.intro,λy hy=>absurd rfl hy⟩
def CH(j:attributeBase e f env (eval e env)=eval e env)(h:wpAny (!7) A (eval e env) (λo g=>wpAny (!7) A (getAttr o f true) Q E g) E s):wpAny (!7) A (eval (.Attribute e f pos) env) Q E s:=
 Attribute_any_ h (by rw[arm_eval_Attribute,j])
end
def  Pp(K:Frag)(ta:TE)(f:Str):TE:=λσ H Q=>ta σ H λx H1=>∃a C dx fs v,x=.ref a/\H1 a=!(.ins C dx fs)/\Cls K C/\NoAttr K C f/\fs.lookup f=!v/\Q v H1
def  Pq(K:Frag)(ta tv:TE)(f:Str):TS:=λD σ H=>tv σ H λy H1=>ta σ H1 λx H2=>∃a C dx fs,x=.ref a/\H2 a=!(.ins C dx fs)/\Cls K C/\NoAttr K C f/\fs.length<1000/\
 D.nx σ (upd H2 a (.ins C dx (gw f y fs)))
section
variable{X:Cx}{o e value:Expr}{f:Str}{pos pos' tpos:Pos}{ta tv:TE}
def He(j:PE X e ta)(o:attributeBase e f X.env (eval e X.env)=eval e X.env):PE X (.Attribute e f pos) (Pp X.K ta f):=by
 intro pins s σ H Q I h;refine CH o (bu (j pins s σ H _ I h) λu U ⟨x,H1,t,rx,a,C,dx,fs,v,ex,p,c,n,l,q⟩=>?_);subst ex;obtain rfl:u=Value.ref a:=rx;exact tX t p c n l λJ T r g=>⟨v,H1,r,g,q⟩
def Hf(T:PE X o ta)(t:PE X value tv)(J:swapsWith value (!(.Attribute o f pos')) pos.line X.env=pure false):PS X (.Assign [.Attribute o f pos'] value pos) (Pq X.K ta tv f):=by
 intro pins s σ H D I h;refine plainObj_wpAny_Assign_Attribute (bu (t pins s σ H _ I h) λu g ⟨y,H1,I1,j,q⟩=>bu (T pins g σ H1 _ I1 q) λr s2 ⟨x,H2,I2,rx,a,C,dx,fs,ex,U,c,n,l,p⟩=>?_) J;subst ex;obtain rfl:r=Value.ref a:=rx;exact t5 I2 U c n l j λs3 I3=>⟨σ,_,I3,p⟩
end
structure Room(k:Nat)(A:Around):Prop where
 hd:A.handled=none
 dp:A.depth+3*k+5<recursionLimit
 un:A.units+16*k+200<cLine
def Room.mono(r:Room k A)(h:j<=k):Room j A:=⟨r.hd,by have:=r.dp;omega,by have:=r.un;omega⟩
def Room.deeper(r:Room (k+1) A)(env:Env):Room k (A.deeper env):=
 ⟨r.hd,by have:=r.dp;show A.depth+1+3*k+5<_;omega,by have:=r.un;show A.units+3+16*k+200<_;omega⟩
def t6{A:Around}:(A.under (.builtin "type.__call__" ⟨.ref C::g,j⟩)).depth=A.depth+1:=by constructor<;>grind
def t9{A:Around}:(A.under (.builtin "type.__call__" ⟨.ref C::g,j⟩)).units=A.units+1:=by constructor<;>grind
def Room.make(r:Room (k+1) A)(C:Addr)(g:TY)(j:List (Str×Value)):Room k (A.under (.builtin "type.__call__" ⟨.ref C::g,j⟩)):=
 ⟨r.hd,by have:=r.dp;rw[t6];omega,by have:=r.un;rw[t9];omega⟩
def Room.depth(r:Room k A):A.depth<recursionLimit:=by have:=r.dp;omega
def  tNil:TA:=λ_ H Q=>Q [] H
def  Fz(ta:TE)(tr:TA):TA:=λσ H Q=>ta σ H λx H1=>tr σ H1 λxs H2=>Q (x::xs) H2
section
variable{X:Cx}{e:Expr}{es:Ua}{te:TE}{t:TA}{pos:Pos}
def pa_nil:PA X [] tNil:=λ_ _ _ _ H Q I h=>Calls.spliced_nil ⟨[],H,I,.nil,h⟩
def bv(J:PE X e te)(C:PA X es t)(r:starEach (e::es) X.env=(false,eval e X.env)::starEach es X.env:=by rfl):PA X (e::es) (Fz te t):=by
 intro pos pins s σ H Q I h;rw[r];show wpAny _ _ (spliced ((false,eval e X.env)::backTo pos (starEach es X.env))) _ _ s;refine Calls.spliced_cons (bu (J pins s σ H _ I h) λu g ⟨x,H1,U,l,p⟩=>?_);exact bu (C pos pins g σ H1 _ U p) λus s2 ⟨xs,H2,T,j,o⟩=>⟨x::xs,H2,T,.cons l j,o⟩
def  Pr(t:TA):TE:=λσ H Q=>t σ H λxs H1=>xs.length<=sizeLine/\∀p,H1 p=none->Q (.ref p) (upd H1 p (.tup xs))
def  Pt(t:TA):TE:=λσ H Q=>t σ H λxs H1=>xs.length<=sizeLine/\∀p,H1 p=none->Q (.ref p) (upd H1 p (.lst xs))
def ua{x1}(h:PA X es t):PE X (.Tuple es x1 pos) (Pr t):=by
 intro pins s σ H Q I o;refine wpAny_Tuple_spliced (bu (h pos pins s σ H _ I o) λl g ⟨xs,H1,j,r,z,q⟩=>⟨by rw[<-r.length];exact z,?_⟩);have p:=j.hok.fresh (UB _);refine⟨.ref g.heap.objs.size,upd H1 g.heap.objs.size _,j.laid (λb u e=>Ue _ e) (UB _) ?_,rfl,q _ p⟩;exact⟨z,l,r,⟨_,Ui _ rfl,rfl,_,rfl⟩⟩
def yO(h:PA X es t):PE X (.List es pos) (Pt t):=by
 intro pins s σ H Q I o;refine wpAny_List_spliced (bu (h pos pins s σ H _ I o) λl g ⟨xs,H1,j,r,z,q⟩=>⟨by rw[<-r.length];exact z,?_⟩);have p:=j.hok.fresh (UB _);refine⟨.ref g.heap.objs.size,upd H1 g.heap.objs.size _,j.laid (λb u e=>Ue _ e) (UB _) ?_,rfl,q _ p⟩;exact⟨z,l,0,r,Ui _ rfl⟩
end
abbrev Sp:=List V->Hp->VK->XK->Prop
abbrev Cp:=List Env->Hp->Shared->XK->TX
structure Env0(P:Program)(w:World)(K:Frag)(mg:Str->TZ)(base:Heap)(A:Around)(outer:List Env)(s:Shared)(H:Hp):Prop where
 frames:A.frames=!outer
 mod:Mod K mg base
 bs:∀b o,base.get? b=!o->s.heap.get? b=!o/\H b=none
 bsz:base.objs.size<=s.heap.objs.size
 funs:s.heap.FunFrames base outer
 frf:∀b∈frs outer,H b=none
 hok:HOk P w H s.heap
 bare:AllBare s.gens
def  CE(outer:List Env)(P:Program)(w:World)(H:Hp)(s:Shared)(Q:VK)(u:Value)(s':Shared):Prop:=
 ∃v H',s'.os=s.os/\AllBare s'.gens/\Un (frs outer) [] H H' s.heap s'.heap/\HOk P w H' s'.heap/\RelV v u/\Q v H'
def  CR(CX:Cp)(outer:List Env)(P:Program)(w:World)(H:Hp)(s:Shared)(Q:VK)(E:XK)(r:Result)(s':Shared):Prop:=
 match r with
 |.ok (.ret u)=>CE outer P w H s Q u s'
 |.ok _=>False
 |.error e=>CX outer H s E e s'
structure FnOk(P:Program)(w:World)(K:Frag)(mg:Str->TZ)(base:Heap)(CX:Cp)(k:Nat)(f:Addr)(fd:FuncData)(ps:T3)(sp:Sp):Prop where
 len:∀vs H Q E,sp vs H Q E->vs.length=ps.length
 run:∀(A:Around)(outer:List Env)(s:Shared)(H:Hp)(args:Args)(us:TY)(vs:List V)(Q:VK)(E:XK),Room k A->Env0 P w K mg base A outer s H->BindsTo s fd args (ps.zip us)->Vals vs us->sp vs H Q E->
  codeAny (model P w) A (.call (.ref f) args) (CR CX outer P w H s Q E) s
def FnOk.imp{K}(F:FnOk P w K mg base CX k f fd ps sp)(h:∀j H Q E,l j H Q E->sp j H Q E):FnOk P w K mg base CX k f fd ps l:=
 ⟨λj H Q E q=>F.len j H Q E (h _ _ _ _ q),λA g s H args o j Q E t C I p r=>F.run A g s H args o j Q E t C I p (h _ _ _ _ r)⟩
def Env0.make{K}(e:Env0 P w K mg base A g s H)(C:Addr)(j:TY)(l:List (Str×Value)):
 Env0 P w K mg base (A.under (.builtin "type.__call__" ⟨.ref C::j,l⟩)) g s H:=⟨by first|exact e.frames|(simpa [Around.under,Code.envs,Code.isFrame,pushEnvs] using e.frames),e.mod,e.bs,e.bsz,e.funs,e.frf,e.hok,e.bare⟩
section
variable{X:Cx}{pins:TU}{σ:St}{H:Hp}{s s':Shared}
def Inv.env0(I:Inv X pins σ H s):Env0 X.prog X.w X.K X.mg X.base X.A X.stack s H:=
 ⟨I.ok.frames,I.ok.mod,I.bs,Ur I.ok.bsz I.sz,I.stack,I.stkFree,I.hok,I.bare⟩
def Inv.after(I:Inv X pins σ H s)(h:CE X.stack X.prog X.w H s Q u s'):EP X pins σ Q u s':=by
 let⟨v,H',os,bare,un,l,r,q⟩:=h;let⟨o,g,d,t,j⟩:=s';obtain rfl:j=s.os:=os;exact⟨v,H',I.call un l bare (λb z=>absurd z (by simp)),r,q⟩
end
def  Ls(sp:Sp)(dvs:List V)(E:XK)(t:TA):TE:=λσ H Q=>t σ H λvs H1=>sp (vs++dvs) H1 Q E
def  Lu(C:Addr)(m:Str)(sp:Sp)(dvs:List V)(E:XK)(ta:TE)(t:TA):TE:=λσ H Q=>ta σ H λx H1=>∃a dx fs,x=.ref a/\H1 a=!(.ins C dx fs)/\fs.lookup m=none/\
 t σ H1 λvs H2=>sp (x::(vs++dvs)) H2 Q E
def  Lv(C:Addr)(sp:Sp)(dvs:List V)(E:XK)(t:TA):TE:=λσ H Q=>t σ H λvs H1=>∀x dx,H1 x=none->H1 dx=none->dx≠x->
 sp (.ref x::(vs++dvs)) (upd (upd H1 dx (.own x)) x (.ins C dx [])) (λv H2=>v=.non/\Q (.ref x) H2) E
def  Binds(K:Frag)(fd:FuncData)(ps:T3)(ds:TY):Prop:=
 ∀(s:Shared)(us:TY),K.In s.heap->(us++ds).length=ps.length->BindsTo s fd ⟨us,[]⟩ (ps.zip (us++ds))
def Binds.all{K}(h:∀g:TY,g.length=ps.length->bindArgs fd ⟨g,[]⟩=pure (ps.zip g)):Binds K fd ps []:=λs g _ j=>by
 rw[List.append_nil]at j⊢;exact .of_eq (h g j)
def  kN(CX:Cp)(X:Cx)(E:XK):Prop:=∀(pins:TU)(σ:St)(H:Hp)(s:Shared)(e:Value)(s':Shared),Inv X pins σ H s->CX X.stack H s E e s'->X.xe e s'
section
variable{X:Cx}{CX:Cp}{k:Nat}{f C:Addr}{fd:FuncData}{ps:T3}{sp:Sp}{dvs:List V}{ds:TY}{E:XK}{x m:Str}{p pos apos:Pos}{e o:Expr}{es:Ua}{ta:TE}{t:TA}
def yP{σ:St}(F:FnOk X.prog X.w X.K X.mg X.base CX k f fd ps sp)(p:Room k X.A)(C:Binds X.K fd ps ds)(hd:Vals dvs ds)(o:kN CX X E)(I:Inv X pins σ H s)(r:Vals vs j)(h:sp (vs++dvs) H Q E):wpAny (!5) X.A (call (.ref f) j) (EP X pins σ Q) X.xe s:=by
 have l:=r.append hd;have t:(j++ds).length=ps.length:=by rw[<-l.length];exact F.len _ _ _ _ h
 refine wpAny_call (codeAny_mono (F.run X.A X.stack s H ⟨j,[]⟩ _ _ Q E p I.env0 (C s j I.kIn t) l h) λr s' g=>?_);cases r with
 |error e=>exact o pins σ H s e s' I g
 |ok J=>
  cases J with
  |ret u=>exact I.after g
  |next=>exact False.elim g
  |brk=>exact False.elim g
  |cont=>exact False.elim g
def vy(F:FnOk X.prog X.w X.K X.mg X.base CX k f fd ps sp)(C:Room k X.A)(U:Gl X x)(J:X.mg x=!(.ref f))(T:PySem.W.keepIn X.K (.ref f)=true)(hb:Binds X.K fd ps ds)(hd:Vals dvs ds)(o:kN CX X E)
  (ha:PA X (e::es) t) (j:(!8)=false:=by decide) (he:starEach (e::es) X.env=(false,eval e X.env)::starEach es X.env:=by rfl) (g:(!18).any (·.1)=false:=by rfl):
  PE X (.Call (.Name x p) (e::es) [] pos) (Ls sp dvs E t):=by
 intro pins s σ H Q I h
 refine wpAny_Call_Name_kw (gr I U J ?_ j)
 refine PySem.W.callWith_K I.ok.mod.kin T (bu (ha pos pins s σ H _ I h) λus s1 ⟨vs,H1,l,r,q⟩=>⟨l.kIn,?_⟩) he g
 exact yP F C hb hd o l r q
def yQ(T : PE X o ta)(c : Cls X.K C)(p : Meth X.K C m f)(F : FnOk X.prog X.w X.K X.mg X.base CX k f fd ps sp)(J : Room k X.A)(U : Binds X.K fd ps ds)(hd : Vals dvs ds)(r : kN CX X E)(t : eval (.Call (.Attribute o m apos) [] [] pos) X.env = (do
   let j <- eval o X.env
   standAt apos.atName
   let (f,first) <- holding [j] (getMethod j m pl)
   callWith pos f first (backTo pos (starEach [] X.env)) (backToKw pos (keywordEach [] X.env))):=by rfl) :
  PE X (.Call (.Attribute o m apos) [] [] pos) (Lu C m sp dvs E ta tNil):=by
 intro pins s σ H Q I h
 refine PySem.W.methodCall_KW (bu (T pins s σ H _ I h) fun u s1 ⟨x,H1,g,rx,a,dx,fs,ex,ea,l,q⟩=>?_) t
 subst ex
 obtain rfl:u = Value.ref a:=rx
 refine tY g ea c p l ?_
 exact PySem.W.callWith_K0 g.kIn p.kp (yP (vs:=[.ref a]) F J U hd r g (.cons rfl .nil) q)
structure Mk(K:Frag)(C f:Addr):Prop where
 makes:PySem.W.makesIn K C=true
 init:findIn K (.ref C) "__init__"=!(!(.ref f))
 fn:PySem.W.isFn K (.ref f)=true
 kp:PySem.W.keepIn K (.ref C)=true
def yR{σ:St}(M:Mk X.K C f)(F:FnOk X.prog X.w X.K X.mg X.base CX k f fd ps sp)(hr:Room (k+1) X.A)(hb:Binds X.K fd ps ds)(hd:Vals dvs ds)(hx:kN CX X E)(I:Inv X pins σ H s)(r:Vals vs us)(h:∀x dx,H x=none->H dx=none->dx≠x->sp (.ref x::(vs++dvs)) (upd (upd H dx (.own x)) x (.ins C dx [])) (λv H2=>v=.non/\Q (.ref x) H2) E):
  wpAny (!5) X.A (call (.ref C) us) (EP X pins σ Q) X.xe s:=by
 have hq:=h _ s.heap.objs.size (I.hok.fresh (Nat.le_succ _)) (I.hok.fresh (UB _)) (Us (Nat.lt_succ_self _))
 have I2:=Inv.made (C:=C) I
 have r2:Vals (V.ref (s.heap.objs.size+1)::(vs++dvs)) (Value.ref (s.heap.objs.size+1)::(us++ds)):=.cons rfl (r.append hd)
 have hl:(Value.ref (s.heap.objs.size+1)::us++ds).length=ps.length:=by
  have e:=r2.length;rw[F.len _ _ _ _ hq]at e;exact e.symm
 refine wpAny_call (rJ I.kIn M.makes M.init (beq_iff_eq.mp M.fn) (codeAny_mono (F.run _ X.stack _ _ ⟨Value.ref _::us,[]⟩ (Value.ref _::(us++ds)) _ _ E (hr.make C us [])
  (I2.env0.make C us []) (hb _ (Value.ref _::us) I2.kIn hl) r2 hq) λr s' hq'=>?_))
 cases r with
 |error e=>exact hx pins σ _ _ e s' I2 hq'
 |ok fl=>
  cases fl with
  |ret u=>
   let⟨v,H',I3,rv,ev,q3⟩:=I2.after hq';subst ev;exact⟨rv,⟨V.ref _,H',I3,rfl,q3⟩⟩
  |next=>exact False.elim hq'
  |brk=>exact False.elim hq'
  |cont=>exact False.elim hq'
def CI(M:Mk X.K C f)(F:FnOk X.prog X.w X.K X.mg X.base CX k f fd ps sp)(J:Room (k+1) X.A)(U:Gl X x)(T:X.mg x=!(.ref C))(hb:Binds X.K fd ps ds)(hd:Vals dvs ds)(o:kN CX X E)
  (ha:PA X (e::es) t) (j:(!8)=false:=by decide) (he:starEach (e::es) X.env=(false,eval e X.env)::starEach es X.env:=by rfl) (g:(!18).any (·.1)=false:=by rfl):
  PE X (.Call (.Name x p) (e::es) [] pos) (Lv C sp dvs E t):=by
 intro pins s σ H Q I h
 refine wpAny_Call_Name_kw (gr I U T ?_ j)
 refine PySem.W.callWith_K I.ok.mod.kin M.kp (bu (ha pos pins s σ H _ I h) λus s1 ⟨vs,H1,l,r,q⟩=>⟨l.kIn,?_⟩) he g
 exact yR M F J hb hd o l r q
end
structure FnScope(N P:T3)(sc:Scope):Prop where
 kind:sc.kind=.function
 co:sc.isCoroutine=false
 gen:sc.isGenerator=false
 nd:N.Nodup
 pre:N.take P.length=P
 par:∀x∈P,sc.names.lookup x=some .local\/sc.names.lookup x=some .cell
 nofree:∀y∈sc.names,y.2≠.free
def oQ{kindOf}:∀{binds:List (Str×Value)}{m:Str->TZ},(∀v,(x,v) ∉ binds)->bindL kindOf binds m x=m x
 |[],_,_=>rfl
 |(n,v)::r,m,h=>by
  unfold bindL;rw[oQ λw hw=>h w (mem_cons_of_mem _ hw)];split
  .have:x≠n:=by rintro rfl;exact h v Ul
   simp[this]
  .rfl
def oR{kindOf}:∀{binds:List (Str×Value)}{m:Str->TZ},(∀v,(x,v) ∉ binds)->bindC kindOf binds m x=m x
 |[],_,_=>rfl
 |(n,v)::r,m,h=>by
  unfold bindC;rw[oR λw hw=>h w (mem_cons_of_mem _ hw)];split
  .rfl
  .have:x≠n:=by rintro rfl;exact h v Ul
   simp[this]
def oS{kindOf}:∀{P:T3}{vs:TY}{i:Nat}{m:Str->TZ},P.Nodup->P[i]?=!x->vs[i]?=!v->kindOf x=some .local->
  bindL kindOf (P.zip vs) m x=!v
 |[],_,_,_,_,h,_,_=>by simp at h
 |_::_,[],_,_,_,_,h,_=>by simp at h
 |p::P,w::vs,0,m,nd,h1,h2,hk=>by
  simp at h1 h2;subst h1;subst h2;show bindL kindOf ((p,w)::P.zip vs) m p=_;unfold bindL;rw[oQ λv hv=>(List.nodup_cons.mp nd).1 (List.of_mem_zip hv).1,if_pos hk];simp
 |p::P,w::vs,i+1,m,nd,h1,h2,hk=>by
  show bindL kindOf ((p,w)::P.zip vs) m x=_;unfold bindL;exact oS (i:=i) (List.nodup_cons.mp nd).2 (by simpa using h1) (by simpa using h2) hk
def oU{kindOf}:∀{P:T3}{vs:TY}{i:Nat}{m:Str->TZ},P.Nodup->P[i]?=!x->vs[i]?=!v->kindOf x≠some .local->
  bindC kindOf (P.zip vs) m x=!v
 |[],_,_,_,_,h,_,_=>by simp at h
 |_::_,[],_,_,_,_,h,_=>by simp at h
 |p::P,w::vs,0,m,nd,h1,h2,hk=>by
  simp at h1 h2;subst h1;subst h2;show bindC kindOf ((p,w)::P.zip vs) m p=_;unfold bindC;rw[oR λv hv=>(List.nodup_cons.mp nd).1 (List.of_mem_zip hv).1,if_neg hk];simp
 |p::P,w::vs,i+1,m,nd,h1,h2,hk=>by
  show bindC kindOf ((p,w)::P.zip vs) m x=_;unfold bindC;exact oU (i:=i) (List.nodup_cons.mp nd).2 (by simpa using h1) (by simpa using h2) hk
noncomputable def  gZ(N:T3)(vs:List V):St:=vs.map some++List.replicate (N.length-vs.length) none
def  jK(CX:Cp)(P:Program)(w:World)(K:Frag)(mg:Str->TZ)(base:Heap)(N:T3)(qual:Str)(scope:Scope)(f:Addr)(cd:Value)(A:Around)(outer:List Env)(s:Shared)(H:Hp)(E:XK):Cx where
 prog:=P
 w:=w
 K:=K
 mg:=mg
 base:=base
 A:=A.deeper (envOfC qual scope s.heap.objs.size f cd)
 N:=N
 s₀:=s
 H₀:=H
 env:=envOfC qual scope s.heap.objs.size f cd
 outer:=outer
 stack:=envOfC qual scope s.heap.objs.size f cd::outer
 ex:=[]
 calm:=true
 fn:=λ_=>true
 pn:=[]
 xe:=λe s'=>wpAny (model P w) (A.deeper (envOfC qual scope s.heap.objs.size f cd)) (leaving (envOfC qual scope s.heap.objs.size f cd) e) (λ_ s''=>CX outer H s E e s'') (λe' s''=>CX outer H s E e' s'') s'
def rK{g:Scope}(h:g.names.lookup x=some .cell):∃c,(cellsFrom n g.names []).lookup x=!c:=by
 have q:=PySem.W.cellsFrom_some g.names n [] (.inl h);exact Option.isSome_iff_exists.mp q
def xi{K}(S:FnScope N ps scope)(hd:A.handled=none)(e0:Env0 P w K mg base A outer s H)(hl:vs.length=ps.length)(r:Vals vs us)(x:InCallC s s.heap.objs.size (bindL (envOfC qual scope s.heap.objs.size f cd).kindOf (ps.zip us) λ_=>none) (cellsFrom (s.heap.objs.size+1) scope.names []) (bindC (envOfC qual scope s.heap.objs.size f cd).kindOf (ps.zip us) λ_=>none) s1):
  Inv (jK CX P w K mg base N qual scope f cd A outer s H E) [] (gZ N vs) H s1:=by
 have hpl:ps.length<=N.length:=by have:=congrArg List.length S.pre;rw[List.length_take]at this;omega
 let⟨h1,tk,rfl,hk⟩:=x.done
 have noA:∀b:Addr,b ∉ (jK CX P w K mg base N qual scope f cd A outer s H E).ex:=λb z=>absurd (show b∈([]:List Addr)from z) (by simp)
 refine⟨⟨e0.mod,S.kind,rfl,rfl,UB _,λy z c h1 h2=>?_,λy hy=>?_,λy c _ h=>?_,λ_=>hd,Around.frames_deeper e0.frames,.inr ⟨rfl,rfl⟩,λb z=>absurd z (noA b),e0.bs,e0.bsz,λb _ _=>noA b,λb z=>absurd z (noA b),e0.funs,e0.frf⟩,
  rfl,e0.bare,Un.kept hk,⟨_,x.toInCall.ns,λi y v h1 h2 h3=>?_⟩,λy c h=>⟨_,x.cell y c h⟩,e0.hok.fresh (UB _),λy c h=>?_,λp hp=>absurd (show p∈([]:TU)from hp) (by simp),e0.hok.kept hk,?_⟩
 .exact name_of_addr x.apart (PySem.mem_of_lookup h1) (PySem.mem_of_lookup h2)
 .have hy:scope.names.lookup y=some .cell\/scope.names.lookup y=some .free:=hy;rcases hy with hy|hy
  .exact rK hy
  .exact absurd rfl (S.nofree _ (PySem.mem_of_lookup hy))
 .exact Uy (x.above y c (PySem.mem_of_lookup h))
 .have hi:i<vs.length:=by
   unfold gZ at h2;by_cases hi:i<vs.length
   .exact hi
   .rw[getElem?_append_right (by simpa using hi)]at h2;rw[List.getElem?_replicate]at h2;split at h2<;>cases h2
  have ha:vs[i]?=!v:=by
   unfold gZ at h2;rw[getElem?_append_left (by simpa using hi),getElem?_map]at h2;cases e:vs[i]? with
   |none=>rw[e]at h2;cases h2
   |some a=>rw[e]at h2;cases h2;rfl
  let⟨u,hu,rv⟩:=r.get ha;have hp:ps[i]?=!y:=by
   rw[<-S.pre,List.getElem?_take_of_lt (!3)];exact h1
  have ndP:ps.Nodup:=by rw[<-S.pre];exact S.nd.sublist (List.take_sublist _ _)
  refine⟨u,rv,?_⟩;rcases S.par y (UA hp)with k|k
  .exact .inl ⟨k,oS ndP hp hu k⟩
  .let⟨c,e⟩:=rK k;refine .inr ⟨.inl k,c,e,?_⟩;have q:=x.cell y c e;rw[oU ndP hp hu (by show scope.names.lookup y≠_;rw[k];decide)]at q;exact q
 .exact e0.hok.fresh (Uy (x.above y c (PySem.mem_of_lookup h)))
 .unfold gZ;show _=N.length;rw[length_append,length_map,List.length_replicate];omega
def FA{K}{dV kV doc pm l ct oc}(lk:K.lookup f=!⟨oc,od,.func (PySem.W.fnOf name j C body scope dV kV doc pm an l ct),osl⟩)(hcd:PySem.W.codeIn K l j=true)(S:FnScope N ps scope)(len:∀T H Q E,sp T H Q E->T.length=ps.length)(hbody:∀(A:Around)(g:List Env)(s:Shared)(H:Hp)(T:List V)(Q:VK)(E:XK),Room k (A.deeper (envOfC j scope s.heap.objs.size f l))->sp T H Q E->
   ∃t,PSs (jK CX P w K mg base N j scope f l A g s H E) body t/\t {nx:=λ_ H'=>Q .non H',rt:=Q} (gZ N T) H):
  FnOk P w K mg base CX (k+1) f (PySem.W.fnOf name j C body scope dV kV doc pm an l ct) ps sp:=by
 refine⟨len,λA g s H args us T Q E hr e0 hb r hsp=>?_⟩
 have hl:=len _ _ _ _ hsp
 have KX:=e0.mod.kin.keeps λb o e=>(e0.bs b o e).1
 have lim:=e0.mod.nolimit.keeps λb o e=>(e0.bs b o e).1
 have U:∀y∈ps.zip us,scope.names.lookup y.1=some .local\/(scope.names.lookup y.1=some .cell/\((cellsFrom (s.heap.objs.size+1) scope.names []).lookup y.1).isSome=true):=λ⟨n,v⟩ hy=>by
  rcases S.par n (List.of_mem_zip hy).1 with q|q
  .exact .inl q
  .exact .inr ⟨q,PySem.W.cellsFrom_some _ _ _ (.inl q)⟩
 refine codeAny_call_function hr.depth (KX _ _ lk) rfl S.co S.gen rfl (PySem.W.codeRec_of KX hcd) (hb _ _ _ _ ?_)
 refine wpAny_newFunctionEnv_cells S.kind U λenv he s1 x=>?_
 subst he
 refine⟨lim.keeps x.toInCall.keep,codeAny_func ?_⟩
 let⟨t,ht,hq⟩:=hbody A g s H T Q E (hr.deeper _) hsp
 have I:Inv (jK CX P w K mg base N j scope f l A g s H E) [] (gZ N T) H s1:=xi S hr.hd e0 hl r x
 refine UC (ht [] s1 _ H _ I hq) (λfl s' hs=>?_) λe s' hs=>hs
 have fin:∀{p:St}{H':Hp}{v:V}{u:Value},Inv (jK CX P w K mg base N j scope f l A g s H E) [] p H' s'->RelV v u->Q v H'->CE g P w H s Q u s':=
  λ{p H' v u} J rv q=>⟨v,H',J.os,J.bare,J.base,J.hok,rv,q⟩
 cases fl with
 |ret u=>
  let⟨v,p,H',J,rv,q⟩:=hs;exact fin J rv q
 |next=>
  let⟨p,H',J,q⟩:=hs;exact fin (v:=V.non) J rfl q
 |brk=>
  let⟨_,_,_,q⟩:=hs;exact False.elim q
 |cont=>
  let⟨_,_,_,q⟩:=hs;exact False.elim q
section
variable{X:Cx}{x:Str}{p pos:Pos}{e:Expr}{es:Ua}{t:TA}{id T:String}{r:List V->Hp->VK->Prop}
def  RI(r:List V->Hp->VK->Prop)(t:TA):TE:=λσ H Q=>t σ H λvs H1=>r vs H1 Q
def g9(hc:dI X (.builtin id) r)(hg:Gl X x)(hm:X.mg x=none)(U:bootBuiltins x=!(.builtin id))(ha:PA X (e::es) t)(hn:x≠"__name__":=by decide)(j:(!8)=false:=by decide)
  (he:starEach (e::es) X.env=(false,eval e X.env)::starEach es X.env:=by rfl) (g:(!18).any (·.1)=false:=by rfl):PE X (.Call (.Name x p) (e::es) [] pos) (RI r t):=by
 intro pins s σ H Q I h
 refine wpAny_Call_Name_kw (db I hg hm U ?_ hn j)
 exact PyProof.Rows.callWith_builtin1 (bu (ha pos pins s σ H _ I h) λo C ⟨l,H1,I1,J,T⟩=>hc pins C σ H1 l o Q I1 J T) he g
def oV(hc:dI X (.type T) r)(hg:Gl X x)(hm:X.mg x=none)(hv:bootBuiltins x=!(.type T))(ha:PA X (e::es) t)(hn:x≠"__name__":=by decide)(j:(!8)=false:=by decide)
  (he:starEach (e::es) X.env=(false,eval e X.env)::starEach es X.env:=by rfl) (g:(!18).any (·.1)=false:=by rfl):PE X (.Call (.Name x p) (e::es) [] pos) (RI r t):=by
 intro pins s σ H Q I h
 refine wpAny_Call_Name_kw (db I hg hm hv ?_ hn j)
 exact PyProof.Rows.callWith_type1 (bu (ha pos pins s σ H _ I h) λo C ⟨l,H1,I1,J,U⟩=>hc pins C σ H1 l o Q I1 J U) he g
end
end L2
namespace HT
open PySem PyProof.Rows
noncomputable def  lexLt:T5->T5->Bool
 |[],[]=>false
 |[],_::_=>true
 |_::_,[]=>false
 |x::xs,y::ys=>if x=y then lexLt xs ys else decide (x<y)
def ub(x y:Int)(xs ys:T5):lexLt (x::xs) (y::ys)=if x=y then lexLt xs ys else decide (x<y):=rfl
def oz:lexLt [] []=false:=rfl
def mK(y:Int)(ys:T5):lexLt [] (y::ys)=true:=rfl
def mL(x:Int)(xs:T5):lexLt (x::xs) []=false:=rfl
def yS(A:Around)(s:Shared)(a:Int)(t:Tok)(c:Int)(u:Tok):∃e,SeqAt.EqAt A s (.int a t) (.int c u) e/\(e=true↔a=c):=
 ⟨(a==c),SeqAt.EqAt.int_int a t c u,by simp⟩
def yT(A:Around)(s:Shared)(a:Int)(t:Tok)(c:Int)(u:Tok)(prog:Program)(w:World)(E:TX)(Q:TX)(h:Q (.bool (decide (a<c))) s):
  wpAny (!7) A (richCompare .Lt (.int a t) (.int c u)) Q E s:=
 (PyProof.Rows.lt_int h:wpAny _ A (compareOp .Lt _ _) Q E s)
section
open PySem.SeqAt
open PySem.AutoSeq1 (wpAny_loadPart')
open PySem.MeetsSeq PySem.MeetsSeq2 PySem.MeetsSeq3
def oA(l b:Addr)(items items2:T7)(n n2:Nat)(dd dd2:Option Addr)(sl sl2:Array (TZ))(ns ms:T5)(hi:IntsAre items.toList ns)(hj:IntsAre items2.toList ms):
  Meets (Builtin.«tuple.__lt__» ⟨[.ref l,.ref b],[]⟩)
   (λ_ R s=>s.heap.get? l=some {cls:=.type "tuple",dict:=dd,data:=.seq items n,slots:=sl}/\s.heap.get? b=some {cls:=.type "tuple",dict:=dd2,data:=.seq items2 n2,slots:=sl2}/\
    R (.ok (.ret (.bool (lexLt ns ms)))) s):=
 .of_wp λprog w A R s h=>by
  let⟨hp,g,d,tk,os⟩:=s;let⟨hl,hb,h⟩:=h;have f2:=AutoSeq1.sub_tuple_tuple;have z1:items.size=ns.length:=by rw[<-hi.length];simp
  have z2:items2.size=ms.length:=by rw[<-hj.length];simp
  wp_walk using wpAny_loadPart' hl,wpAny_loadPart' hb,wpAny_forIn_list _ (λrest b s'=>b.1=none/\s'=⟨hp,g,d,tk,os⟩/\∃(vs ws:TY)(ns' ms':T5),rest=vs.zip ws/\
   IntsAre vs ns'/\IntsAre ws ms'/\ns'.length+items2.size=ms'.length+items.size/\R (.ok (.ret (.bool (lexLt ns' ms')))) ⟨hp,g,d,tk,os⟩) _
  case turn=>
   rintro⟨y,x⟩ rest b s' ⟨hb',rfl,vs,ws,ns',ms',hz,hvi,hwi,hlen,hR⟩;cases hvi with
   |nil=>rw[List.zip_nil_left]at hz;cases hz
   |cons a t hvi'=>
    cases hwi with
    |nil=>rw[List.zip_nil_right]at hz;cases hz
    |cons c u hwi'=>
     rw[List.zip_cons_cons]at hz;injection hz with hyx hrest;injection hyx with hy hx;subst hy hx;rw[ub]at hR;simp only[length_cons]at hlen;let⟨e,he,hiff⟩:=yS A.in1 ⟨hp,g,d,tk,os⟩ a t c u;refine Ud (he prog w _ _ ?_);cases e with
     |true=>
      rw[if_pos (hiff.mp rfl)]at hR;wp_walk;exact⟨rfl,rfl,_,_,_,_,hrest,hvi',hwi',by omega,hR⟩
     |false=>
      rw[if_neg (λq=>absurd (hiff.mpr q) Bool.false_ne_true)]at hR;have hri:=yT A.in1 ⟨hp,g,d,tk,os⟩ a t c u prog w;wp_walk using hri;exact⟨_,rfl,by simpa using hR⟩
  case fin=>
   rintro⟨b1,b2⟩ s' ⟨hb',rfl,vs,ws,ns',ms',hz,hvi,hwi,hlen,hR⟩;simp only at hb';subst hb';have hv:lexLt ns' ms'=decide (items.size<items2.size):=by
    cases hvi with
    |nil=>
     cases hwi with
     |nil=>
      simp only[List.length_nil]at hlen;rw[oz];exact(decide_eq_false (!3)).symm
     |cons c u hw=>
      simp only[List.length_nil,length_cons]at hlen;rw[mK];exact(decide_eq_true (!3)).symm
    |cons a t hv=>
     cases hwi with
     |nil=>
      simp only[List.length_nil,length_cons]at hlen;rw[mL];exact(decide_eq_false (!3)).symm
     |cons c u hw=>
      rw[List.zip_cons_cons]at hz;cases hz
   rw[hv]at hR;wp_walk;exact⟨_,rfl,by simpa [Builtin.Tuple.tupleCompareSizes] using hR⟩
  case h=>
   exact⟨rfl,rfl,items.toList,items2.toList,ns,ms,rfl,hi,hj,by omega,h⟩
end
def lt_tupInts(hl:IsTup s.heap l items)(hb:IsTup s.heap b items2)(hi:IntsAre items.toList ns)(hj:IntsAre items2.toList ms)(hu:A.units<cLine)(h:Q (.bool (lexLt ns ms)) s):wpAny (!7) A (compareOp .Lt (.ref l) (.ref b)) Q E s:=by
 let⟨⟨cls,dd,data,sl⟩,ho,hc,n,hd⟩:=id hl;let⟨⟨cls2,dd2,data2,sl2⟩,ho2,hc2,n2,hd2⟩:=id hb;subst hc hd hc2 hd2;exact richCompare_meets_room (op:=.Lt) ⟨_,ho,rfl⟩ ⟨_,ho2,rfl⟩ PySem.F.slot_tuple_lt PySem.F.entry_tuple_lt (PySem.F.args_tuple_lt_2 _ _) (oA l b items items2 n n2 dd dd2 sl sl2 ns ms hi hj)
  ⟨ho,ho2,show Value.bool (lexLt ns ms)≠Value.notImplemented/\Q (.bool (lexLt ns ms)) s from⟨(λx=>nomatch x),h⟩⟩ hu
def cat_tup{prog:Program}{w:World}{A:Around}{E:TX}{s:Shared}(ht:IsTup s.heap t l.toArray)(hb:IsTup s.heap b g.toArray)(hv:l≠[])(h1:g=[]->Q (.ref t) s)(h2:g≠[]->Q (.ref s.heap.objs.size) {s with heap:=s.heap.push {cls:=.type "tuple",data:=.seq (l++g).toArray}})(I:l.length+g.length<=sizeLine):wpAny (!7) A (binaryOp .Add (.ref t) (.ref b)) Q E s:=by
 let⟨⟨cls,dd,data,U⟩,C,hc,n,hd⟩:=id ht;let⟨⟨cls2,p,data2,o⟩,j,T,n2,J⟩:=id hb;subst hc hd T J;have e:l.toArray++g.toArray=(l++g).toArray:=by simp
 by_cases r:g=[]
 .exact concat_meets ⟨_,C,rfl⟩ ⟨_,j,rfl⟩ noFill_tuple_add seq_tuple_add PySem.F.slot_tuple_add PySem.F.entry_tuple_add (PySem.F.args_tuple_add_2 _ _)
   (tuple_addW1 t b l.toArray g.toArray n n2 dd p U o (by simpa using hv) (by simp[r])) ⟨C,j,h1 r⟩
 .refine concat_meets ⟨_,C,rfl⟩ ⟨_,j,rfl⟩ noFill_tuple_add seq_tuple_add PySem.F.slot_tuple_add PySem.F.entry_tuple_add (PySem.F.args_tuple_add_2 _ _)
   (tuple_addW2 t b l.toArray g.toArray n n2 dd p U o (by simpa using hv) (by simpa using r) (by rw[size_toArray,size_toArray];exact I)) ⟨C,j,?_⟩
  rw[e];exact h2 r
noncomputable def  sIx(n d:Nat):Uc->Nat
 |none=>d
 |some v=>if v<0 then(v+(n:Int)).toNat else min v.toNat n
def sIx_none(n d:Nat):sIx n d none=d:=rfl
def sIx_nat(n d k:Nat):sIx n d (!(k:Int))=min k n:=by grind [sIx]
def vz(v:Int)(n d:Nat):(if v<0 then max (v+(n:Int)) 0 else min v (n:Int))=((sIx n d (!v):Nat):Int):=by grind [sIx]
def uc(lo hi:Uc)(n:Nat):Builtin.Slice.sliceAdjust lo hi 1 (n:Int)=(((sIx n 0 lo:Nat):Int),((sIx n n hi:Nat):Int)):=by
 refine Prod.ext ?_ ?_
 .cases lo with
  |none=>rfl
  |some v=>exact vz v n 0
 .cases hi with
  |none=>rfl
  |some v=>exact vz v n n
def ud(i j:Nat):Builtin.Slice.slicePlaces (i:Int) (j:Int) 1=j-i:=by
 unfold Builtin.Slice.slicePlaces;split<;>omega
def mM(p:IsPart v o)(h:Q o s):wpAny (!7) A (Builtin.Slice.slicePartIndex v) Q E s:=by
 cases p with
 |none=>exact slicePart_none h
 |int i t=>exact slicePart_int h
def sliceApplied_gen{lo hi}{Q:Int×Int×Nat->Shared->Prop}(hs:s.heap.IsSliceOf sl vl vu .none)(pl:IsPart vl lo)(pu:IsPart vu hi)(h:Q (((sIx n 0 lo:Nat):Int),1,sIx n n hi-sIx n 0 lo) s):wpAny (!7) A (Builtin.Slice.sliceApplied (.ref sl) (pure (n:Int))) Q E s:=by
 let⟨os,hos,hcs,hds⟩:=id hs;refine Ud (Ud (wpAny_field hos hds rfl (Ud (wpAny_field hos hds rfl (Ud (wpAny_field hos hds rfl (Ug ?_)))))));refine Ud (slicePart_none ?_);refine Ud (mM pl (Ud (mM pu (Ud (Ug ?_)))));show wpAny _ _ (match Builtin.Slice.sliceAdjust lo hi 1 (n:Int)with|(lo,hi)=>pure (lo,(1:Int),Builtin.Slice.slicePlaces lo hi 1)) _ _ s;rw[uc];show wpAny _ _ (pure (((sIx n 0 lo:Nat):Int),(1:Int),Builtin.Slice.slicePlaces ((sIx n 0 lo:Nat):Int) ((sIx n n hi:Nat):Int) 1)) _ _ s;rw[ud];exact Ug h
def yU(xs:T7)(i k:Nat):((List.range k).filterMap λ(m:Nat)=>xs[((i:Int)+(m:Int)*1).toNat]?).toArray=((xs.toList.drop i).take k).toArray:=by
 have e:(λ(m:Nat)=>xs[((i:Int)+(m:Int)*1).toNat]?)=λm=>xs[i+m]?:=by
  funext m;have:((i:Int)+(m:Int)*1).toNat=i+m:=by omega
  rw[this]
 rw[e];have:=pick_run xs i k;rw[List.filterMap_map]at this;have e2:((λx=>xs[x]?)∘λx=>i+x)=λm=>xs[i+m]?:=rfl;grind
def getItem_tuple_cut{lo hi}(ht:IsTup s.heap t items)(hs:s.heap.IsSliceOf sl vl vu .none)(pl:IsPart vl lo)(pu:IsPart vu hi)(hw:¬ (sIx items.size 0 lo=0/\sIx items.size items.size hi=items.size))(h:Q (.ref s.heap.objs.size) {s with heap:=s.heap.push {cls:=.type "tuple",data:=.seq ((items.toList.drop (sIx items.size 0 lo)).take (sIx items.size items.size hi-sIx items.size 0 lo)).toArray}})(hsz:items.size<=sizeLine):wpAny (!7) A (getItem (.ref t) (.ref sl)) Q E s:=by
 have htake:sizeOk (.seq ((items.toList.drop (sIx items.size 0 lo)).take (sIx items.size items.size hi-sIx items.size 0 lo)).toArray):=by
  show((items.toList.drop (sIx items.size 0 lo)).take (sIx items.size items.size hi-sIx items.size 0 lo)).toArray.size<=sizeLine;rw[size_toArray,List.length_take,List.length_drop,Array.length_toList];omega
 let⟨os,hos,hcs,hds⟩:=id hs;have hTs:s.TypeIs (.ref sl) "slice":=⟨os,hos,hcs⟩;unfold getItem;try with_reducible refine wpAny_holding ?_
 first|refine Ud (Ug ?_)|skip
 refine Ud (wpAny_sequenceKey ht.typeIs (!4) ?_);refine Ud (wpAny_callSpecial?_slot ht.typeIs PyProof.Rows.slot_tuple_getitem
  (wpAny_call_entry PyProof.Rows.slot_tuple_getitem ht.typeIs entry_tuple_getitem ?_ (args_tuple_getitem _ _)))
 show wpAny _ _ (Builtin.Tuple.tupleItemsOf (.ref t)>>=_) _ _ s;refine Ud (tupleItemsOf_ ht ?_);refine Ud (wpAny_typeOf hTs ?_);refine Ud (sliceApplied_gen hs pl pu ?_);have hno:¬ ((((sIx items.size 0 lo:Nat):Int)==0&&(1:Int)==1&&(sIx items.size items.size hi-sIx items.size 0 lo)==items.size)=true):=by
  intro q;rw[and_eq_true,and_eq_true]at q;have q1:=eq_of_beq q.1.1;have q2:=eq_of_beq q.2;exact hw ⟨by omega,by omega⟩
 show wpAny _ _ (if(((sIx items.size 0 lo:Nat):Int)==0&&(1:Int)==1&&(sIx items.size items.size hi-sIx items.size 0 lo)==items.size)=true then _ else _) _ _ s;rw[if_neg hno,yU];first
  |exact Ud (wpAny_newObj_type (Ug ⟨_,rfl,Ug h⟩) htake)
  |exact Ud (wpAny_newObj_type (Ud (Ug _)) htake)
  |exact Ud (Ud (wpAny_newObj_type (Ug _) htake))
  |exact Ud (Ud (wpAny_newObj_type _ htake))
end HT
namespace L2
open PySem PySem.Spec PyProof.Rows
noncomputable abbrev TO:=St->Hp->(Uc->Hp->Prop)->Prop
def  PO(X:Cx)(e:Option Expr)(t:TO):Prop:=
 ∀(pins:TU)(s:Shared)(σ:St)(H:Hp)(Q:Uc->Hp->Prop),Inv X pins σ H s->t σ H Q->
  wpAny (!5) X.A (evalPart e X.env) (λu s'=>∃o H',Inv X pins σ H' s'/\IsPart u o/\Q o H') X.xe s
def  CJ:TO:=λ_ H Q=>Q none H
def  Lw(t:TE):TO:=λσ H Q=>t σ H λx H1=>∃i,x=.int i/\Q (!i) H1
def mO:∀{g:TY},Vals (j.map V.int) g->IntsAre g j:=by
 induction j with
 |nil=>intro g r;rw[List.map_nil]at r;cases r;exact .nil
 |cons n j p=>
  intro g r;cases r with
  |cons o l=>
   let⟨t,e⟩:=o;subst e;exact .cons n t (p l)
section
variable{X:Cx}{e:Expr}{te:TE}{lo hi:Option Expr}{tl th:TO}{pos p2:Pos}
def po_none:PO X none CJ:=by
 intro pins s σ H Q I h;exact Ug ⟨none,H,I,.none,h⟩
def CK(h:PE X e te):PO X (!e) (Lw te):=by
 intro pins s σ H Q I l;refine bu (h pins s σ H _ I l) λu p ⟨x,H1,o,g,j⟩=>?_;let⟨i,rfl,q⟩:=j;let⟨t,rfl⟩:=g;exact⟨!i,H1,o,.int i t,q⟩
def  SlR(X:Cx)(r:V->Uc->Uc->Hp->VK->Prop):Prop:=
 ∀(pins:TU)(s:Shared)(σ:St)(H:Hp)(x:V)(v vl vu:Value)(lo hi:Uc)(sl:Addr)(Q:VK),Inv X pins σ H s->RelV x v->s.heap.IsSliceOf sl vl vu .none->IsPart vl lo->IsPart vu hi->r x lo hi H Q->
  ∃T id,typeLookup (.type T) "__getitem__"=pure (!(.builtin id))/\s.TypeIs v T/\wpAny (!5) X.A (getItem v (.ref sl)) (EP X pins σ Q) X.xe s
def SlR.or(h:SlR X r)(h':SlR X p):SlR X (λx lo hi H Q=>r x lo hi H Q\/p x lo hi H Q):=by
 intro pins s σ H x v j g lo hi l Q I rx o pl pu q;rcases q with q|q
 .exact h pins s σ H x v j g lo hi l Q I rx o pl pu q
 .exact h' pins s σ H x v j g lo hi l Q I rx o pl pu q
def  S9(r:V->Uc->Uc->Hp->VK->Prop)(te:TE)(tl th:TO):TE:=λσ H Q=>te σ H λx H1=>tl σ H1 λl H2=>th σ H2 λu H3=>r x l u H3 Q
def rL(hr:SlR X r)(he:PE X e te)(hl:PO X lo tl)(hu:PO X hi th):PE X (.Subscript e (.Slice lo hi none p2) pos) (S9 r te tl th):=by
 intro pins s σ H Q I h;refine Subscript_ (bu (he pins s σ H _ I h) λv s1 ⟨x,H1,I1,r1,q1⟩=>?_);refine wpAny_Slice (bu (hl pins s1 σ H1 _ I1 q1) λvl s2 ⟨l,H2,I2,pl,q2⟩=>bu (hu pins s2 σ H2 _ I2 q2) λvu s3 ⟨u,H3,I3,pu,q3⟩=>?_);refine Ug ?_;have I4:Inv X pins σ H3 {s3 with heap:=s3.heap.push {cls:=.type "slice",data:=.fields #[vl,vu,.none]}}:=I3.kept λb ob q=>Ue _ q;let⟨T,id,hT,ht,hg⟩:=hr pins {s3 with heap:=s3.heap.push {cls:=.type "slice",data:=.fields #[vl,vu,.none]}} σ H3 x v vl vu l u s3.heap.objs.size Q I4 r1 (Heap.IsSliceOf.new ..) pl pu q3;exact tail_any ht hT hg (by with_unfolding_all rfl)
def  xj(xs:List V)(lo hi:Uc):List V:=(xs.drop (HT.sIx xs.length 0 lo)).take (HT.sIx xs.length xs.length hi-HT.sIx xs.length 0 lo)
def lI(xs:List V)(lo hi:Uc):(xj xs lo hi).length<=xs.length:=by grind [xj]
def  Pu(K:Frag):V->Uc->Uc->Hp->VK->Prop:=λx lo hi H Q=>∃a xs,x=.ref a/\SqT K H a xs/\
 ¬ (HT.sIx xs.length 0 lo=0/\HT.sIx xs.length xs.length hi=xs.length)/\∀p,H p=none->Q (.ref p) (upd H p (.tup (xj xs lo hi)))
def sl_tup:SlR X (Pu X.K):=by
 intro pins s σ H x v T J lo hi U Q I rx C pl pu h;let⟨a,xs,rfl,p,t,q⟩:=h;cases rx;let⟨j,r,o,l⟩:=I.tuple p;have g:j.toArray.size=xs.length:=by rw[size_toArray];exact r.length.symm
 refine⟨"tuple",_,PyProof.Rows.slot_tuple_getitem.lookup,o.typeIs,?_⟩;refine HT.getItem_tuple_cut o C pl pu (by rw[g];exact t) ?_ (by rw[g];exact l);rw[g];refine⟨.ref s.heap.objs.size,_,I.laid (λb ob q=>Ue _ q) (UB _) ?_,rfl,q _ (I.hok.fresh (UB _))⟩;exact⟨Ur (lI xs lo hi) l,_,(r.drop _).take _,IsTup.new _ _⟩
def  Lx(K:Frag):R2:=λx y H Q=>∃a b ns ms,x=.ref a/\y=.ref b/\SqT K H a (ns.map V.int)/\SqT K H b (ms.map V.int)/\Q (.bl (HT.lexLt ns ms)) H
def yV(J:X.A.units<cLine):OpR X (compareOp .Lt) (Lx X.K):=by
 intro pins s σ H x y v u Q I rx j h;let⟨a,b,ns,ms,rfl,rfl,U,T,q⟩:=h;cases rx;cases j;let⟨r,o,p,_⟩:=I.tuple U;let⟨g,l,p2,_⟩:=I.tuple T;have C:=mO o;have t:=mO l;exact HT.lt_tupInts p p2 C t J ⟨.bl _,H,I,rfl,q⟩
def  FB(K:Frag):R2:=λx y H Q=>∃a b xs ys,x=.ref a/\y=.ref b/\SqT K H a xs/\SqT K H b ys/\xs≠[]/\xs.length+ys.length<=sizeLine/\
 (ys=[]->Q (.ref a) H)/\(ys≠[]->∀p,H p=none->Q (.ref p) (upd H p (.tup (xs++ys))))
def Vals.nil_iff(r:Vals xs g):g=[]↔xs=[]:=by
 cases r with
 |nil=>simp
 |cons _ _=>simp
def CL:OpR X (binaryOp .Add) (FB X.K):=by
 intro pins s σ H x y v u Q I rx p h;let⟨a,b,xs,ys,rfl,rfl,ha,U,T,o,t,r⟩:=h;cases rx;cases p;let⟨J,j,C,_⟩:=I.tuple ha;let⟨l,g,p2,_⟩:=I.tuple U;refine HT.cat_tup C p2 (λz=>T (j.nil_iff.mp z)) (λz=>⟨.ref a,H,I,rfl,t (g.nil_iff.mp z)⟩) (λz=>?_) (by rw[<-j.length,<-g.length];exact o);refine⟨.ref s.heap.objs.size,_,I.laid (λb ob q=>Ue _ q) (UB _) ?_,rfl,r (λw=>z (g.nil_iff.mpr w)) _ (I.hok.fresh (UB _))⟩;exact⟨by rw[length_append];exact o,_,j.append g,IsTup.new _ _⟩
end
noncomputable def  re(n:Nat)(i:Int):Option Nat:=if 0<=i then(if i<n then !i.toNat else none)else if -(n:Int)<=i then some (i+n).toNat else none
def  mP{α:Type}(xs:List α)(i:Int):Option α:=(re xs.length i).bind λj=>xs[j]?
def vA(h:re n i=!j):seqIndex? i n=!j/\j<n/\ -(n:Int)<=i/\i<n:=by
 unfold re at h;by_cases h0:0<=i
 .rw[if_pos h0]at h;by_cases h1:i<n
  .rw[if_pos h1]at h;have e:=Option.some.inj h;exact⟨by rw[seqIndex_of h0 h1,e],by omega,by omega,h1⟩
  .rw[if_neg h1]at h;cases h
 .rw[if_neg h0]at h;by_cases h1:-(n:Int)<=i
  .rw[if_pos h1]at h;have e:=Option.some.inj h;exact⟨by rw[seqIndex_neg (!3) h1,e],by omega,h1,by omega⟩
  .rw[if_neg h1]at h;cases h
def pY{v:α}(h:mP xs i=!v):∃j,seqIndex? i xs.length=!j/\xs[j]?=!v/\j<xs.length/\ -(xs.length:Int)<=i/\i<xs.length:=by
 unfold mP at h;cases e:re xs.length i with
 |none=>rw[e]at h;cases h
 |some j=>
  rw[e]at h;let⟨h1,h2,l,g⟩:=vA e;exact⟨j,h1,h,h2,l,g⟩
def  j7(b:Expr):Prop:=∀o i,subscripted b false o i=operate [o,i] (getItem o i)
def  IxR(X:Cx)(r:R2):Prop:=
 ∀(value slice:Expr)(pins:TU)(s:Shared)(σ:St)(H:Hp)(x y:V)(v u:Value)(Q:VK),Inv X pins σ H s->RelV x v->RelV y u->r x y H Q->
  subscripted slice false v u=operate [v,u] (getItem v u)->wpAny (!5) X.A (subscriptTail value slice v u) (EP X pins σ Q) X.xe s
def  Ta(X:Cx)(id:String)(r:V->List V->Hp->VK->Prop):Prop:=
 ∀(pins:TU)(s:Shared)(σ:St)(H:Hp)(x:V)(xs:List V)(v:Value)(us:TY)(Q:VK),Inv X pins σ H s->RelV x v->Vals xs us->r x xs H Q->
  wpAny (!5) X.A (call (.builtin id) (v::us)) (EP X pins σ Q) X.xe s
section
variable{X:Cx}{a b:Expr}{ta tb:TE}{pos:Pos}
def IxR.or(h:IxR X r)(h':IxR X l):IxR X (λx y H Q=>r x y H Q\/l x y H Q):=by
 intro value slice pins s σ H x y v u Q I rx g q j;rcases q with q|q
 .exact h value slice pins s σ H x y v u Q I rx g q j
 .exact h' value slice pins s σ H x y v u Q I rx g q j
def yW(o:IxR X r)(t:PE X a ta)(p:PE X b tb)(l:j7 b):PE X (.Subscript a b pos) (Ll r ta tb):=by
 intro pins s σ H Q I h;exact Subscript_ (GU t p I h λv u g x y H2 C rx j q=>o a b pins g σ H2 x y v u Q C rx j q (l _ _))
def  Ly(K:Frag):R2:=λx y H Q=>∃p xs i v,x=.ref p/\y=.int i/\SqL K H p xs/\mP xs i=!v/\Q v H
def  Lz(K:Frag):R2:=λx y H Q=>∃p xs i v,x=.ref p/\y=.int i/\SqT K H p xs/\mP xs i=!v/\Q v H
def  LA:R2:=λx y H Q=>∃z i c,x=.str z/\y=.int i/\z.length<=sizeLine/\mP z.cps.toList i=!c/\Q (.str ⟨#[c]⟩) H
def ix_list:IxR X (Ly X.K):=by
 intro value slice pins s σ H x y v u Q I rx T h C;let⟨p,xs,i,z,rfl,rfl,U,he,q⟩:=h;cases rx;let⟨t,rfl⟩:=T;let⟨l,r,pl,hz⟩:=I.list U;let⟨j,h1,h2,h3,h4,h5⟩:=pY he;let⟨w,J,g⟩:=r.get h2;have hl:=r.length;have hn:=jJ;have fin:EP X pins σ Q w s:=⟨z,H,I,g,q⟩;by_cases h0:0<=i
 .have o:i.toNat=j:=by
   rw[seqIndex_of h0 h5]at h1;exact Option.some.inj h1
  exact item_listR pl.isList h0 (!3) (by rw[o];simpa using J) fin C
 .have o:(i+(l.toArray.size:Int)).toNat=j:=by
   rw[seqIndex_neg (!3) h4]at h1;rw[size_toArray,<-hl];exact Option.some.inj h1
  exact subscriptTail_builtinR pl.isList.typeIs slot_list_getitem.lookup
   (wpAny_getItem_list_neg pl.isList (!3) (by rw[size_toArray]<;>omega) (!3) (by rw[o];simpa using J) ⟨rfl,fin⟩) C
def ix_tup:IxR X (Lz X.K):=by
 intro value slice pins s σ H x y v u Q I rx l h C;let⟨p,xs,i,z,rfl,rfl,J,U,q⟩:=h;cases rx;let⟨t,rfl⟩:=l;let⟨o,r,pl,hz⟩:=I.tuple J;let⟨j,h1,h2,h3,h4,h5⟩:=pY U;let⟨w,ew,g⟩:=r.get h2;have T:=r.length;have hn:=jJ;have fin:EP X pins σ Q w s:=⟨z,H,I,g,q⟩;exact subscriptTail_builtinR pl.typeIs slot_tuple_getitem.lookup
  (getItem_tuple pl (!3) (!3) (by rw[size_toArray,<-T];exact h1) (by simpa using ew) ⟨rfl,fin⟩) C
def Hg:IxR X LA:=by
 intro value slice pins s σ H x y v u Q I rx g h l;let⟨z,i,c,rfl,rfl,U,p,q⟩:=h;let⟨t,rfl⟩:=rx;let⟨T,rfl⟩:=g;let⟨j,h1,h2,h3,C,r⟩:=pY p;have o:z.cps.toList.length=z.length:=by simp[Str.length]
 rw[o]at h1 C r;have hn:=jJ;exact tail_any (typeIs_str s z t) slot_str_getitem.lookup (getItem_str (by
  have J:decide (i< -(2^63:Int))=false:=decide_eq_false (!3);have e2:decide (i≥2^63)=false:=decide_eq_false (!3);rw[J,e2,Bool.or_false]) (by rw[h1];simpa using h2) ⟨.str ⟨#[c]⟩,H,I.tok _,⟨_,rfl⟩,q⟩) l
def  RJ(K:Frag):R2:=λx y H Q=>Ly K x y H Q\/Lz K x y H Q\/LA x y H Q
def ix_seq:IxR X (RJ X.K):=ix_list.or (ix_tup.or Hg)
def ue(g:TY)(n j:Nat)(u:Value):Obj.mapSeq (·.setIfInBounds j u) {cls:=.type "list",data:=.seq g.toArray n}={cls:=.type "list",data:=.seq (g.set j u).toArray n}:=by
 simp[Obj.mapSeq]
def Inv.lst{σ:St}(I:Inv X pins σ H s)(h:H p=!(.lst xs)):
  ∃(g:TY)(n:Nat),Vals xs g/\s.heap.get? p=some {cls:=.type "list",data:=.seq g.toArray n}/\xs.length<=sizeLine:=by
 let⟨z,g,n,r,e⟩:=I.hok p _ h
 grind
def Inv.lstUpd{σ:St}{its its':TY}(I:Inv X pins σ H s)(h:H p=!(.lst xs))(ho:s.heap.get? p=some {cls:=.type "list",data:=.seq its.toArray n})(hf:f {cls:=.type "list",data:=.seq its.toArray n}={cls:=.type "list",data:=.seq its'.toArray n'})(r:Vals ys its')(hz:ys.length<=sizeLine)(t:Nat):
  Inv X pins σ (upd H p (.lst ys)) {s with heap:=s.heap.update p f,toks:=t}:=by
 have e:(s.heap.update p f).get? p=some {cls:=.type "list",data:=.seq its'.toArray n'}:=by
  rw[Heap.get?_update_self f ho (by rw[hf]<;>rfl),hf]
 refine I.write (by rw[h];trivial) (.inl rfl) (λb u hb q=>(Heap.get?_update_other _ _ (Ne.symm hb)).trans q) ⟨_,e⟩ ?_
 exact⟨hz,its',n',r,e⟩
def  LB:V->V->V->Hp->(Hp->Prop)->Prop:=λo i v H Q=>∃p xs k j,o=.ref p/\i=.int k/\H p=!(.lst xs)/\re xs.length k=!j/\Q (upd H p (.lst (xs.set j v)))
def yX:Li X LB:=by
 intro pins s σ H o i v ov iv u Q I ro ri rv h;let⟨p,xs,k,j,rfl,rfl,hp,hj,q⟩:=h;cases ro;let⟨t,rfl⟩:=ri;let⟨its,n,r,ho,hz⟩:=I.lst hp;let⟨h1,h2,h3,h4⟩:=vA hj;have hl:=r.length;have hn:=jJ;have I':Inv X pins σ (upd H p (.lst (xs.set j v))) {s with heap:=s.heap.update p (Obj.mapSeq (·.setIfInBounds j u))}:=
  I.lstUpd hp ho (ue its n j u) (r.set rv j) (by rw[List.length_set];exact hz) s.toks
 by_cases h0:0<=k
 .have hk:k.toNat=j:=by
   rw[seqIndex_of h0 h4]at h1;exact Option.some.inj h1
  exact PySem.W.ki_setAt ho h0 (!3) (by rw[size_toArray,<-hl];exact h4) (by rw[hk];exact⟨_,I',q⟩)
 .have hk:(k+(its.toArray.size:Int)).toNat=j:=by
   rw[seqIndex_neg (!3) h3]at h1;rw[size_toArray,<-hl];exact Option.some.inj h1
  exact PySem.W.ki_setBack ho (!3) (by rw[size_toArray,<-hl];exact h3) (!3) (by rw[hk];exact⟨_,I',q⟩)
def pZ(lo hi:Uc)(n:Nat):(sliceBounds lo hi none n).1=((HT.sIx n 0 lo:Nat):Int)/\(sliceBounds lo hi none n).2.1=((HT.sIx n n hi:Nat):Int)/\(sliceBounds lo hi none n).2.2=1:=by
 refine⟨?_,?_,rfl⟩
 .cases lo with
  |none=>simp[sliceBounds,HT.sIx]
  |some i=>
   simp only[sliceBounds,HT.sIx,Option.getD_none,show(1:Int)>0 by decide,if_true];by_cases h:i<0
   .simp only[h,if_true]<;>omega
   .simp only[h,if_false]<;>omega
 .cases hi with
  |none=>simp[sliceBounds,HT.sIx]
  |some i=>
   simp only[sliceBounds,HT.sIx,Option.getD_none,show(1:Int)>0 by decide,if_true];by_cases h:i<0
   .simp only[h,if_true]<;>omega
   .simp only[h,if_false]<;>omega
def oB(g:TY)(lo hi:Uc):slicePick g.toArray lo hi none=((g.drop (HT.sIx g.length 0 lo)).take (HT.sIx g.length g.length hi-HT.sIx g.length 0 lo)).toArray:=by
 let⟨h1,h2,j⟩:=pZ lo hi g.toArray.size;unfold slicePick;rw[h1,h2,j];simp only[sliceRange_one,pick_run,size_toArray]<;>rfl
def  Pv(K:Frag):V->Uc->Uc->Hp->VK->Prop:=λx lo hi H Q=>∃a xs,x=.ref a/\SqL K H a xs/\∀p,H p=none->Q (.ref p) (upd H p (.lst (xj xs lo hi)))
def CM:SlR X (Pv X.K):=by
 intro pins s σ H x v J C lo hi T Q I rx t pl pu h;let⟨a,xs,rfl,p,q⟩:=h;cases rx;let⟨l,r,j,o⟩:=I.list p;have g:=r.length;refine⟨"list",_,slot_list_getitem.lookup,j.isList.typeIs,?_⟩;refine wpAny_getItem_list_slice j.isList t pl pu .none (by simp) ?_ (by rw[size_toArray]<;>omega);rw[oB,<-g];refine⟨.ref s.heap.objs.size,_,I.laid (λb U q=>Ue _ q) (UB _) ?_,rfl,q _ (I.hok.fresh (UB _))⟩;exact⟨Ur (lI xs lo hi) o,_,0,(r.drop _).take _,Ui _ rfl⟩
noncomputable def  hU:V->Bool
 |.non=>true
 |.bl _=>true
 |.int _=>true
 |.str _=>true
 |_=>false
noncomputable def  CN:V->V->Bool
 |.non,.non=>true
 |.bl a,.bl b=>a==b
 |.bl a,.int b=>(if a then 1 else 0)==b
 |.int a,.bl b=>a==(if b then 1 else 0)
 |.int a,.int b=>a==b
 |.str a,.str b=>a==b
 |_,_=>false
def uf(j:RelV y u)(rx:RelV x v)(o:hU y=true)(l:hU x=true):SeqAt.EqAt A s u v (CN y x):=by
 cases y with
 |non=>
  cases j;cases x with
  |non=>cases rx;exact SeqAt.EqAt.same _
  |bl b=>cases rx;exact SeqAt.EqAt.none_bool b
  |int b=>let⟨t,rfl⟩:=rx;exact SeqAt.EqAt.none_int b t
  |str b=>let⟨t,rfl⟩:=rx;exact SeqAt.EqAt.none_str b t
  |_=>exact absurd (l) Uj
 |bl a=>
  cases j;cases x with
  |non=>cases rx;exact SeqAt.EqAt.bool_none a
  |bl b=>cases rx;exact SeqAt.EqAt.bool_bool a b
  |int b=>let⟨t,rfl⟩:=rx;exact SeqAt.EqAt.bool_int a b t
  |str b=>let⟨t,rfl⟩:=rx;exact SeqAt.EqAt.bool_str a b t
  |_=>exact absurd (l) Uj
 |int a=>
  let⟨g,rfl⟩:=j;cases x with
  |non=>cases rx;exact SeqAt.EqAt.int_none a g
  |bl b=>cases rx;exact SeqAt.EqAt.int_bool a g b
  |int b=>let⟨t,rfl⟩:=rx;exact SeqAt.EqAt.int_int a g b t
  |str b=>let⟨t,rfl⟩:=rx;exact SeqAt.EqAt.int_str a g b t
  |_=>exact absurd (l) Uj
 |str a=>
  let⟨g,rfl⟩:=j;cases x with
  |non=>cases rx;exact SeqAt.EqAt.str_none a g
  |bl b=>cases rx;exact SeqAt.EqAt.str_bool a g b
  |int b=>let⟨t,rfl⟩:=rx;exact SeqAt.EqAt.str_int a g b t
  |str b=>let⟨t,rfl⟩:=rx;exact SeqAt.EqAt.str_str a g b t
  |_=>exact absurd (l) Uj
 |_=>exact absurd (o) Uj
def  ug(x:V)(u:Value):Bool:=match u with
 |.none=>CN .non x
 |.bool b=>CN (.bl b) x
 |.int i _=>CN (.int i) x
 |.str z _=>CN (.str z) x
 |_=>false
def yY(r:RelV y u)(f:hU y=true):ug x u=CN y x:=by
 cases y with
 |non=>cases r;rfl
 |bl b=>cases r;rfl
 |int i=>let⟨t,rfl⟩:=r;rfl
 |str z=>let⟨t,rfl⟩:=r;rfl
 |_=>exact absurd (f) Uj
def j8:∀{xs:List V}{us:TY},Vals xs us->xs.all hU=true->us.any (ug x)=xs.any λy=>CN y x
 |_,_,.nil,_=>rfl
 |y::xs,u::us,.cons r t,f=>by
  rw[List.all_cons,and_eq_true]at f;rw[List.any_cons,List.any_cons,yY r f.1,j8 t f.2]
def hW(rx:RelV x v)(fx:hU x=true):∀{xs:List V}{us:TY},Vals xs us->xs.all hU=true->∀u∈us,SeqAt.EqAt A s u v (ug x u)
 |_,_,.nil,_=>λu hu=>by cases hu
 |y::xs,u::us,.cons r t,f=>λu' hu=>by
  rw[List.all_cons,and_eq_true]at f;rcases mem_cons.mp hu with rfl|hu
  .rw[yY r f.1];exact uf r rx f.1 fx
  .exact hW rx fx t f.2 u' hu
def  Pw(x:V)(xs:List V):Bool:=xs.any λy=>CN y x
def  Oh(K:Frag)(neg:Bool):R2:=λx y H Q=>∃p xs,y=.ref p/\(SqL K H p xs\/SqT K H p xs)/\hU x=true/\xs.all hU=true/\Q (.bl (if neg then not (Pw x xs) else Pw x xs)) H
def op_in_seq:OpR X (compareOp .In) (Oh X.K false):=by
 intro pins s σ H x y v u Q I rx t h;let⟨p,xs,rfl,j,o,fs,q⟩:=h;cases t;rcases j with j|j
 .let⟨g,r,pl,C⟩:=I.list j;refine SeqAt.in_listAt (ug x) pl.isList (λw l=>hW rx o r fs w (by simpa using l)) ⟨.bl _,H,I,rfl,?_⟩;rw[show g.toArray.any (ug x)=g.any (ug x)by simp,j8 r fs];exact q
 .let⟨g,r,pl,C⟩:=I.tuple j;refine SeqAt.in_tupleAt (ug x) pl (λw l=>hW rx o r fs w (by simpa using l)) ⟨.bl _,H,I,rfl,?_⟩;rw[show g.toArray.any (ug x)=g.any (ug x)by simp,j8 r fs];exact q
def op_notIn_seq:OpR X (compareOp .NotIn) (Oh X.K true):=by
 intro pins s σ H x y v u Q I rx t h;let⟨p,xs,rfl,j,o,fs,q⟩:=h;cases t;rcases j with j|j
 .let⟨g,r,pl,C⟩:=I.list j;refine SeqAt.notIn_listAt (ug x) pl.isList (λw l=>hW rx o r fs w (by simpa using l)) ⟨.bl _,H,I,rfl,?_⟩;rw[show g.toArray.any (ug x)=g.any (ug x)by simp,j8 r fs];exact q
 .let⟨g,r,pl,C⟩:=I.tuple j;refine SeqAt.notIn_tupleAt (ug x) pl (λw l=>hW rx o r fs w (by simpa using l)) ⟨.bl _,H,I,rfl,?_⟩;rw[show g.toArray.any (ug x)=g.any (ug x)by simp,j8 r fs];exact q
def call_len_seq:dI X (.builtin "len") (λxs H Q=>∃p ys,xs=[.ref p]/\(SqL X.K H p ys\/SqT X.K H p ys)/\Q (.int ys.length) H):=by
 intro pins s σ H xs C Q I r h;let⟨p,ys,rfl,j,q⟩:=h;let⟨u,rfl,rx⟩:=fY r;cases rx;have J:=jJ;rcases j with j|j
 .let⟨o,l,pl,t⟩:=I.list j;have g:=l.length;exact Calls.call_len_list pl.isList (by simp only[size_toArray]<;>omega) ⟨.int ys.length,H,I.tok _,⟨s.toks+1,by rw[size_toArray,g]⟩,q⟩
 .let⟨o,l,pl,t⟩:=I.tuple j;have g:=l.length;exact len_tuple pl (by simp only[size_toArray]<;>omega) ⟨.int ys.length,H,I.tok _,⟨s.toks+1,by rw[size_toArray,g]⟩,q⟩
def p8:dI X (.type "list") (λxs H Q=>∃p ys,xs=[.ref p]/\(SqL X.K H p ys\/SqT X.K H p ys)/\∀l,H l=none->Q (.ref l) (upd H l (.lst ys))):=by
 intro pins s σ H xs us Q I r h;let⟨p,ys,rfl,T,q⟩:=h;let⟨u,rfl,rx⟩:=fY r;cases rx;have fin:∀(g:TY),Vals ys g->ys.length<=sizeLine->∀(h':Heap)(t:Nat),(∀b o',s.heap.get? b=!o'->h'.get? b=!o')->
   h'.get? s.heap.objs.size=some {cls:=.type "list",dict:=none,data:=.seq g.toArray t,slots:=#[]}->EP X pins σ Q _ {s with heap:=h'}:=λg j J h' t C e=>
  ⟨.ref s.heap.objs.size,_,I.laid C (UB _) (show ObjOk X.prog X.w _ h' _ (.lst ys)from⟨J,g,t,j,e⟩),rfl,q _ (I.hok.fresh (UB _))⟩
 rcases T with T|T
 .let⟨g,j,pl,J⟩:=I.list T;have U:=j.length;let⟨o,ho,hc,n,hd⟩:=pl.isList;exact call_list_seq p (.inl rfl) ho hc hd (λh' t C e=>fin g j J h' t C e) (by simp only[size_toArray]<;>omega)
 .let⟨g,j,pl,J⟩:=I.tuple T;have U:=j.length;let⟨o,ho,hc,n,hd⟩:=pl;exact call_list_seq p (.inr rfl) ho hc hd (λh' t C e=>fin g j J h' t C e) (by simp only[size_toArray]<;>omega)
def call_tuple_of:dI X (.type "tuple") (λxs H Q=>∃p ys,xs=[.ref p]/\((SqL X.K H p ys/\∀l,H l=none->Q (.ref l) (upd H l (.tup ys)))\/(SqT X.K H p ys/\Q (.ref p) H))):=by
 intro pins s σ H xs us Q I r h;let⟨p,ys,rfl,h⟩:=h;let⟨u,rfl,rx⟩:=fY r;cases rx;rcases h with⟨hq,q⟩|⟨hq,q⟩
 .let⟨its,r',pl,hz⟩:=I.list hq;have hlen:=r'.length;refine call_tuple_list pl.isList (λh' kp=>?_) (by simp only[size_toArray]<;>omega);have I1:Inv X pins σ H {s with heap:=h'}:=I.kept kp;have I2:Inv X pins σ (upd H h'.objs.size (.tup ys)) {s with heap:=h'.push {cls:=.type "tuple",data:=.seq its.toArray}}:=
   I1.laid (λb o e=>Ue _ e) (UB _) (⟨hz,its,r',IsTup.new _ _⟩)
  exact⟨.ref h'.objs.size,_,I2,rfl,q _ (I1.hok.fresh (UB _))⟩
 .let⟨its,r',pl,hz⟩:=I.tuple hq;exact call_tuple_same pl ⟨.ref p,H,I,rfl,q⟩
def  Px(K:Frag)(T:String)(x:V)(H:Hp):Prop:=match x with
 |.str _=>T="str"
 |.int _=>T="int"
 |.ref p=>(T="list"/\∃xs,SqL K H p xs)\/(T="tuple"/\∃o,K.lookup p=!o/\o.cls=.type "tuple"/\o.dict=none)\/
  (T="dict"/\((∃kvs,H p=!(.dK kvs))\/∃kvs,H p=!(.dT kvs)))\/(T="set"/\∃S n,H p=!(.set S n))
 |_=>False
def Hh{σ:St}(I:Inv X pins σ H s)(r:RelV x v)(ty:Px X.K T x H):
  s.TypeIs v T/\∀a,v=.ref a->∃j,s.heap.get? a=!j/\j.dict=none:=by
 cases x with
 |str z=>
  let⟨t,rfl⟩:=r;cases(ty);exact⟨typeIs_str s z t,λ_ e=>nomatch e⟩
 |int i=>
  let⟨t,rfl⟩:=r;cases(ty);exact⟨typeIs_int s i t,λ_ e=>nomatch e⟩
 |ref p=>
  cases r;rcases ty with⟨rfl,xs,C⟩|⟨rfl,o,g,J,hd⟩|⟨rfl,g⟩|⟨rfl,S,n,g⟩
  .let⟨l,_,pl,_⟩:=I.list C;refine⟨pl.isList.typeIs,λa e=>?_⟩;cases e;let⟨o,n,e,c,hd,_⟩:=pl;exact⟨o,e,hd⟩
  .refine⟨⟨o,I.kIn p o g,J⟩,λa e=>?_⟩;cases e;exact⟨o,I.kIn _ o g,hd⟩
  .have z:∃o,s.heap.get? p=!o/\o.ExactDict:=by
    rcases g with⟨kvs,g⟩|⟨kvs,g⟩
    .let⟨_,_,_,_,o,_,_,e,ex,_⟩:=I.hok p _ g;exact⟨o,e,ex⟩
    .let⟨_,_,_,_,o,_,_,e,ex,_⟩:=I.hok p _ g;exact⟨o,e,ex⟩
   let⟨o,e,ex⟩:=z;refine⟨⟨o,e,ex.1⟩,λa e2=>?_⟩;cases e2;exact⟨o,e,ex.2.1⟩
  .let⟨o,_,_,_,e,ex,_⟩:=I.hok p _ g;refine⟨⟨o,e,ex.1⟩,λa e2=>?_⟩;cases e2;exact⟨o,e,ex.2.1⟩
 |_=>exact False.elim ty
def  Tb(K:Frag)(T:String)(r:V->List V->Hp->VK->Prop)(to:TE)(t:TA):TE:=λσ H Q=>to σ H λx H1=>Px K T x H1/\t σ H1 λxs H2=>r x xs H2 Q
variable{o e:Expr}{es:Ua}{to:TE}{t:TA}{name:Str}{apos cpos:Pos}{T id:String}{r:V->List V->Hp->VK->Prop}
def mQ(pa:PlainAttrs T)(slot:Slot T name id)(C:typeOf (.builtin id)=pure (.type "method_descriptor"))(hm:Ta X id r)(ho:PE X o to)(ha:PA X (e::es) t)
  (l:attributeBase o name X.env (eval o X.env)=eval o X.env:=by rfl)
  (p:((backTo cpos (starEach (e::es) X.env)).all (λx=>not x.1)&&(backToKw cpos (keywordEach [] X.env)).all (λx=>x.1.isSome)
   &&decide ((e::es).length+([]:List Keyword).length+(if([]:List Keyword).isEmpty then 0 else 1)<30))=true:=by rfl)
  (j:(apos.endLine==cpos.line)=true:=by rfl) (hs:starEach (e::es) X.env=(false,eval e X.env)::starEach es X.env:=by rfl) (g:(backTo cpos (starEach es X.env)).any (·.1)=false:=by rfl):
  PE X (.Call (.Attribute o name apos) (e::es) [] cpos) (Tb X.K T r to t):=by
 intro pins s σ H Q I h
 refine wpAny_Call_method_late l p j rfl (bu (ho pins s σ H _ I h) λv s1 ⟨x,H1,I1,J,ty,q1⟩=>?_)
 let⟨h1,h2⟩:=Hh I1 J ty
 refine⟨T,id,pa,slot,C,h1,h2,?_⟩
 have U:=ha cpos pins s1 σ H1 _ I1 q1
 rw[hs]at U⊢
 refine Calls.callWith_builtin (by show(false||(backTo cpos (starEach es X.env)).any (·.1))=false;rw[g]<;>rfl) (Calls.evalArgs_plain ?_)
 exact bu U λus s2 ⟨vs,H2,I2,r2,q2⟩=>hm pins s2 σ H2 x vs v us Q I2 J r2 q2
end
def  Hi(X:Cx)(id:String)(r:V->List V->Hp->VK->Prop):Prop:=
 ∀(pins:TU)(s:Shared)(σ:St)(H:Hp)(x:V)(xs:List V)(v:Value)(us:TY)(Q:VK),Inv X pins σ H s->RelV x v->Vals xs us->r x xs H Q->
  wpAny (!5) X.A (call (.builtin id) (v::us)) (EP X pins σ Q) X.xe s
def Vals.one:∀{x:V}{g:TY},Vals [x] g->∃u,g=[u]/\RelV x u
 |_,_,.cons r .nil=>⟨_,rfl,r⟩
def Vals.reverse(h:Vals xs g):Vals xs.reverse g.reverse:=by
 induction h with
 |nil=>exact .nil
 |cons r t j=>rw[List.reverse_cons,List.reverse_cons];exact Vals.append j (.cons r .nil)
def Vals.rep{xs:List V}{us:TY}(h:Vals xs us):∀k:Nat,Vals (List.replicate k xs).flatten (List.replicate k us).flatten
 |0=>.nil
 |k+1=>by
  rw[List.replicate_succ,List.replicate_succ,List.flatten_cons,List.flatten_cons];exact Vals.append h (Vals.rep h k)
def oW(its:TY):∀(k:Nat)(acc:TY),
  List.foldl (λx1 x2=>x1++x2) acc.toArray (List.replicate k its.toArray)=(acc++(List.replicate k its).flatten).toArray
 |0,acc=>by simp
 |k+1,acc=>by
  have e:acc.toArray++its.toArray=(acc++its).toArray:=by simp
  have e2:(acc++its)++(List.replicate k its).flatten=acc++(List.replicate (k+1) its).flatten:=by
   rw[List.replicate_succ,List.flatten_cons,List.append_assoc]
  rw[<-e2,<-oW its k (acc++its),<-e,List.replicate_succ,List.foldl_cons]
def Inv.lset{its its':TY}(I:Inv X pins σ H s)(hH:H l=!(.lst xs))(e:s.heap.get? l=some {cls:=.type "list",data:=.seq its.toArray n})(hf:f its.toArray=its'.toArray)(hv:Vals ys its')(hz:ys.length<=sizeLine):
  Inv X pins σ (upd H l (.lst ys)) {s with heap:=s.heap.update l (Obj.mapSeq f),toks:=t'}:=by
 have q:=PySem.IsL.update e f
 rw[hf]at q
 refine I.write (by rw[hH];exact trivial) (.inl rfl) (λb' u hb hu=>(Heap.get?_update_other s.heap _ (Ne.symm hb)).trans hu) ⟨_,q⟩ ?_
 exact⟨hz,its',_,hv,q⟩
def Inv.lnew(I:Inv X pins σ H s)(hv:Vals ys its)(hz:ys.length<=sizeLine):
  Inv X pins σ (upd H s.heap.objs.size (.lst ys)) {s with heap:=s.heap.push {cls:=.type "list",data:=.seq its.toArray},toks:=t'}:=
 I.laid (λ_ _ q=>Ue _ q) (UB _) ⟨hz,its,0,hv,Ui _ rfl⟩
def Inv.fresh(I:Inv X pins σ H s):H s.heap.objs.size=none:=I.hok.fresh (UB _)
def Inv.lstM{X:Cx}{pins:TU}{σ:St}{H:Hp}{s:Shared}{l:Addr}{xs:List V}(I:Inv X pins σ H s)(j:H l=!(.lst xs)):xs.length<=sizeLine/\∃(g:TY)(n:Nat),Vals xs g/\xs.length=g.length/\s.heap.get? l=some {cls:=.type "list",data:=.seq g.toArray n}:=by
 let⟨z,g,n,r,e⟩:=I.hok l _ j;exact⟨z,g,n,r,r.length,e⟩
def rM(h:n<=sizeLine):Builtin.List.listTooLong n=false:=by
 exact decide_eq_false (!3)
section
variable{X:Cx}
def  vB:V->List V->Hp->VK->Prop:=λx vs H Q=>∃l xs y,x=.ref l/\vs=[y]/\H l=!(.lst xs)/\xs.length<sizeLine/\Q .non (upd H l (.lst (xs++[y])))
def kO:Hi X "list.append" vB:=by
 intro pins s σ H x p v t Q I rx rv h;let⟨l,xs,y,rfl,rfl,j,C,q⟩:=h;cases rx;let⟨u,rfl,o⟩:=rv.one;let⟨z,g,n,r,J,e⟩:=I.lstM j;refine call_meets F.slot_list_append ⟨_,e,rfl⟩ F.entry_list_append (F.args_list_append_2 _ _) (PySem.list_append l g.toArray n u (by rw[size_toArray];omega)) ⟨e,?_⟩;refine⟨.non,_,I.lset j e (by simp) (r.append (.cons o .nil)) ?_,rfl,q⟩;grind
def  Py:R2:=λx y H Q=>∃l k xs,x=.ref l/\y=.int k/\H l=!(.lst xs)/\ -(2^63)<=k/\k<2^63/\xs.length*k.toNat<=sizeLine/\
 ∀p,H p=none->Q (.ref p) (upd H p (.lst (List.replicate k.toNat xs).flatten))
def CO{α:Type}(xs:List α)(k:Nat):(List.replicate k xs).flatten.length=k*xs.length:=by
 induction k with
 |zero=>simp
 |succ k ih=>rw[List.replicate_succ,List.flatten_cons,length_append,ih,Nat.succ_mul,Nat.add_comm]
def Hj:OpR X (binaryOp .Mult) Py:=by
 intro pins s σ H x y v u Q I rx ry h;let⟨l,k,xs,rfl,rfl,hH,h1,h2,hz,q⟩:=h;cases rx;let⟨t,rfl⟩:=ry;let⟨z,its,n,r,hl,e⟩:=I.lstM hH;have hlen:its.toArray.size*k.toNat<=sizeLine:=by rw[size_toArray,<-hl];exact hz
 have hcap:¬its.toArray.size*k.toNat>(2^63-1)/8:=by
  have:(sizeLine:Nat)<=(2^63-1)/8:=by decide
  omega
 have hfit:¬ (not (Builtin.List.listFitsIndex k))=true:=by
  rw[fitsIndex_both h1 h2];exact Uj
 have hlong:¬Builtin.List.listTooLong (its.toArray.size*k.toNat)=true:=by
  rw[rM hlen];exact Uj
 have hnew:List.foldl (λx1 x2=>x1++x2) #[] (List.replicate (if its.toArray.isEmpty=true then 0 else k.toNat) its.toArray)=(List.replicate k.toNat its).flatten.toArray:=by
  have f0:∀m:Nat,List.foldl (λx1 x2=>x1++x2) #[] (List.replicate m its.toArray)=(List.replicate m its).flatten.toArray:=λm=>by
   have:=oW its m [];rw[List.nil_append]at this;exact this
  rw[f0];cases its with
  |nil=>simp
  |cons a r'=>rw[if_neg (by simp)]
 refine wpAny_binaryOp_repeat_ref (T:="list") (U:="int") (!4) ⟨_,e,rfl⟩ (λs'=>typeIs_int s' k t) noFill_list_mul F.fills_int_mul F.slot_int_rmul repeat_list F.slot_int_index.lookup
  (call_meets F.slot_int_rmul (typeIs_int s k t) F.entry_int_rmul (F.args_int_rmul_2 _ _) (int___rmul___int_list k t l its.toArray n)
   ⟨e,rfl,⟨_,e,rfl⟩,call_meets F.slot_list_mul ⟨_,e,rfl⟩ F.entry_list_mul (F.args_list_mul_2 _ _) (AutoListH.list___mul___list_int_3 l its.toArray n k t hfit hcap hlong) ⟨e,?_⟩⟩)
 rw[hnew];exact⟨.ref _,_,I.lnew (t':=s.toks) (r.rep k.toNat) (by rw[CO,Nat.mul_comm];exact hz),rfl,q _ I.fresh⟩
end
section
variable{prog:Program}{w:World}{A:Around}{E:TX}{s:Shared}
set_option maxRecDepth 100000 in
end
end L2
namespace Att
open PySem PySem.W PySem.Calls PyProof.Rows
def lZ:∀(g:T5)(j:TY),WellAll P h j (g.map WData.int)->IntsAre j g:=by
 intro g;induction g with
 |nil=>
  intro j w;cases w;exact .nil
 |cons n g l=>
  intro j w;cases w with
  |cons a b=>
   cases a;exact .cons _ _ (l _ b)
def xk{l:OpenLaw}(hn:l.most=!n)(hpre:l.row.toRowW.claim.pre args=true)(hwl:WellAll P h vals args):
  ∃a vs ns,vals=[Value.ref a]/\args=[WData.list (ns.map WData.int)]/\h.get? a=some {cls:=.type "list",data:=.seq vs.toArray}/\IntsAre vs ns/\ns.length<=n:=by
 have hsh:WShape.hasAll [] args [.list .int]=true:=(pre_splitW hpre).1
 have hc:l.pre.holds [] {args:=args}=true:=(pre_splitW hpre).2
 let⟨d,r,rfl,h1,h2⟩:=hasAllW_cons hsh
 obtain rfl:=hasAllW_nil h2
 let⟨xs,rfl,h3⟩:=hasW_list h1
 let⟨ns,rfl⟩:=items_int h3
 have hlen:ns.length<=n:=by
  have h4:(WTm.not (.lt (.lit (.int (n:Int))) (.len (.arg 0)))).holds [] {args:=[.list (ns.map .int)]}=true:=by
   have h4:=(holds_andW hc).1;rw[hn]at h4;exact h4
  have h5:=condW_of h4 (w_not (w_lt w_lit (w_len_list (w_arg rfl))));refine Nat.le_of_not_lt λq=>?_;first
   |(rw[decide_eq_true q']at h5;exact absurd h5 (!4))
   |(simp at h5;omega)
 cases hwl with
 |cons w1 w2=>
  cases w2;cases w1 with
  |list ho hall=>exact⟨_,_,ns,rfl,rfl,ho,lZ ns _ hall,hlen⟩
def xl(l:OpenLaw)(args:List WData):l.row.toRowW.claim.post args (.bool true) args=true:=
 postW_of
  (by first|rfl|decide|simp[WShape.has,WShape.arms,WShape.armsAll])
  (w_eq_bool (w_res rfl) w_lit) rfl
def attach_call{l:OpenLaw}(hn:l.most=!n)(hdf:d.params.defaults=[])(call:∀(w:World)(s₀ s₁:Shared)(mg mb:Str->TZ)(fa:Addr)(o:Obj)(pm cd doc:Value)(a:Addr)(vs:TY)(ns:T5),
   Ground q loose [] XP w s₀ mg mb s₁.heap->YP w s₁.heap->
   s₁.heap.get? fa=!o->o.data=.func (docDef d.name d.params d.body d.scope pm cd doc)->s₁.heap.CodeRec cd d.name->mg d.name=!(.ref fa)->
   s₁.heap.get? a=some {cls:=.type "list",data:=.seq vs.toArray}->IntsAre vs ns->ns.length<=n->s₁.gens=#[]->
   codeAny (model l.prog w) callerA (.call (.ref fa) ⟨[.ref a],[]⟩) (λr s'=>r=.ok (.ret (.bool true))/\OldK s₁.heap s'.heap/\s'.os=s₁.os/\AllBare s'.gens) s₁):
  WalkO q loose XP YP l.row.toRowW d [] (λf vs=>PySem.call f vs):=by
 intro w s₀ s₁ mg mb G ρ fa o pm cd doc dV kV ho hd hcd hD hmg hg args vals as hpre hlay hrd hwl hlo
 obtain rfl:dV=.none:=Dflts.none hD hdf
 obtain rfl:kV=.none:=Dflts.noKw hD
 let⟨a,vs,ns,rfl,rfl,hobj,hints,hlen⟩:=xk hn hpre hwl
 refine enter_call (codeAny_mono (call w s₀ s₁ mg mb fa o pm cd doc a vs ns G ρ ho (fd_plain hd) hcd hmg hobj hints hlen hg) λr s' hq=>?_)
 let⟨rfl,h2,h3,h4⟩:=hq
 exact⟨.inl ⟨.bool true,.bool true,[],rfl,λ_=>rfl,.bool true,xl l _,λ_=>⟨List.Pairwise.nil,λ_ hm=>(nomatch hm)⟩⟩,h2,h3,h4⟩
end Att
namespace L2
open PySem PySem.Spec PyProof.Rows
def oX:∀{vs:TY}{ns:T5},IntsAre vs ns->Vals (ns.map V.int) vs
 |_,_,.nil=>.nil
 |_,_,.cons n t h=>.cons ⟨t,rfl⟩ (oX h)
def  Hk(H:Hp):Prop:=∀b,H b=none\/∃o xs,H b=!(.frz o (.lst xs))
def yZ{P:Program}{w:World}{K:Frag}{mg mb:Str->TZ}{CX:Cp}{k:Nat}{fa a:Addr}{fd:FuncData}{x:Str}{sp:Sp}{s₁:Shared}{vs:TY}{ns:T5}
  (KX:K.In s₁.heap) (hns:s₁.heap.Ns mainGlobals mg) (hb:s₁.heap.Ns builtinsNs mb) (hbb:∀x:Str,x≠"__name__" ->mb x=bootBuiltins x) (hlim:s₁.heap.NoLimit) (hg:s₁.gens=#[])
  (ha:s₁.heap.get? a=some {cls:=.type "list",data:=.seq vs.toArray}) (hi:IntsAre vs ns) (hl:ns.length<=sizeLine) (hr:Room k callerA)
  (F:∀base:Heap,K.In base->base.Ns mainGlobals mg->FnOk P w K mg base CX k fa fd [x] sp) (hbind:∀(s:Shared)(u:Value),BindsTo s fd ⟨[u],[]⟩ [(x,u)])
  (hsp:∀H:Hp,Hk H->SqL K H a (ns.map V.int)->sp [.ref a] H (λv _=>v=.bl true) λ_ _ _=>False)
  (hCX:∀H e s',CX [] H s₁ (λ_ _ _=>False) e s'->False):
  codeAny (model P w) callerA (.call (.ref fa) ⟨[.ref a],[]⟩) (λr s'=>r=.ok (.ret (.bool true))/\OldK s₁.heap s'.heap/\s'.os=s₁.os/\AllBare s'.gens) s₁:=by
 have rv:=oX hi
 have lenV:=hi.length
 -- from an abstract heap in which nothing but the script may be tracked
 have core:∀H:Hp,Hk H->SqL K H a (ns.map V.int)->HOk P w H s₁.heap->(∀b,H b≠none->b=a)->(H a≠none->K.lookup a=none)->
   codeAny (model P w) callerA (.call (.ref fa) ⟨[.ref a],[]⟩) (λr s'=>r=.ok (.ret (.bool true))/\OldK s₁.heap s'.heap/\s'.os=s₁.os/\AllBare s'.gens) s₁:=by
  intro H hO hS hok hA hK
  have base_of:∀{b:Addr}{o:Obj},s₁.heap.get? b=!o->H b=none->(pV s₁.heap H).get? b=!o:=λe n=>yB e n
  have noA:∀{b:Addr}{o:Obj}{es:Array DictEntry}{ep:Nat},s₁.heap.get? b=!o->o.data=.dict es ep->H b=none:=λ{b o es ep} e d=>by
   cases q:H b with
   |none=>rfl
   |some u=>
    have e':b=a:=hA b (by rw[q];simp)
    subst e'
    rw[ha]at e;cases e
    have d':Data.seq vs.toArray _=Data.dict es ep:=d
    cases d'
  have nsK:∀{b:Addr}{m:Str->TZ},s₁.heap.Ns b m->(pV s₁.heap H).Ns b m:=λ{b m} ⟨o,es,ep,e,d,r⟩=>⟨o,es,ep,base_of e (noA e d),d,r⟩
  have hKb:K.In (pV s₁.heap H):=λb o e=>base_of (KX b o e) (by
   cases q:H b with
   |none=>rfl
   |some u=>
    have e':b=a:=hA b (by rw[q];simp)
    subst e'
    rw[hK (by rw[q];simp)]at e;cases e)
  have hM:Mod K mg (pV s₁.heap H):=⟨hKb,nsK hns,⟨mb,nsK hb,hbb⟩,let⟨mc,h1,h2⟩:=hlim;⟨mc,nsK h1,h2⟩⟩
  have e0:Env0 P w K mg (pV s₁.heap H) callerA [] s₁ H:=⟨rfl,hM,λb o e=>Cy e,Nat.le_of_eq (wY _ _),trivial,λb hb=>absurd (show b∈([]:List Addr)from hb) (by simp),hok,.of_eq hg⟩
  refine codeAny_mono ((F _ hKb (nsK hns)).run callerA [] s₁ H ⟨[.ref a],[]⟩ [.ref a] [.ref a] _ _ hr e0 (hbind s₁ (.ref a)) (.cons rfl .nil) (hsp H hO hS)) λr s' h=>?_
  cases r with
  |error e=>exact(hCX H e s' h).elim
  |ok fl=>
   cases fl with
   |next=>exact False.elim h
   |brk=>exact False.elim h
   |cont=>exact False.elim h
   |ret u=>
    let⟨v,H',os,bare,un,hok',r',q⟩:=h
    have q':v=.bl true:=q
    subst q'
    obtain rfl:u=Value.bool true:=r'
    refine⟨rfl,OldK.of_keep λb o e=>?_,os,bare⟩
    cases q:H b with
    |none=>exact un.keep b o e q (by intro z;exact absurd (show b∈([]:List Addr)from z) (by simp)) (by simp)
    |some u=>
     rcases hO b with z|⟨ob,xs,z⟩
     .rw[q]at z;cases z
     .have z2:=un.frzs b ob _ z
      let⟨e1,_⟩:=hok b _ z
      let⟨e2,_⟩:=hok' b _ z2
      rw[e]at e1;cases e1
      exact e2
 cases hk:K.lookup a with
 |some o=>
  -- the script is one of the module's own objects
  have e:=KX a o hk
  rw[ha]at e
  cases e
  refine core (λ_=>none) (λ_=>.inl rfl) (.inr ⟨_,vs.toArray,_,hk,rfl,rfl,rfl,by rw[size_toArray,lenV];exact hl,by simpa using rv⟩) (λb u z=>by have z':(none:Option HO)=!u:=z;cases z') (λb z=>absurd rfl z) λz=>absurd rfl z
 |none=>
  refine core (λb=>if b=a then !(.frz {cls:=.type "list",data:=.seq vs.toArray} (.lst (ns.map V.int)))else none) (λb=>?_) (.inl (.inr ⟨{cls:=.type "list",data:=.seq vs.toArray},if_pos rfl⟩)) (λb u z=>?_) (λb z=>?_) λ_=>hk
  .by_cases hb:b=a
   .exact .inr ⟨_,_,if_pos hb⟩
   .exact .inl (if_neg hb)
  .by_cases hb:b=a
   .have z':=(if_pos hb).symm.trans z
    cases z'
    subst hb
    exact⟨ha,by rw[length_map];exact hl,vs,_,rv,ha⟩
   .have z':=(if_neg hb).symm.trans z
    cases z'
  .by_cases hb:b=a
   .exact hb
   .exact absurd (if_neg hb) z
def walk_of{l:PySem.W.OpenLaw}{n k:Nat}{q:Program}{loose:T3}{XP:(Str->TZ)->Heap->Prop}{YP:World->Heap->Prop}{d:DefRec}{K:Params->Frag}{CX:World->Cp}{sp:World->Sp}{x:Str}
  (hn:l.most=!n) (hn2:n<=sizeLine) (hdf:d.params.defaults=[]) (hr:Room k callerA)
  (hY:∀(w:World)(h:Heap),YP w h->(K w.params).In h)
  (F:∀(w:World)(mg:Str->TZ)(fa:Addr)(h:Heap),(K w.params).In h->h.Ns mainGlobals mg->mg d.name=!(.ref fa)->
   ∃fd:FuncData,(∀(s:Shared)(u:Value),BindsTo s fd ⟨[u],[]⟩ [(x,u)])/\
    ∀base:Heap,(K w.params).In base->base.Ns mainGlobals mg->FnOk l.prog w (K w.params) mg base (CX w) k fa fd [x] (sp w))
  (hsp:∀(w:World)(H:Hp)(a:Addr)(ns:T5),ns.length<=n->Hk H->SqL (K w.params) H a (ns.map V.int)->sp w [.ref a] H (λv _=>v=.bl true) λ_ _ _=>False)
  (hCX:∀(w:World)(H:Hp)(s:Shared)(e:Value)(s':Shared),CX w [] H s (λ_ _ _=>False) e s'->False):
  PySem.W.WalkO q loose XP YP l.row.toRowW d [] (λf vs=>PySem.call f vs):=by
 refine Att.attach_call hn hdf λw s₀ s₁ mg mb fa o pm cd doc a vs ns G ρ ho hd hcd hmg hobj hints hlen hg=>?_
 have KX:=hY w _ ρ
 let⟨fd,hb,hF⟩:=F w mg fa _ KX G.T.g hmg
 exact yZ KX G.T.g G.T.b G.T.builtins G.T.nolimit hg hobj hints (Ur hlen hn2) hr hF hb (λH hO hS=>hsp w H a ns hlen hO hS) λH e s'=>hCX w H s₁ e s'
noncomputable abbrev rg:Cp:=λ_ _ _ _ _ _=>False
noncomputable abbrev E0:XK:=λ_ _ _=>False
def vC:kN rg X E0:=λ_ _ _ _ _ _ _ h=>h.elim
structure Fun(K:Frag)(x qual:Str)(st:Stmt)(f:Addr)(fd:FuncData):Prop where
 ex:∃(oc:Value)(od:Option Addr)(kV doc pm:Value)(an:Option Addr)(cdv ct:Value)(osl:Array (TZ)),
  fd=PySem.W.fnOf x qual (cm st) (aU st) (aj st) .none kV doc pm an cdv ct/\K.lookup f=!⟨oc,od,.func fd,osl⟩/\PySem.W.codeIn K cdv qual=true
 kp:PySem.W.keepIn K (.ref f)=true
section
variable{P:Program}{w:World}{K:Frag}{mg:Str->TZ}{base:Heap}
def Fun.ok{st}(F:Fun K x l st f fd)(S:FnScope N ps (aj st))(len:∀o H Q E,sp o H Q E->o.length=ps.length)(p:∀(j:Value)(A:Around)(g:List Env)(s:Shared)(H:Hp)(o:List V)(Q:VK)(E:XK),Room k (A.deeper (envOfC l (aj st) s.heap.objs.size f j))->sp o H Q E->
  ∃t,PSs (jK rg P w K mg base N l (aj st) f j A g s H E).nox (aU st) t/\t {nx:=λ_ H'=>Q .non H',rt:=Q} (gZ N o) H):FnOk P w K mg base rg (k+1) f fd ps sp:=by
 let⟨oc,od,kV,U,pm,an,j,ct,I,rfl,J,C⟩:=F.ex
 refine FA J C S len λA g s H o Q E T r=>?_
 let⟨t,h,q⟩:=p j A g s H o Q E T r
 exact⟨t,h.nox,q⟩
def Fun.binds{st}(F:Fun K x l st f fd)(h:∀(kV g pm:Value)(p:Option Addr)(j ct:Value)(o:TY),o.length=ps.length->bindArgs (PySem.W.fnOf x l (cm st) (aU st) (aj st) .none kV g pm p j ct) ⟨o,[]⟩=pure (ps.zip o)):Binds K fd ps []:=by
 let⟨I,C,kV,g,pm,p,j,ct,r,rfl,J,t⟩:=F.ex;exact .all (h kV g pm p j ct)
def kP{st}{kV o pm j ct}(l:K.lookup f=!⟨C,t,.func (PySem.W.fnOf x g (cm st) (aU st) (aj st) .none kV o pm r j ct),p⟩)(c:PySem.W.codeIn K j g=true)(k:PySem.W.keepIn K (.ref f)=true):Fun K x g st f (PySem.W.fnOf x g (cm st) (aU st) (aj st) .none kV o pm r j ct):=⟨⟨C,t,kV,o,pm,r,j,ct,p,rfl,l,c⟩,k⟩
end
def pv{X:Cx}(i:Nat){x:Str}{pos:Pos}(hN:X.N[i]?=!x:=by rfl)(hv:tO X.env.scope x:=by first|exact Or.inl rfl|exact Or.inr (Or.inl rfl)|exact Or.inr (Or.inr rfl))(hd:(!8)=false:=by decide)
 (hcd:(x==("__classdict__":Str))=false:=by decide):PE X (.Name x pos) (La i):=da hN hv hd hcd
def CP{A B:Prop}(h:B):if false=true then A else B:=by
 exact h
def CQ{A B:Prop}(h:A):if true=true then A else B:=by
 exact h
def  Same(H H':Hp):Prop:=∀b o,H b=!o->H' b=!o
def Same.refl(H:Hp):Same H H:=λ_ _ h=>h
def Same.trans(a:Same H H1)(b:Same H1 H2):Same H H2:=λc o h=>b c o (a c o h)
def Same.free(e:Same H H')(h:H' l=Option.none):H l=Option.none:=by
 cases q:H l with
 |none=>rfl
 |some o=>
  rw[e l o q]at h;cases h
def Same.seq{K}(e:Same H H')(h:SqL K H a xs):SqL K H' a xs:=by
 rcases h with(h|⟨o,h⟩)|h
 .exact .inl (.inl (e _ _ h))
 .exact .inl (.inr ⟨o,e _ _ h⟩)
 .exact .inr h
def PE.imp(h:PE X e t)(k:∀σ H Q,g σ H Q->t σ H Q):PE X e g:=λpins s σ H Q I q=>h pins s σ H Q I (k _ _ _ q)
def PT.imp(h:PT X e t)(k:∀σ H Q,g σ H Q->t σ H Q):PT X e g:=λpins s σ H Q I q=>h pins s σ H Q I (k _ _ _ q)
def PA.imp(h:PA X e t)(k:∀σ H Q,g σ H Q->t σ H Q):PA X e g:=λpos pins s σ H Q I q=>h pos pins s σ H Q I (k _ _ _ q)
def PS.imp{st}(h:PS X st t)(k:∀D σ H,g D σ H->t D σ H):PS X st g:=λpins s σ H D I q=>h pins s σ H D I (k _ _ _ q)
def PSs.imp{st}(h:PSs X st t)(k:∀D σ H,g D σ H->t D σ H):PSs X st g:=λpins s σ H D I q=>h pins s σ H D I (k _ _ _ q)
def PI.imp(h:PI X tg iter t)(k:∀σ H R,g σ H R->t σ H R):PI X tg iter g:=λpins s σ H R I q=>h pins s σ H R I (k _ _ _ q)
def PG.imp(h:PG X tg t)(k:∀v σ H Q,g v σ H Q->t v σ H Q):PG X tg g:=λpins s σ H v u Q I r q=>h pins s σ H v u Q I r (k _ _ _ _ q)
def lJ{α β:Type}{f:α->β->Sem (ForInStep β)}{g}:∀(l:List α)(c:β),(∀x∈l,∀c,f x c=pure (.yield (g c x)))->forIn l c f=pure (l.foldl g c)
 |[],_,_=>rfl
 |x::l,c,h=>by
  rw[List.forIn_cons,h x mem_cons_self,pure_bind];exact lJ l _ λy hy=>h y (Um _ hy)
noncomputable def  fM(env:Env)(cs:List (Str×Addr))(x:Str×NameKind):List (Str×Addr):=if x.2==.free then(x.1,(env.cells.lookup x.1).getD 0)::cs else cs
abbrev p9(env:Env)(scope:Scope):List (Str×Addr):=scope.names.foldl (fM env) []
def lK(h:(k==NameKind.free)=true):k=.free:=by grind
def jL(h:∀y∈scope.names,y.2=.free->∃c,env.cells.lookup y.1=!c):closureFor scope env=pure (p9 env scope):=by
 simp only[closureFor];rw[lJ (g:=fM env) scope.names [] (λx j c=>by
  let⟨n,k⟩:=x;unfold fM;cases l:(k==NameKind.free)with
  |false=>simp
  |true=>
   let⟨a,e⟩:=h (n,k) j (lK l);have o:=e;simp[cellOf,o])]
 rfl
def eJ:∀(l:List (Str×NameKind))(cs:List (Str×Addr)),(∀x c,cs.lookup x=!c->env.cells.lookup x=!c)->(∀y∈l,y.2=.free->∃c,env.cells.lookup y.1=!c)->
  ∀x c,(l.foldl (fM env) cs).lookup x=!c->env.cells.lookup x=!c
 |[],_,h,_,x,c,e=>h x c e
 |(n,k)::l,cs,h,hl,x,c,e=>by
  refine eJ l (fM env cs (n,k)) (λy d q=>?_) (λy hy=>hl y (Um _ hy)) x c e;unfold fM at q;cases hk:(k==NameKind.free)with
  |false=>rw[hk]at q;exact h y d (by simpa using q)
  |true=>
   rw[hk]at q;let⟨a,ea⟩:=hl (n,k) Ul (lK hk);have ea':env.cells.lookup n=!a:=ea;simp only[if_true,List.lookup_cons,ea',Option.getD_some]at q;cases hy:(y==n)with
   |true=>
    rw[hy]at q;have hyn:y=n:=by simpa using hy
    rw[hyn,ea'];exact q
   |false=>rw[hy]at q;exact h y d q
def jM:∀(l:List (Str×NameKind))(cs:List (Str×Addr))(x:Str),((x,NameKind.free)∈l\/(cs.lookup x).isSome=true)->((l.foldl (fM env) cs).lookup x).isSome=true
 |[],_,_,h=>by
  rcases h with h|h
  .cases h
  .exact h
 |(n,k)::l,cs,x,h=>by
  refine jM l (fM env cs (n,k)) x ?_;rcases h with h|h
  .rcases mem_cons.mp h with e|h
   .cases e;refine .inr ?_;unfold fM;simp
   .exact .inl h
  .refine .inr ?_;unfold fM;split
   .rw[List.lookup_cons];split
    .rfl
    .exact h
   .exact h
def mR(h:(relabel scope env).names.lookup x=!k):∃g,(x,g)∈scope.names/\(g=k\/(g=.free/\k=.cell)):=by
 have h':(scope.names.map λ(n,k)=>if(k==NameKind.free&&env.scope.kind==.function&&env.kindOf n==some .cell)then(n,NameKind.cell)else(n,k)).lookup x=!k:=h;have j:=PySem.mem_of_lookup h';grind
def  mS(X:Cx)(scope:Scope)(C:Addr)(s:Shared)(H:Hp)(fp:List Addr):Cx where
 prog:=X.prog
 w:=X.w
 K:=X.K
 mg:=X.mg
 base:=X.base
 A:=X.A
 N:=X.N
 s₀:=s
 H₀:=H
 env:=compEnvC scope (p9 X.env scope) C X.env
 outer:=X.stack
 stack:=X.stack
 ex:=fp
 fn:=λ_=>false
 calm:=X.calm
 pn:=[]
 xe:=λ_ _=>False
structure CSc(X:Cx)(scope:Scope)(ks:T1):Prop where
 kind:scope.kind=.function
 nocell:∀y∈scope.names,y.2≠.cell
 names:∀y∈scope.names,y.2=.local->scope.names.lookup y.1=some .local
 free:∀y∈scope.names,y.2=.free->X.env.scope.names.lookup y.1=some .cell\/X.env.scope.names.lookup y.1=some .free
 own:∀(i:Nat)(x:Str),X.N[i]?=!x->scope.names.lookup x=some .local->i∈ks
noncomputable def  wipe{α:Type}(ks:T1)(σ:List (Option α)):List (Option α):=ks.foldl (λσ k=>σ.set k none) σ
def j9:∀(ks:T1)(σ:List (Option α)),(wipe ks σ).length=σ.length
 |[],_=>rfl
 |k::ks,σ=>by
  show(wipe ks (σ.set k none)).length=_;rw[j9 ks];simp
def mT:∀(ks:T1)(σ:List (Option α))(i:Nat)(v:α),(wipe ks σ)[i]?=!(!v)->σ[i]?=!(!v)/\i ∉ ks
 |[],_,_,_,h=>⟨h,by simp⟩
 |k::ks,σ,i,v,h=>by
  let⟨h1,h2⟩:=mT ks (σ.set k none) i v h;by_cases hk:k=i
  .subst hk;rw[List.getElem?_set]at h1;simp only[if_true]at h1;split at h1<;>simp at h1
  .rw[List.getElem?_set_ne hk]at h1;exact⟨h1,by simp[h2,Ne.symm hk]⟩
def rN:∀(ks:T1)(σ:List (Option α))(i:Nat)(v:α),σ[i]?=!(!v)->i ∉ ks->(wipe ks σ)[i]?=!(!v)
 |[],_,_,_,h,_=>h
 |k::ks,σ,i,v,h,hn=>by
  refine rN ks (σ.set k none) i v ?_ λz=>hn (Um _ z);rw[List.getElem?_set_ne (λz=>hn (by simp[z]))];exact h
section
variable{X:Cx}{pins:TU}{σ:St}{H:Hp}{s:Shared}{fp:List Addr}{scope:Scope}{ks:T1}{C D:Addr}
def Inv.cells_of(I:Inv X pins σ H s)(S:CSc X scope ks):∀y∈scope.names,y.2=.free->∃c,X.env.cells.lookup y.1=!c:=λy g j=>I.ok.has y.1 (S.free y g j)
def uh(I:Inv X pins σ H s)(S:CSc X scope ks)(hf:∀b∈fp,jI X pins H b)(hlt:∀b∈fp,b<s.heap.objs.size)(hC:s.heap.objs.size<=C):(mS X scope C s H fp).Ok where
 mod:=I.ok.mod
 kind:=S.kind
 glob:=I.ok.glob
 blt:=I.ok.blt
 above:=hC
 inj:=λx y c h1 h2=>I.ok.inj x y c (eJ _ [] (λ_ _ z=>nomatch z) (I.cells_of S) x c h1) (eJ _ [] (λ_ _ z=>nomatch z) (I.cells_of S) y c h2)
 has:=λx hx=>by
  have q:∃k,(relabel scope X.env).names.lookup x=!k/\(k=.cell\/k=.free):=by
   rcases hx with h|h
   .exact⟨_,h,.inl rfl⟩
   .exact⟨_,h,.inr rfl⟩
  let⟨k,hk,hc⟩:=q;let⟨k0,hm,h0⟩:=mR hk;have hfree:k0=.free:=by
   rcases h0 with rfl|⟨h,_⟩
   .rcases hc with z|z
    .exact absurd z (S.nocell _ hm)
    .exact z
   .exact h
  subst hfree;exact Option.isSome_iff_exists.mp (jM scope.names [] x (.inl hm))
 cab:=λ_ _ z=>absurd z Uj
 hd:=I.ok.hd
 frames:=I.ok.frames
 stk:=.inl rfl
 exf:=λb hb=>⟨Us (Up (hlt b hb) hC),λx c e=>(hf b hb).2.2.2.2.1 x c (eJ _ [] (λ_ _ z=>nomatch z) (I.cells_of S) x c e)⟩
 bs:=I.bs
 bsz:=Ur I.ok.bsz I.sz
 noex:=λb o e hb=>by
  rcases(hf b hb).2.2.2.1 with z|z
  .exact I.ok.noex b o e z
  .exact absurd (Up (Up (Uh e) I.ok.bsz) z) (Ux _)
 exfs:=λb hb hs=>by
  rcases mem_cons.mp (I.stkSub b hs)with z|z
  .exact(hf b hb).2.1 z
  .exact(hf b hb).2.2.1 z
 funs:=I.stack
 frf:=I.stkFree
def xm{g:TY}(I:Inv X pins σ H s)(S:CSc X scope ks)(hf:∀b∈fp,jI X pins H b)(hlt:∀b∈fp,b<s.heap.objs.size)(hD:s.heap.objs.size<=D)(hC:s.heap.objs.size<=C)(hDC:D≠C)(old:∀b o,s.heap.get? b=!o->j.get? b=!o)(hns:j.Ns C m)(hacc:j.get? D=some {cls:=.type "list",data:=.seq g.toArray n}):
  Inv (mS X scope C s H fp) [(D,{cls:=.type "list",data:=.seq g.toArray n})] (wipe ks σ) H {s with heap:=j,toks:=tk}:=by
 have cs:=eJ scope.names [] (λ_ _ z=>nomatch z) (I.cells_of S)
 refine⟨uh I S hf hlt hC,rfl,I.bare,Un.kept old,⟨m,hns,λi x v hN hσ hv=>?_⟩,λx c e=>?_,I.hok.fresh hC,λx c e=>I.freeC x c (cs x c e),λp hp=>?_,I.hok.kept old,?_⟩
 .let⟨h1,h2⟩:=mT ks σ i v hσ;have hv':∃k,(relabel scope X.env).names.lookup x=!k/\(k=.local\/k=.cell\/k=.free):=by
   rcases hv with h|h|h
   .exact⟨_,h,.inl rfl⟩
   .exact⟨_,h,.inr (.inl rfl)⟩
   .exact⟨_,h,.inr (.inr rfl)⟩
  let⟨k,hk,hkk⟩:=hv';let⟨k0,hm,h0⟩:=mR hk;have J:k0=.free:=by
   rcases h0 with e|⟨h,_⟩
   .subst e;rcases hkk with z|z|z
    .exact absurd (S.own i x hN (S.names _ hm z)) h2
    .exact absurd z (S.nocell _ hm)
    .exact z
   .exact h
  subst J;have hX:=S.free _ hm rfl;let⟨m0,hn0,hl0⟩:=I.loc;let⟨u,r,l⟩:=hl0 i x v hN h1 (by rcases hX with z|z;exact .inr (.inl z);exact .inr (.inr z));refine⟨u,r,.inr ⟨?_,?_⟩⟩
  .have hk2:k=.cell\/k=.free:=by
    rcases h0 with e|⟨_,e⟩
    .exact .inr e.symm
    .exact .inl e
   rcases hk2 with e|e
   .subst e;exact .inl hk
   .subst e;exact .inr hk
  .rcases l with⟨U,_⟩|⟨_,c,ec,T⟩
   .have t:X.env.scope.names.lookup x=some .local:=U;rcases hX with z|z
    .rw[t]at z;cases z
    .rw[t]at z;cases z
   .let⟨c',ec'⟩:=Option.isSome_iff_exists.mp (jM scope.names [] x (.inl hm));have e2:=cs x c' ec';rw[ec]at e2;cases e2;let⟨o,ho,hd⟩:=T;exact⟨c,ec',o,old c o ho,hd⟩
 .let⟨v,o,ho,hd⟩:=I.cell x c (cs x c e);exact⟨v,o,old c o ho,hd⟩
 .have e:p=(D,{cls:=.type "list",data:=.seq g.toArray n}):=by
   have hp':p∈[]++[(D,({cls:=.type "list",data:=.seq g.toArray n}:Obj))]:=hp;simpa using hp'
  subst e;refine⟨hacc,I.hok.fresh hD,hDC,λhb=>?_,λv z=>?_⟩
  .rcases mem_cons.mp (I.stkSub D hb)with z|z
   .exact absurd (Up I.lt hD) (by rw[z];exact Ux _)
   .exact I.nofs hD z
  .have z':Data.seq g.toArray n=Data.cell v:=z;cases z'
 .show(wipe ks σ).length=X.N.length;rw[j9];exact I.len
def HOk.adopt{P:Program}{w:World}{H:Hp}{h:Heap}{a:Addr}{o:HO}(x:HOk P w H h)(hn:H a=none)(new:ObjOk P w (upd H a o) h a o):HOk P w (upd H a o) h:=λb u q=>by
 by_cases hb:b=a
 .subst hb;rw[ak]at q;cases q;exact new
 .rw[al hb]at q;refine(x b u q).stay (λ_ _ _ z=>z) (λc z=>?_) λc xs z=>?_
  .rw[al (aG z hn)];exact z
  .rw[al (aG z hn)];exact z
def CS{p:St}(I:Inv X pins σ H s)(J:Inv (mS X scope C s H fp) pl p H' s')(U:∀b∈fp,jI X pins H b)(hD:s.heap.objs.size<=D)(g:H' D=none)(l:s'.heap.get? D=some {cls:=.type "list",data:=.seq j.toArray n})(r:Vals ys j)(t:ys.length<=sizeLine):Inv X pins σ (upd H' D (.lst ys)) s':=by
 have B:=J.base;have ne:∀b o,s.heap.get? b=!o->b≠D:=λb o e=>Us (Up (Uh e) hD);refine I.call' J.os ⟨B.keep,B.slot,λb o e q T=>?_,B.there,λb xs q=>?_,λb o u q=>?_,λb ps q=>?_⟩ (J.hok.adopt g ⟨t,j,n,r,l⟩) J.bare λb hb=>?_
 .rw[al (ne b o e)];exact B.free b o e q T
 .have z:=B.tups b xs q;rw[al (aG z g)];exact z
 .have z:=B.frzs b o u q;rw[al (aG z g)];exact z
 .let⟨more,z⟩:=B.tbls b ps q;exact⟨more,by rw[al (aG z g)];exact z⟩
 .let⟨_,f1,_,f3,f4,f5⟩:=U b hb;exact⟨f3,f1,f4,f5⟩
end
def  PTs(X:Cx)(ifs:Ua)(t:TT):Prop:=
 ∀(pins:TU)(s:Shared)(σ:St)(H:Hp)(Q:Bool->Hp->Prop),Inv X pins σ H s->t σ H Q->
  wpAny (!5) X.A (forIn ifs true λc r=>if r=true then do let ok<-isTrue c X.env (eval c X.env);pure (ForInStep.yield ok)else pure (ForInStep.yield r)) (TP X pins σ Q) X.xe s
def  Pz:TT:=λ_ H Q=>Q true H
def pts_nil:PTs X [] Pz:=λ_ _ _ H _ I h=>wpAny_tests_nil ⟨H,I,h⟩
def CT(h:PT X c t):PTs X [c] t:=λpins s σ H Q I q=>wpAny_tests_one (h pins s σ H Q I q)
def ui{prog:Program}{w:World}{A:Around}{R:Result->Shared->Prop}(I:Nat->Shared->Prop)(g:∀n s,I n s->wpAny (!7) A (pyNext p) (λr o=>match r with
   |none=>R (.ok .next) o
   |some v=>wpAny (!7) A (letOwnedTupleGo tg p v) (λ_ J=>wpAny (!7) A (assign tg env v) (λ_ C=>
    wpAny (!7) A (forIn ifs true λc r=>if r=true then do let ok<-isTrue c env (eval c env);pure (ForInStep.yield ok)else pure (ForInStep.yield r)) (λok l=>
     if ok=true then wpAny (!7) A (eval elt env) (λx s5=>wpAny (!7) A (call (.builtin "list.append") [j,x]) (λ_ t=>∃m,m<n/\I m t) (λ_ _=>False) s5) (λ_ _=>False) l
     else∃m,m<n/\I m l) (λ_ _=>False) C) (λ_ _=>False) J) (λ_ _=>False) o) (λ_ _=>False) s) (n:Nat) (h:I n s):codeAny (!7) A (.compLoop (!14) 0 p j env) R s:=by
 refine codeAny_loop rfl I (λk s' U=>?_) n h
 show wpAny _ A ((compTurn (!14) 0 p j env).onRaise (λx=>do noteFrame x env;theTreesLotGoes x)) _ _ s'
 refine wpAny_noted ?_
 rw[compTurn_list]
 refine Ud (wpAny_standAt (Ud (UC (g k s' U) (λr o h1=>?_) λ_ _ z=>z.elim)))
 cases r with
 |none=>exact Ug h1
 |some v=>
  refine Ud (UC h1 (λ_ J h2=>?_) λ_ _ z=>z.elim);refine Ud (UC h2 (λ_ C h3=>?_) λ_ _ z=>z.elim);refine Ud (UC h3 (λok l T=>?_) λ_ _ z=>z.elim);cases ok with
  |false=>exact Ug ⟨rfl,T⟩
  |true=>
   refine Ud (Ud (UC T (λx s5 h5=>?_) λ_ _ z=>z.elim));exact Ud (UC h5 (λ_ t h6=>Ug (Ug ⟨rfl,h6⟩)) λ_ _ z=>z.elim)
def  PB(σ σ':St):Prop:=σ'.length=σ.length/\∀(i:Nat)(v:V),σ[i]?=!(!v)->σ'[i]?=!(!v)
def  FC(J:It)(ks:T1)(g:TG)(tt:TT)(te:TE)(σ:St)(Fin:List V->Hp->Prop)(W:Nat->Nat->List V->Hp->Prop):Prop:=∀i m ys H2,W i m ys H2->
 (J.stop i H2/\ys.length<=sizeLine/\Fin ys H2)\/
 (J.go i H2/\ys.length<sizeLine/\∀x H3,J.yld i H2 x H3->g x (wipe ks σ) H3 λσ4 H4=>PB (wipe ks σ) σ4/\tt σ4 H4 λc H5=>
  if c=true then te σ4 H5 λy H6=>∃m',m'<m/\W (i+1) m' (ys++[y]) H6 else∃m',m'<m/\W (i+1) m' ys H5)
def  rO(wi:TI)(ks:T1)(g:TG)(tt:TT)(te:TE):TE:=λσ H Q=>wi σ H λJ H1=>∃W:Nat->Nat->List V->Hp->Prop,(∃m,W 0 m [] H1)/\
 FC J ks g tt te σ (λys H2=>∀p,H2 p=none->Q (.ref p) (upd H2 p (.lst ys))) W
section
variable{X:Cx}{scope:Scope}{ks:T1}{tg elt iter:Expr}{ifs:Ua}{g:TG}{tt:TT}{te:TE}{pos:Pos}
def mU{σ:St}{RR:Value->Addr->Result->Shared->Prop}{Fin}(hc:X.calm=true)(S:CSc X scope ks)(I2:Inv X pins σ H2 s2)(T:Turn X.prog X.w X.K tg J fp it tn)(st:tn 0 s2.heap)(f2:∀b∈fp,jI X pins H2 b)(hg:∀C s H,PG (mS X scope C s H fp) tg g)(htt:∀C s H,PTs (mS X scope C s H fp) ifs tt)(he:∀C s H,PE (mS X scope C s H fp) elt te)(w0:∃m,W 0 m [] H2)(turn:FC J ks g tt te σ Fin W)(hR:∀D C H3 s3 m ys,Inv X pins σ (upd H3 D (.lst ys)) s3->H3 D=none->upd H3 D (.lst ys) C=none->C≠X.env.locals->s2.heap.objs.size<=C->s3.heap.Ns C m->Fin ys H3->RR (.ref D) C (.ok .next) s3):
  wpAny (!5) X.A (newList []) (λacc s₃=>wpAny (!5) X.A (newFunctionEnv scope X.env.globals (p9 X.env scope) [] X.env.qual none .none (!X.env)) (λcenv s₄=>
   codeAny (!5) X.A (.compStart (!14) 0 (.ref it) acc {cenv with scope:=relabel scope X.env}) (RR acc cenv.locals) s₄) E s₃) E s2:=by
 have hlt:∀b∈fp,b<s2.heap.objs.size:=λb t=>by
  let⟨o,e,_⟩:=T.obj _ _ st b t
  exact Uh e
 refine wpAny_newObj_type (wpAny_newFunctionEnv S.nocell (by intro y hy;simp at hy) (λh₁ hns₁ U=>?_) S.kind)
 generalize hH2:s2.heap.push {cls:=.type "list",dict:=none,data:=.seq ([]:TY).toArray}=G at hns₁ U⊢
 have hCe:G.objs.size=s2.heap.objs.size+1:=by rw[<-hH2,Heap.size_push]
 have hDC:s2.heap.objs.size≠G.objs.size:=by rw[hCe];exact Us (Nat.lt_succ_self _)
 have hC:s2.heap.objs.size<=G.objs.size:=by rw[hCe];exact Nat.le_succ _
 have old:∀b o,s2.heap.get? b=!o->h₁.get? b=!o:=λb o e=>
  U.extBut b o (Us (Up (Uh e) hC)) (Ue _ (hH2▸Ue _ e))
 have hacc:h₁.get? s2.heap.objs.size=some {cls:=.type "list",data:=.seq ([]:TY).toArray 0}:=U.extBut _ _ hDC (Ue _ (hH2▸Ui _ rfl))
 generalize l:s2.heap.objs.size=D at*
 generalize hCn:G.objs.size=C at*
 have st₁:=T.keep _ _ _ st λb t o e=>old b o e
 let ρ:=mS X scope C s2 H2 fp
 have fpY:∀{pl:TU}{H':Hp},(∀b∈fp,H' b=none)->(∀p∈pl,D<=p.1)->∀b∈fp,jI ρ pl H' b:=λ{pl H'} hn hp b t=>by
  refine⟨hn b t,Us (Up (hlt b t) hC),λz=>?_,.inl t,((uh I2 S f2 (l▸hlt) (l▸hC)).exf b t).2,λp hq=>?_⟩
  .exact(uh I2 S f2 (l▸hlt) (l▸hC)).exfs b t z
  .have hq':p∈[]++pl:=hq
   have:=hp p (by simpa using hq')
   exact Nat.ne_of_gt (Up (hlt b t) this)
 have loop:∀tk,codeAny (!5) X.A (.compLoop (!14) 0 (.ref it) (.ref D) (compEnvC scope (p9 X.env scope) C X.env)) (RR (.ref D) C) {s2 with heap:=h₁,toks:=tk}:=λtk=>by
  let⟨m0,w0⟩:=w0
  refine ui (λn s'=>∃i ys I j H',Inv ρ [(D,{cls:=.type "list",data:=.seq (List.toArray I) j})] _ H' s'/\Vals ys I/\tn i s'.heap/\(∀b∈fp,H' b=none)/\W i n ys H') ?_ m0
   ⟨0,[],[],0,H2,xm I2 S f2 (l▸hlt) (l▸UB _) (l▸hC) hDC old hns₁ hacc,.nil,st₁,λb t=>(f2 b t).1,w0⟩
  rintro n s3 ⟨i,ys,I,j,H3,I3,rv,Fs,fr3,w3⟩
  have pinD:∀p∈[(D,({cls:=.type "list",data:=.seq _ j}:Obj))],D<=p.1:=λp hp=>by
   have e:p=(D,{cls:=.type "list",data:=.seq (List.toArray I) j}):=by simpa using hp
   rw[e];exact UB _
  rcases turn i n ys H3 w3 with⟨stop,hz,fin⟩|⟨go,hz,step⟩
  .refine bu (T.done ρ rfl rfl rfl hc i _ s3 _ H3 (λ_ _=>False) I3 (fpY fr3 pinD) Fs stop) λr s4 ⟨hr,I4⟩=>?_
   subst hr
   have hD4:=I4.pin (D,{cls:=.type "list",data:=.seq _ j}) (Uw _ Ul)
   let⟨m4,hn4,_⟩:=I4.loc
   have JX:=CS I2 I4 f2 (Nat.le_of_eq l) hD4.2.1 hD4.1 rv hz
   exact hR D C H3 s4 m4 ys JX hD4.2.1 (by rw[al (Ne.symm hDC)];exact I4.free) (Nat.ne_of_gt (Up I2.lt (l▸hC))) hC hn4 fin
  .refine bu (T.item ρ rfl rfl rfl hc i _ s3 _ H3 (λ_ _=>False) I3 (fpY fr3 pinD) Fs go) λr s4 ⟨u,hr,h4⟩=>?_
   subst hr
   refine bu h4 λ_ s5 ⟨x,H5,I5,r5,y5,st5,fr5⟩=>?_
   have I5':=I5.pinned (fpY fr5 pinD) (T.obj _ _ st5)
   refine bu (hg C s2 H2 _ s5 _ H5 x u _ I5' r5 (step x H5 y5)) λ_ s6 ⟨σ6,H6,I6,kp,q6⟩=>?_
   refine bu (htt C s2 H2 _ s6 σ6 H6 _ I6 q6) λok s7 ⟨H7,I7,q7⟩=>?_
   -- the iterator's own objects stand
   have stay:∀{H':Hp}{s':Shared},Inv ρ ([(D,({cls:=.type "list",data:=.seq (List.toArray I) j}:Obj))]++mH fp s5.heap) σ6 H' s'->tn (i+1) s'.heap/\∀b∈fp,H' b=none:=λ{H' s'} I'=>by
    refine⟨T.keep _ _ _ st5 λb t o e=>(I'.pin (b,o) (Uw _ (Uw _ (gv t e)))).1,λb t=>?_⟩
    let⟨o,e,_⟩:=T.obj _ _ st5 b t
    exact(I'.pin (b,o) (Uw _ (Uw _ (gv t e)))).2.1
   cases ok with
   |false=>
    let⟨m',hm,w7⟩:=q7
    let⟨t7,n7⟩:=stay I7
    exact⟨m',hm,i+1,ys,I,j,H7,I7.unpinned.weak kp.1.symm kp.2,rv,t7,n7,w7⟩
   |true=>
    refine bu (he C s2 H2 _ s7 σ6 H7 _ I7 q7) λy s8 ⟨yv,H8,I8,r8,m',hm,w8⟩=>?_
    let⟨t8,n8⟩:=stay I8
    have hD8:=I8.pin (D,{cls:=.type "list",data:=.seq _ j}) (Uw _ (Uv _ Ul))
    have hlen:=rv.length
    refine append_at hD8.1 (λh9 sb hD9=>?_) (by rw[size_toArray];omega)
    have I9:Inv ρ [] σ6 H8 {s8 with heap:=h9,toks:=s8.toks}:=Inv.turned (I8.pins_of λp hp=>nomatch hp) (λb o t e=>sb.extBut b o t e) hD8.2.1 hD8.2.2.1 (.inr (Nat.le_of_eq l))
     (λx c e z=>by
      let⟨v,q⟩:=I8.cell x c e
      let⟨o,ho,hd⟩:=q
      rw[z,hD8.1]at ho
      cases ho
      exact hD8.2.2.2.2 v hd) (λp hp=>nomatch(hp))
    have e9:h9.get? D=some {cls:=.type "list",data:=.seq (List.toArray (I++[y])) (j+1)}:=by
     rw[hD9];simp
    have I10:Inv ρ [(D,{cls:=.type "list",data:=.seq _ _})] σ6 H8 {s8 with heap:=h9,toks:=s8.toks}:=I9.pins_of λp hp=>by
     have e:p=(D,{cls:=.type "list",data:=.seq (List.toArray (I++[y])) (j+1)}):=by simpa using hp
     subst e
     exact⟨e9,hD8.2.1,hD8.2.2.1,hD8.2.2.2.1,λv z=>by
      have z':=z
      cases z'⟩
    refine⟨m',hm,i+1,ys++[yv],I++[y],j+1,H8,I10.weak kp.1.symm kp.2,rv.append (.cons r8 .nil),T.keep _ _ _ t8 λb t o e=>sb.extBut b o (Us (hlt b t)) e,n8,w8⟩
 exact codeAny_compStart_list (loop _) (T.self _ 0 _ _ _ st₁ (loop _))
def CU(hc:X.calm=true)(S:CSc X scope ks)(hi:PI X tg iter wi)(hg:∀C s H fp,PG (mS X scope C s H fp) tg g)(U:∀C s H fp,PTs (mS X scope C s H fp) ifs tt)(he:∀C s H fp,PE (mS X scope C s H fp) elt te)(hs:∀x,foldedSetIterable iter X.env x=pure x:=by intro _;rfl):PE X (!14) (rO wi ks g tt te):=by
 intro pins s σ H Q I h;refine wpAny_comprehension_free rfl hs (jL (I.cells_of S)) S.kind S.names (bu (hi pins s σ H _ I h) λv s1 h1=>bu h1 λitv s2 h2=>?_);let⟨it,fp,tn,J,H2,e,r,T,t,f2,W,w0,l⟩:=h2;subst e;refine mU hc S r T t f2 (λC s H=>hg C s H fp) (λC s H=>U C s H fp) (λC s H=>he C s H fp) w0 l ?_;intro D C H3 s3 m ys I3 hD hC hCL j hns fin;refine⟨m,hns,λh' sb=>?_⟩;refine⟨.ref D,upd H3 D _,?_,rfl,fin D hD⟩;exact I3.turned (λb o hb e=>sb.extBut b o hb e) hC hCL (.inr (Ur r.sz j)) (λx c e z=>by
  let⟨v,o,ho,hd⟩:=r.cell x c e;exact absurd (Up (Uh ho) j) (by rw[z];exact Ux _)) λp hp z=>absurd (Up (Uh (r.pin p hp).1) j) (by rw[z];exact Ux _)
def CV(hN:X.N.Nodup)(hx:X.N[i]?=!x)(hl:X.env.scope.names.lookup x=some .local)(hc:X.calm=true)(S:CSc X scope ks)(hi:PI X tg iter wi)(hg:∀C s H fp,PG (mS X scope C s H fp) tg g)(htt:∀C s H fp,PTs (mS X scope C s H fp) ifs tt)(he:∀C s H fp,PE (mS X scope C s H fp) elt te)(hsw:swapsWith (!14) (!(.Name x px)) r.line X.env=pure true)(hs:∀x,foldedSetIterable iter X.env x=pure x:=by intro _;rfl):PS X (.Assign [.Name x px] (!14) r) (yH (rO wi ks g tt te) (rE i)):=by
 intro pins s σ H Q I h;rw[exec_Assign_Name_used _ _ _ _ hsw];refine Ud (wpAny_standAt (Ud ?_));refine Ud (UC (wpAny_comprehension_free rfl hs (jL (I.cells_of S)) S.kind S.names
  (bu (hi pins s σ H _ I h) λv s1 h1=>bu h1 λitv s2 h2=>?_)) (λ_ s' hq=>Ug (Ug hq)) λ_ _ e=>e)
 let⟨it,fp,tn,J,H2,e,U,T,KU,f2,W,w0,l⟩:=h2;subst e;refine mU hc S U T KU f2 (λC s H=>hg C s H fp) (λC s H=>htt C s H fp) (λC s H=>he C s H fp) w0 l ?_;intro D C H3 s3 m ys I3 hD hC t j hns fin;refine wpAny_assign_Name (oO (v:=.ref D) I3 hN hx (.inl hl) rfl (λs4 I4 ⟨a,sb,ha⟩=>?_) (.inr hl));have hCa:C≠a:=by
  rcases ha with z|z
  .rw[z];exact t
  .intro q;let⟨v,o,ho,hd⟩:=U.cell x a z;exact absurd (Up (Uh ho) j) (by rw[q];exact Ux _)
 refine⟨m,hns.sameBut sb hCa,λh' sb'=>?_⟩;refine⟨σ.set i _,upd H3 D _,?_,fin D hD⟩;exact I4.turned (λb o hb e=>sb'.extBut b o hb e) hC t (.inr (Ur U.sz j)) (λx c e z=>by
   let⟨v,o,ho,hd⟩:=U.cell x c e;exact absurd (Up (Uh ho) j) (by rw[z];exact Ux _)) λp hp z=>absurd (Up (Uh (U.pin p hp).1) j) (by rw[z];exact Ux _)
end
section
variable{κ:Type}[DecidableEq κ]
noncomputable def  jf(kvs:List (κ×V))(k:κ):Option V:=(kvs.find? λkv=>decide (kv.1=k)).map (·.2)
noncomputable def  xn(kvs:List (κ×V))(k:κ)(v:V):List (κ×V):=
 if(kvs.any λkv=>decide (kv.1=k))=true then kvs.map (λkv=>if kv.1=k then(kv.1,v)else kv)else kvs++[(k,v)]
def ka{k:κ}(e:p.1=k):jf (p::r) k=!p.2:=by simp[jf,List.find?_cons,e]
def kc{k:κ}(e:¬p.1=k):jf (p::r) k=jf r k:=by simp[jf,List.find?_cons,e]
def rP(k:κ):∀kvs:List (κ×V),(kvs.any λkv=>decide (kv.1=k))=(jf kvs k).isSome
 |[]=>rfl
 |p::r=>by
  rw[List.any_cons];by_cases e:p.1=k
  .simp only[ka e,decide_eq_true e,Bool.true_or,Option.isSome_some]
  .rw[kc e,decide_eq_false e,Bool.false_or];exact rP k r
def rQ(kvs:List (κ×V))(k:κ)(v:V):(xn kvs k v).length<=kvs.length+1:=by grind [xn]
def KV.val(r:KV kvs l)(k:κ):RelO (jf kvs k) (valueAt l k):=by
 induction r with
 |nil=>exact True.intro
 |@cons p q ps g h t o=>
  let⟨h1,h2⟩:=h;by_cases e:p.1=k
  .have j:q.1=k:=h1.symm.trans e;have b:valueAt (q::g) k=!q.2:=by simp[valueAt,List.find?_cons,j]
   rw[ka e,b];exact h2
  .have j:¬q.1=k:=λz=>e (h1.trans z);have b:valueAt (q::g) k=valueAt g k:=by simp[valueAt,List.find?_cons,j]
   rw[kc e,b];exact o
def KV.any(r:KV kvs j)(k:κ):(kvs.any λg=>decide (g.1=k))=j.any λg=>decide (g.1=k):=by
 induction r with
 |nil=>rfl
 |cons h t l=>rw[List.any_cons,List.any_cons,l,h.1]
def KV.repl(r:KV kvs j)(k:κ)(l:RelV y u):
  KV (kvs.map λg=>if g.1=k then(g.1,y)else g) (j.map λg=>if g.1=k then(g.1,u)else g):=by
 induction r with
 |nil=>exact .nil
 |@cons p q ps C h t o=>
  rw[List.map_cons,List.map_cons];refine .cons ?_ o;let⟨h1,h2⟩:=h;by_cases e:p.1=k
  .rw[if_pos e,if_pos (h1.symm.trans e)];exact⟨h1,l⟩
  .rw[if_neg e,if_neg (λz=>e (h1.trans z))];exact⟨h1,h2⟩
def KV.put(r:KV kvs g)(k:κ)(j:RelV y u):KV (xn kvs k y) (stored g k u):=by
 unfold xn stored;rw[r.any];by_cases e:(g.any λl=>decide (l.1=k))=true
 .rw[if_pos e,if_pos e];exact r.repl k j
 .rw[if_neg e,if_neg e];exact Paired.snoc r ⟨rfl,j⟩
def KV.length{g:List (κ×Value)}(r:KV kvs g):kvs.length=g.length:=Paired.length r
end
def FD(r:RelV (kV k) u):(c9 P w).is k u=true:=by
 cases k with
 |inl i=>let⟨t,e⟩:=(r);subst e;exact rC P w i t
 |inr x=>let⟨t,e⟩:=(r);subst e;exact rD P w x t
section
variable{P:Program}{w:World}{H:Hp}{h:Heap}{a:Addr}
def LC(ok:HOk P w H h)(e:Rd H a u):ObjOk P w H h a u:=e.ok ok
def FE(ok:HOk P w H h)(e:Rd H a (.dK kvs)):kvs.length<=sizeLine/\(a==sysModules)=false/\∃g,KV kvs g/\h.DictOf (c9 P w) a g:=
 show ObjOk P w H h a (.dK kvs)from LC ok e
def FG(ok:HOk P w H h)(e:H a=!(.dK kvs)):kvs.length<=sizeLine/\(a==sysModules)=false/\∃g,KV kvs g/\h.DictOf (c9 P w) a g:=FE ok (.inl e)
end
def Inv.big(I:Inv X pins σ H s):sysModules<s.heap.objs.size:=by
 have h:=(I.mod.glob.keeps I.bk).lt;exact Nat.lt_trans (!4) h
def CW(I:Inv X pins σ H s)(mu:K9 (H a))(hs:Heap.SameBut a s.heap h')(he:∃q,h'.get? a=!q)(new:ObjOk X.prog X.w (upd H a ob) h' a ob):
  Inv X pins σ (upd H a ob) {s with heap:=h',toks:=t'}:=
 I.write mu (.inl rfl) (λb q hb z=>(hs.2 b hb).trans z) he new
def Hl{a:Addr}(z:kvs.length<=sizeLine)(hd:(a==sysModules)=false)(rel:KV kvs g)(j:h'.DictOf (c9 P w) a g):
 ObjOk P w H' h' a (.dK kvs):=⟨z,hd,g,rel,j⟩
def y0(h:Heap)(g:sysModules<h.objs.size):ObjOk P w H (h.push {cls:=.type "dict",data:=.dict #[]}) h.objs.size (.dK []):=
 ⟨Nat.zero_le _,beq_eq_false_iff_ne.mpr (Ne.symm (Us g)),[],.nil,Heap.DictOf.new h⟩
def  Hn:TE:=λ_ H Q=>∀p,H p=none->Q (.ref p) (upd H p (.dK []))
def pe_dnewK:PE X (.Dict [] [] pos) Hn:=λpins s σ H Q I h=>
 wpAny_Dict_empty ⟨.ref s.heap.objs.size,_,I.laid (λ_ _ q=>Ue _ q) (UB _) (y0 s.heap I.big),rfl,h _ (I.hok.fresh (UB _))⟩
inductive D where
 |non
 |bl (b:Bool)
 |int (i:Int)
 |str (x:Str)
 |ty (n:String)
 |adr (a:Addr)
 |tup (ds:List D)
 |lst (ds:List D)
 |obj (C:Str) (ns:T3) (ds:List D)
 |dct (ks:List gO) (ds:List D)
abbrev _root_.Ub:=Option D
abbrev _root_.T9:=List D
abbrev _root_.TV:=Option (List D)
mutual
noncomputable def  Is(K:Frag)(H:Hp):D->V->Prop
 |.non,v=>v=.non
 |.bl b,v=>v=.bl b
 |.int i,v=>v=.int i
 |.str x,v=>v=.str x
 |.ty n,v=>v=.ty n
 |.adr a,v=>v=.ref a
 |.tup ds,v=>∃a xs,v=.ref a/\SqT K H a xs/\IsL K H ds xs
 |.lst ds,v=>∃a xs,v=.ref a/\SqL K H a xs/\IsL K H ds xs
 |.obj C ns ds,v=>∃a Ca dx fs,v=.ref a/\nsIn K mainGlobals C=!(!(.ref Ca))/\H a=!(.ins Ca dx fs)/\fs.map (·.1)=ns/\IsL K H ds (fs.map (·.2))
 |.dct ks ds,v=>∃a kvs,v=.ref a/\H a=!(.dK kvs)/\kvs.map (·.1)=ks/\IsL K H ds (kvs.map (·.2))
noncomputable def  IsL(K:Frag)(H:Hp):T9->List V->Prop
 |[],xs=>xs=[]
 |d::ds,xs=>∃x r,xs=x::r/\Is K H d x/\IsL K H ds r
end
def Same.seqT{K}(e:Same H H')(h:SqT K H a xs):SqT K H' a xs:=by
 rcases h with(h|⟨o,h⟩)|h
 .exact .inl (.inl (e _ _ h))
 .exact .inl (.inr ⟨o,e _ _ h⟩)
 .exact .inr h
mutual
theorem Is.mono{K:Frag}{H H':Hp}(s:Same H H'):∀(d:D)(v:V),Is K H d v->Is K H' d v
 |.non,_,h=>h
 |.bl _,_,h=>h
 |.int _,_,h=>h
 |.str _,_,h=>h
 |.ty _,_,h=>h
 |.adr _,_,h=>h
 |.tup ds,_,⟨a,xs,e,q,l⟩=>⟨a,xs,e,s.seqT q,IsL.mono s ds xs l⟩
 |.lst ds,_,⟨a,xs,e,q,l⟩=>⟨a,xs,e,s.seq q,IsL.mono s ds xs l⟩
 |.obj _ _ ds,_,⟨a,Ca,dx,fs,e,c,q,z,l⟩=>⟨a,Ca,dx,fs,e,c,s _ _ q,z,IsL.mono s ds _ l⟩
 |.dct _ ds,_,⟨a,kvs,e,q,z,l⟩=>⟨a,kvs,e,s _ _ q,z,IsL.mono s ds _ l⟩
theorem IsL.mono{K:Frag}{H H':Hp}(s:Same H H'):∀(ds:T9)(xs:List V),IsL K H ds xs->IsL K H' ds xs
 |[],_,h=>h
 |d::ds,_,⟨x,r,e,h,l⟩=>⟨x,r,e,Is.mono s d x h,IsL.mono s ds r l⟩
end
def IsL.paired{K}:∀{ds:T9}{xs:List V},IsL K H ds xs->Paired (Is K H) ds xs
 |[],_,h=>by cases(show _=[]from h);exact .nil
 |_::_,_,⟨_,_,e,h,l⟩=>by cases e;exact .cons h (IsL.paired l)
def IsL.of{K}:∀{ds:T9}{xs:List V},Paired (Is K H) ds xs->IsL K H ds xs
 |_,_,.nil=>rfl
 |_,_,.cons h l=>⟨_,_,rfl,h,IsL.of l⟩
def IsL.len{K}(h:IsL K H ds xs):ds.length=xs.length:=Paired.length h.paired
def mV:∀{a c:List α}{b d:List β},Paired F a b->Paired F c d->Paired F (a++c) (b++d)
 |_,_,_,_,.nil,h=>h
 |_,_,_,_,.cons h l,q=>.cons h (mV l q)
def mW:∀{a:List α}{b:List β}{i:Nat}{x:α},Paired F a b->a[i]?=!x->∃y,b[i]?=!y/\F x y
 |_,_,_,_,.nil,e=>by simp at e
 |_,_,0,_,.cons h _,e=>by simp at e;subst e;exact⟨_,rfl,h⟩
 |_,_,i+1,_,.cons _ l,e=>by
  let⟨y,h1,h2⟩:=mW (i:=i) l (by simpa using e);exact⟨y,by simpa using h1,h2⟩
def paired_get':∀{a:List α}{b:List β}{i:Nat}{y:β},Paired F a b->b[i]?=!y->∃x,a[i]?=!x/\F x y
 |_,_,_,_,.nil,e=>by simp at e
 |_,_,0,_,.cons h _,e=>by simp at e;subst e;exact⟨_,rfl,h⟩
 |_,_,i+1,_,.cons _ l,e=>by
  let⟨y,h1,h2⟩:=paired_get' (i:=i) l (by simpa using e);exact⟨y,by simpa using h1,h2⟩
def mX{x:α}{y:β}(h:F x y):∀{a:List α}{b:List β}(i:Nat),Paired F a b->Paired F (a.set i x) (b.set i y)
 |_,_,_,.nil=>.nil
 |_,_,0,.cons _ l=>.cons h l
 |_,_,i+1,.cons q l=>.cons q (mX h i l)
def lL:∀{a:List α}{b:List β}(n:Nat),Paired F a b->Paired F (a.take n) (b.take n)
 |_,_,0,_=>.nil
 |_,_,_+1,.nil=>.nil
 |_,_,n+1,.cons h l=>.cons h (lL n l)
def lM:∀{a:List α}{b:List β}(n:Nat),Paired F a b->Paired F (a.drop n) (b.drop n)
 |_,_,0,h=>h
 |_,_,_+1,.nil=>.nil
 |_,_,n+1,.cons _ l=>lM n l
def IsL.app{K}(h:IsL K H ds xs)(q:IsL K H es ys):IsL K H (ds++es) (xs++ys):=.of (mV h.paired q.paired)
def IsL.get{K}{i:Nat}(h:IsL K H ds xs)(e:ds[i]?=!d):∃x,xs[i]?=!x/\Is K H d x:=mW h.paired e
def IsL.get'{K}{i:Nat}(h:IsL K H ds xs)(e:xs[i]?=!x):∃d,ds[i]?=!d/\Is K H d x:=paired_get' h.paired e
noncomputable def  msk(O:T6)(H:Hp):Hp:=λb=>if O b=true then none else H b
def bU(h:msk O H b=!o):O b=false/\H b=!o:=by simp_all [Hp,msk]
def aO(h:O b=false):msk O H b=H b:=by unfold msk;rw[if_neg (by simp[h])]
def msk_le:Same (msk O H) H:=λ_ _ h=>(bU h).2
def Same.msk(s:Same H H'):Same (msk O H) (msk O H'):=λb o h=>by
 let⟨h1,h2⟩:=bU h;rw[aO h1];exact s b o h2
def iV(h:O a=true):msk O (upd H a o)=msk O H:=by
 funext b;unfold L2.msk;by_cases g:b=a
 .subst g;rw[if_pos h,if_pos h]
 .rw[al g]
def ke(h:O a=false):msk O (upd H a o)=upd (msk O H) a o:=by
 funext b;by_cases g:b=a
 .subst g;rw[aO h,ak,ak]
 .rw[al g];unfold L2.msk;rw[al g]
def Same.new(h:H a=none):Same H (upd H a o):=λb u q=>by rw[al (aG q h)];exact q
def Is.full{K}(h:Is K (msk O H) d v):Is K H d v:=Is.mono msk_le d v h
def IsL.full{K}(h:IsL K (msk O H) d v):IsL K H d v:=IsL.mono msk_le d v h
abbrev Vv:=List (Option D)
abbrev _root_.TN:=Vv->Option Bool
abbrev _root_.TL:=Vv->Option D
abbrev _root_.TK:=Vv->Option (List D)
def  Hid(o:Option HO):Prop:=(∃xs,o=!(.lst xs))\/(∃C dx fs,o=!(.ins C dx fs))\/∃kvs,o=!(.dK kvs)
def Hid.ne(h:Hid o):o≠none:=by grind [Hid]
def Hid.same(s:Same H H')(h:Hid (H b)):Hid (H' b):=by
 rcases h with⟨xs,e⟩|⟨C,dx,fs,e⟩|⟨kvs,e⟩
 .exact .inl ⟨xs,s _ _ e⟩
 .exact .inr (.inl ⟨C,dx,fs,s _ _ e⟩)
 .exact .inr (.inr ⟨kvs,s _ _ e⟩)
structure VE(K:Frag)(O:T6)(σ:St)(H:Hp)(Y:Vv):Prop where
 lis:∀b,O b=true->Hid (H b)
 len:σ.length=Y.length
 sh:∀(i:Nat)(d:D),Y[i]?=!(!d)->∃v,σ[i]?=!(!v)/\Is K (msk O H) d v
section
variable{K:Frag}{O:T6}{σ:St}{H H':Hp}{Y:Vv}
def VE.dom(E:VE K O σ H Y):∀b,O b=true->H b≠none:=λb h=>(E.lis b h).ne
def VE.grow(E:VE K O σ H Y)(s:Same H H'):VE K O σ H' Y where
 lis:=λb h=>(E.lis b h).same s
 len:=E.len
 sh:=λi d h=>let⟨v,e,q⟩:=E.sh i d h;⟨v,e,Is.mono s.msk d v q⟩
def fZ(hd:∀b,O b=true->H b≠none)(h:H p=none):O p=false:=by grind
def VE.fresh(E:VE K O σ H Y)(h:H p=none):O p=false:=fZ E.dom h
def get_set_some{α:Type}{l:List (Option α)}{x}{y}(h:(l.set i x)[j]?=!(!y)):(j=i/\x=!y)\/(j≠i/\l[j]?=!(!y)):=by grind
def oY{α:Type}{l:List (Option α)}{x}{y}(h:(l.set i x)[i]?=!y):i<l.length:=by grind
def VE.set(E:VE K O σ H Y){i:Nat}{d:D}{v:V}(h:Is K (msk O H) d v):VE K O (σ.set i (!v)) H (Y.set i (!d)) where
 lis:=E.lis
 len:=by simpa using E.len
 sh:=λj r q=>by
  rcases get_set_some q with⟨e,g⟩|⟨e,g⟩
  .cases g;subst e;have hi:j<σ.length:=by rw[E.len];exact oY q
   exact⟨v,by simp[hi],h⟩
  .let⟨l,p,o⟩:=E.sh j r g;exact⟨l,by rw[List.getElem?_set_ne (Ne.symm e)];exact p,o⟩
def wipe_iff{σ}{v:α}:(wipe ks σ)[i]?=some (!v)↔σ[i]?=!(!v)/\i ∉ ks:=⟨mT ks σ i v,λh=>rN ks σ i v h.1 h.2⟩
def VE.wiped(E:VE K O σ H Y)(ks:T1):VE K O (wipe ks σ) H (wipe ks Y) where
 lis:=E.lis
 len:=by rw[j9,j9];exact E.len
 sh:=λi d q=>by
  let⟨j,g⟩:=wipe_iff.mp q;let⟨v,e,r⟩:=E.sh i d j;exact⟨v,wipe_iff.mpr ⟨e,g⟩,r⟩
end
def  tP(K:Frag)(O:T6)(Y:Vv)(o:Ub):TE:=λσ H Q=>VE K O σ H Y/\∃d,o=!d/\∀v H',Same H H'->Is K (msk O H') d v->Q v H'
def  LD(K:Frag)(O:T6)(Y:Vv)(o:TV):TE:=λσ H Q=>VE K O σ H Y/\∃ds,o=!ds/\∀p xs H',Same H H'->H' p=none->IsL K (msk O H') ds xs->Q (.ref p) (upd H' p (.lst xs))
def  Oi(K:Frag)(O:T6)(Y:Vv)(o:Option Bool):TT:=λσ H Q=>VE K O σ H Y/\∃b,o=!b/\∀H',Same H H'->Q b H'
def  Tc(K:Frag)(O:T6)(Y:Vv)(o:TV):TA:=λσ H Q=>VE K O σ H Y/\∃ds,o=!ds/\∀vs H',Same H H'->IsL K (msk O H') ds vs->Q vs H'
def  PP(X:Cx)(e:Expr)(f:TL):Prop:=∀O Y,PE X e (tP X.K O Y (f Y))
def  PF(X:Cx)(e:Expr)(f:TK):Prop:=∀O Y,PE X e (LD X.K O Y (f Y))
def  PQ(X:Cx)(e:Expr)(f:TN):Prop:=∀O Y,PT X e (Oi X.K O Y (f Y))
def  PX(X:Cx)(es:Ua)(f:TK):Prop:=∀O Y,PA X es (Tc X.K O Y (f Y))
def PF.pp{X:Cx}{e:Expr}{f:TK}(h:PF X e f):PP X e (λY=>(f Y).map D.lst):=λO Y=>(h O Y).imp λσ H Q ⟨E,d,e,k⟩=>by
 cases q:f Y with
 |none=>exact absurd (show(f Y).map D.lst=some d from e) (by rw[q];intro z;cases z)
 |some ds=>
  have e':(f Y).map D.lst=!d:=e;rw[q]at e';cases e';refine⟨E,ds,rfl,λp xs H' s hp l=>?_⟩;have hO:=(E.grow s).fresh hp;refine k _ _ (s.trans (Same.new hp)) ⟨p,xs,rfl,.of (by rw[aO hO,ak]),?_⟩;exact IsL.mono (by rw[ke hO];exact Same.new (by rw[aO hO];exact hp)) _ _ l
noncomputable def  cy(Y:Vv)(i:Nat):Ub:=match Y[i]? with
 |some (!d)=>!d
 |_=>none
def iW(h:cy Y i=!d):Y[i]?=!(!d):=by
 unfold cy at h;grind
section
variable{X:Cx}{pos:Pos}
def Ho(i:Nat)(l:X.N[i]?=!x:=by rfl)(j:tO X.env.scope x:=by first|exact Or.inl rfl|exact Or.inr (Or.inl rfl)|exact Or.inr (Or.inr rfl))(hd:(!8)=false:=by decide)(g:(x==("__classdict__":Str))=false:=by decide):PP X (.Name x pos) (λY=>cy Y i):=λO Y=>(da l j hd g).imp λσ H Q ⟨E,d,e,k⟩=>by
 let⟨v,o,e2⟩:=E.sh i d (iW e);exact⟨v,o,k v H (Same.refl _) e2⟩
def pp_int:PP X (.Constant (.int i) j pos) (λ_=>!(.int i)):=λO Y=>pe_int.imp λσ H Q ⟨E,d,e,k⟩=>by
 cases e;exact k _ H (Same.refl _) rfl
def pp_bl:PP X (.Constant (.bool b) j pos) (λ_=>!(.bl b)):=λO Y=>pe_bl.imp λσ H Q ⟨E,d,e,k⟩=>by
 cases e;exact k _ H (Same.refl _) rfl
def pp_non:PP X (.Constant .none j pos) (λ_=>some .non):=λO Y=>pe_non.imp λσ H Q ⟨E,d,e,k⟩=>by
 cases e;exact k _ H (Same.refl _) rfl
def pp_str:PP X (.Constant (.str x) j pos) (λ_=>!(.str x)):=λO Y=>pe_str.imp λσ H Q ⟨E,d,e,k⟩=>by
 cases e;exact k _ H (Same.refl _) rfl
def LF(o:Gl X x)(l:X.mg x=none)(g:bootBuiltins x=!(.type n))(j:x≠"__name__":=by decide)(hd:(!8)=false:=by decide):PP X (.Name x pos) (λ_=>!(.ty n)):=
 λO Y=>(vp (v:=.ty n) o l g rfl j hd).imp λσ H Q ⟨E,d,e,k⟩=>by
 cases e;exact k _ H (Same.refl _) rfl
def CY(j:Gl X x)(g:X.mg x=!u)(r:RelV v u)(h:∀H,Is X.K H d v)(hd:(!8)=false:=by decide):PP X (.Name x pos) (λ_=>!d):=
 λO Y=>(vo j g r hd).imp λσ H Q ⟨E,l,e,k⟩=>by
 cases e;exact k _ H (Same.refl _) (h _)
def  ju(K:Frag)(r:R2)(g:D->D->Ub):Prop:=∀(O:T6)(H:Hp)(x y:V)(dx dy d:D)(Q:VK),(∀b,O b=true->H b≠none)->Is K (msk O H) dx x->Is K (msk O H) dy y->g dx dy=!d->
 (∀v H',Same H H'->Is K (msk O H') d v->Q v H')->r x y H Q
noncomputable def  bin2(g:D->D->Ub)(fa fb:TL):TL:=λY=>(fa Y).bind λx=>(fb Y).bind λy=>g x y
def bind_some{α g:Type}{o}{f:α->Option g}{b}(h:o.bind f=!b):∃a,o=!a/\f a=!b:=by
 cases o with
 |none=>cases h
 |some a=>exact⟨a,rfl,h⟩
abbrev _root_.UD:=@bind_some
def mq(J:ju X.K r g)(h:tP X.K O Y (bin2 g fa T Y) σ H Q):
  Ll r (tP X.K O Y (fa Y)) (tP X.K O Y (T Y)) σ H Q:=by
 let⟨E,d,e,k⟩:=h
 let⟨dx,e1,e⟩:=UD e
 let⟨o,e2,U⟩:=UD e
 refine⟨E,dx,e1,λx H1 l I=>⟨E.grow l,o,e2,λy H2 j C=>?_⟩⟩
 exact J O H2 x y dx o d Q (E.grow (l.trans j)).dom (Is.mono j.msk dx x I) C U λv H' p t=>k v H' (l.trans (j.trans p)) t
def lN(l:OpR X (binaryOp op) r)(j:ju X.K r g)(p:PP X a fa)(o:PP X b t):PP X (.BinOp a op b pos) (bin2 g fa t):=
 λO Y=>(yK l (p O Y) (o O Y)).imp λσ H Q h=>mq j h
def pp_cmp(l:OpR X (compareOp op) r)(j:ju X.K r g)(t:PP X a fa)(p:PP X b C)(o:behindInMarks op b=false):PP X (.Compare a [op] [b] pos) (bin2 g fa C):=
 λO Y=>(CC l (t O Y) (p O Y) o).imp λσ H Q h=>mq j h
noncomputable def  D.asB:D->Option Bool
 |.bl b=>!b
 |_=>none
def asB_some{d:D}(h:d.asB=!b):d=.bl b:=by
 cases d<;>first|(cases h;rfl)|cases h
def  ao(f:TL):TN:=λY=>(f Y).bind D.asB
def pq_cmp(l:OpR X (compareOp op) r)(j:ju X.K r g)(t:PP X a fa)(p:PP X b C)(o:behindInMarks op b=false):PQ X (.Compare a [op] [b] pos) (ao (bin2 g fa C)):=
 λO Y=>(CD l (t O Y) (p O Y) o).imp λσ H Q h=>by
 let⟨E,b,e,k⟩:=h
 let⟨d,I,e2⟩:=UD e
 cases asB_some e2
 refine mq j ⟨E,.bl b,I,λv H' s i=>?_⟩
 cases(i)
 exact⟨b,rfl,k H' s⟩
def  dW(g g':D->D->Ub)(fa fb fc:TL):TL:=λY=>(fa Y).bind λx=>(fb Y).bind λy=>(g x y).bind λz=>z.asB.bind λk=>if k=true then(fc Y).bind λw=>g' y w else !(.bl false)
def oZ(hr:ju X.K r g)(C:ju X.K r' g')(h:tP X.K O Y (dW g g' fa fb fc Y) σ H Q):
  tV r r' (tP X.K O Y (fa Y)) (tP X.K O Y (fb Y)) (tP X.K O Y (fc Y)) σ H Q:=by
 let⟨E,d,ea,k⟩:=h
 let⟨dx,e1,U⟩:=UD ea
 let⟨p,e2,T⟩:=UD U
 let⟨dz,e3,J⟩:=UD T
 let⟨b,e4,e⟩:=UD J
 clear ea U T J
 cases asB_some e4
 refine⟨E,dx,e1,λx H1 l i1=>⟨E.grow l,p,e2,λy H2 j I=>?_⟩⟩
 refine hr O H2 x y dx p _ _ (E.grow (l.trans j)).dom (Is.mono j.msk dx x i1) I e3 λv H3 o i3=>⟨b,i3,?_⟩
 cases b with
 |true=>
  let⟨dw,e5,e6⟩:=UD e;refine⟨E.grow (l.trans (j.trans o)),dw,e5,λw' H4 t i4=>?_⟩;exact C O H4 y w' p dw d Q (E.grow (l.trans (j.trans (o.trans t)))).dom (Is.mono (o.trans t).msk p y I) i4 e6 λv' H5 s5 i5=>k v' H5 (l.trans (j.trans (o.trans (t.trans s5)))) i5
 |false=>
  cases e;exact k _ H3 (l.trans (j.trans o)) rfl
def y4(ho:OpR X (compareOp op) r)(ho':OpR X (compareOp op') r')(hr:ju X.K r g)(hr':ju X.K r' g')(ha:PP X a fa)(hb:PP X b fb)(hc:PP X c fc)(hm:lastMarks [op,op'] [b,c]=false:=by with_unfolding_all rfl):PP X (.Compare a [op,op'] [b,c] pos) (dW g g' fa fb fc):=λO Y=>(yL ho ho' (ha O Y) (hb O Y) (hc O Y) hm).imp λσ H Q h=>oZ hr hr' h
def y6(ho:OpR X (compareOp op) r)(ho':OpR X (compareOp op') r')(hr:ju X.K r g)(hr':ju X.K r' g')(ha:PP X a fa)(hb:PP X b fb)(hc:PP X c fc)(hm:lastMarks [op,op'] [b,c]=false:=by with_unfolding_all rfl):PQ X (.Compare a [op,op'] [b,c] pos) (ao (dW g g' fa fb fc)):=λO Y=>(yM ho ho' (ha O Y) (hb O Y) (hc O Y) hm).imp λσ H Q h=>by
 let⟨E,b,e,k⟩:=h;let⟨d,e1,e2⟩:=UD e;cases asB_some e2;refine oZ hr hr' ⟨E,.bl b,e1,λv H' s i=>?_⟩;cases(i);grind
noncomputable def  LG:D->D->Ub
 |.int i,.int j=>!(.int (i+j))
 |_,_=>none
noncomputable def  bt:D->D->Ub
 |.int i,.int j=>!(.int (i-j))
 |_,_=>none
instance (i j:Int):Decidable (CMul i j):=Classical.propDecidable _
instance (i j:Int):Decidable (xa i j):=Classical.propDecidable _
instance (i j:Int):Decidable (oy i j):=Classical.propDecidable _
noncomputable def  cF:D->D->Ub
 |.int i,.int j=>if CMul i j then !(.int (i*j))else none
 |_,_=>none
noncomputable def  bi:D->D->Ub
 |.int i,.int j=>if xa i j then !(.int (i/j))else none
 |_,_=>none
noncomputable def  aI:D->D->Ub
 |.int i,.int j=>if 0<j then !(.int (i%j))else none
 |_,_=>none
noncomputable def  CZ:D->D->Ub
 |.int i,.int j=>if oy i j then !(.int (i^j.toNat))else none
 |_,_=>none
noncomputable def  Hq:D->D->Ub
 |.int i,.int j=>if oy i j then !(.int (i*2^j.toNat))else none
 |_,_=>none
noncomputable def  dX:T9->Option (T5)
 |[]=>![]
 |.int i::ds=>(dX ds).bind λxs=>!(i::xs)
 |_::_=>none
noncomputable def  PC:D->D->Ub
 |.int i,.int j=>!(.bl (decide (i<j)))
 |_,_=>none
def  PD:D->D->Ub
 |.tup ds,.tup es=>(dX ds).bind λxs=>(dX es).bind λys=>!(.bl (HT.lexLt xs ys))
 |_,_=>none
def  Hr(x y:D):Ub:=match PC x y with
 |some d=>!d
 |none=>PD x y
noncomputable def  l5:D->D->Ub
 |.int i,.int j=>!(.bl (decide (i<=j)))
 |_,_=>none
noncomputable def  uj:D->D->Ub
 |.int i,.int j=>!(.bl (decide (j<i)))
 |_,_=>none
noncomputable def  LH:D->D->Ub
 |.int i,.int j=>!(.bl (decide (j<=i)))
 |_,_=>none
def vD{K}{g:Int->Int->Int}(p:∀x y d,f x y=!d->∃i j,x=.int i/\y=.int j/\d=.int (g i j)):ju K (rG λi j=>.int (g i j)) f:=λO H x y dx r d Q _ o l e k=>by
 let⟨i,j,rfl,rfl,rfl⟩:=p dx r d e;exact⟨i,j,o,l,k _ H (Same.refl _) rfl⟩
def kf{K}{g:Int->Int->Bool}(p:∀x y d,f x y=!d->∃i j,x=.int i/\y=.int j/\d=.bl (g i j)):ju K (rG λi j=>.bl (g i j)) f:=λO H x y dx r d Q _ o l e k=>by
 let⟨i,j,rfl,rfl,rfl⟩:=p dx r d e;exact⟨i,j,o,l,k _ H (Same.refl _) rfl⟩
def kg{K}{g:Int->Int->Int}(p:∀x y d,f x y=!d->∃i j,x=.int i/\y=.int j/\C i j/\d=.int (g i j)):ju K (rI C λi j=>.int (g i j)) f:=λO H x y dx t d Q _ o l e k=>by
 let⟨i,j,rfl,rfl,r,rfl⟩:=p dx t d e;exact⟨i,j,o,l,r,k _ H (Same.refl _) rfl⟩
def eL{f:Int->Int->Ub}{x y d:D}(h:(match x,y with|.int i,.int j=>f i j|_,_=>none)=!d):∃i j,x=.int i/\y=.int j/\f i j=!d:=by grind
def LI{K}:ju K (rG λi j=>.int (i+j)) LG:=vD λx y d e=>by
 let⟨i,j,h1,h2,e⟩:=eL e;cases e;exact⟨_,_,h1,h2,rfl⟩
def LJ{K}:ju K (rG λi j=>.int (i-j)) bt:=vD λx y d e=>by
 let⟨i,j,h1,h2,e⟩:=eL e;cases e;exact⟨_,_,h1,h2,rfl⟩
def az{α:Type}[Decidable c]{a b:α}(h:(if c then !a else none)=!b):c/\a=b:=by grind
def LK{K}:ju K (rI CMul λi j=>.int (i*j)) cF:=kg λx y d e=>by
 let⟨i,j,h1,h2,e⟩:=eL e;let⟨c,e⟩:=az e;cases e;exact⟨_,_,h1,h2,c,rfl⟩
def LL{K:Frag}:ju K (rI xa λi j=>.int (i/j)) bi:=kg λx y d e=>by
 let⟨i,j,h1,h2,e⟩:=eL (f:=λi j=>if xa i j then !(.int (i/j))else none) e;let⟨c,e⟩:=az e;cases e;exact⟨_,_,h1,h2,c,rfl⟩
def LM{K}:ju K (rI (λ_ j=>0<j) λi j=>.int (i%j)) aI:=kg λx y d e=>by
 let⟨i,j,h1,h2,e⟩:=eL e;let⟨c,e⟩:=az e;cases e;exact⟨_,_,h1,h2,c,rfl⟩
def LN{K:Frag}:ju K (rI oy λi j=>.int (i^j.toNat)) CZ:=kg λx y d e=>by
 let⟨i,j,h1,h2,e⟩:=eL (f:=λi j=>if oy i j then !(.int (i^j.toNat))else none) e;let⟨c,e⟩:=az e;cases e;exact⟨_,_,h1,h2,c,rfl⟩
def LO{K:Frag}:ju K (rI oy λi j=>.int (i*2^j.toNat)) Hq:=kg λx y d e=>by
 let⟨i,j,h1,h2,e⟩:=eL (f:=λi j=>if oy i j then !(.int (i*2^j.toNat))else none) e;let⟨c,e⟩:=az e;cases e;exact⟨_,_,h1,h2,c,rfl⟩
def r_ltI{K}:ju K (rG λi j=>.bl (decide (i<j))) PC:=kf λx y d e=>by
 let⟨i,j,h1,h2,e⟩:=eL e;cases e;exact⟨_,_,h1,h2,rfl⟩
def xo{K}:ju K (rG λi j=>.bl (decide (i<=j))) l5:=kf λx y d e=>by
 let⟨i,j,h1,h2,e⟩:=eL e;cases e;exact⟨_,_,h1,h2,rfl⟩
def LP{K:Frag}:ju K (rG λi j=>.bl (decide (j<i))) uj:=kf λx y d e=>by
 let⟨i,j,h1,h2,e⟩:=eL (f:=λi j=>!(.bl (decide (j<i)))) e;cases e;exact⟨_,_,h1,h2,rfl⟩
def LQ{K:Frag}:ju K (rG λi j=>.bl (decide (j<=i))) LH:=kf λx y d e=>by
 let⟨i,j,h1,h2,e⟩:=eL e;cases e;exact⟨_,_,h1,h2,rfl⟩
def iX{K}:∀{ds:T9}{ns:T5}{xs:List V},dX ds=!ns->IsL K H ds xs->xs=ns.map V.int
 |[],ns,xs,e,h=>by cases e;exact h
 |.int i::ds,ns,xs,e,⟨x,r,e1,h1,l⟩=>by
  let⟨ms,e2,e3⟩:=UD (show(dX ds).bind (λxs=>!(i::xs))=some ns from e);cases e3;cases(show x=.int i from h1);rw[e1,iX e2 l];rfl
def LR{K}:ju K (λx y H Q=>rG (λi j=>.bl (decide (i<j))) x y H Q\/Lx K x y H Q) Hr:=λO H x y dx g d Q hd r p e k=>by
 unfold Hr at e;cases h:PC dx g with
 |some z=>rw[h]at e;cases e;exact .inl (r_ltI O H x y dx g _ Q hd r p h k)
 |none=>
  rw[h]at e;have e:PD dx g=!d:=e;unfold PD at e;split at e
  .let⟨t,T,e⟩:=UD e;let⟨C,e2,e⟩:=UD e;cases e;let⟨a,xs,rfl,o,J⟩:=r;let⟨b,ys,rfl,l,I⟩:=p;rw[iX T J]at o;rw[iX e2 I]at l;exact .inr ⟨a,b,t,C,rfl,rfl,msk_le.seqT o,msk_le.seqT l,k _ H (Same.refl _) rfl⟩
  .cases e
def C0(j:PP X a fa)(g:PP X b l):PP X (.BinOp a .Add b pos) (bin2 LG fa l):=lN GV LI j g
def Hs(j:PP X a fa)(g:PP X b l):PP X (.BinOp a .Sub b pos) (bin2 bt fa l):=lN GW LJ j g
def Ht(j:PP X a fa)(g:PP X b l):PP X (.BinOp a .Mult b pos) (bin2 cF fa l):=lN GX LK j g
def Hu{a b:Expr}{fa fb}(ha:PP X a fa)(hb:PP X b fb):PP X (.BinOp a .FloorDiv b pos) (bin2 bi fa fb):=lN CB LL ha hb
def Hv(j:PP X a fa)(g:PP X b l):PP X (.BinOp a .Mod b pos) (bin2 aI fa l):=lN GY LM j g
def Hw{a b:Expr}{fa fb}(ha:PP X a fa)(hb:PP X b fb):PP X (.BinOp a .Pow b pos) (bin2 CZ fa fb):=lN GZ LN ha hb
def Hx{a b:Expr}{fa fb}(ha:PP X a fa)(hb:PP X b fb):PP X (.BinOp a .LShift b pos) (bin2 Hq fa fb):=lN Ha LO ha hb
def LS(g:X.A.units<cLine)(l:PP X a fa)(j:PP X b o):PP X (.Compare a [.Lt] [b] pos) (bin2 Hr fa o):=pp_cmp (op_lt.or (yV g)) LR l j (dA _)
def LU(j:PP X a fa)(g:PP X b l):PP X (.Compare a [.LtE] [b] pos) (bin2 l5 fa l):=pp_cmp oP xo j g (dA _)
def LV{a b:Expr}{fa fb}(ha:PP X a fa)(hb:PP X b fb):PP X (.Compare a [.Gt] [b] pos) (bin2 uj fa fb):=pp_cmp Fu LP ha hb (dA _)
def LW{a b:Expr}{fa fb}(ha:PP X a fa)(hb:PP X b fb):PP X (.Compare a [.GtE] [b] pos) (bin2 LH fa fb):=pp_cmp Fw LQ ha hb (dA _)
def LX(g:X.A.units<cLine)(l:PP X a fa)(j:PP X b o):PQ X (.Compare a [.Lt] [b] pos) (ao (bin2 Hr fa o)):=pq_cmp (op_lt.or (yV g)) LR l j (dA _)
def LY(j:PP X a fa)(g:PP X b l):PQ X (.Compare a [.LtE] [b] pos) (ao (bin2 l5 fa l)):=pq_cmp oP xo j g (dA _)
def LZ{a b:Expr}{fa fb}(ha:PP X a fa)(hb:PP X b fb):PQ X (.Compare a [.Gt] [b] pos) (ao (bin2 uj fa fb)):=pq_cmp Fu LP ha hb (dA _)
def L4{a b:Expr}{fa fb}(ha:PP X a fa)(hb:PP X b fb):PQ X (.Compare a [.GtE] [b] pos) (ao (bin2 LH fa fb)):=pq_cmp Fw LQ ha hb (dA _)
def pp_lele(ha:PP X a fa)(hb:PP X b fb)(hc:PP X c fc)(hm:lastMarks [.LtE,.LtE] [b,c]=false:=by with_unfolding_all rfl):PP X (.Compare a [.LtE,.LtE] [b,c] pos) (dW l5 l5 fa fb fc):=y4 oP oP xo xo ha hb hc hm
def pq_lele(ha:PP X a fa)(hb:PP X b fb)(hc:PP X c fc)(hm:lastMarks [.LtE,.LtE] [b,c]=false:=by with_unfolding_all rfl):PQ X (.Compare a [.LtE,.LtE] [b,c] pos) (ao (dW l5 l5 fa fb fc)):=y6 oP oP xo xo ha hb hc hm
def  mY(fa fb:TL):TL:=λY=>(fa Y).bind λx=>x.asB.bind λc=>if c=true then fb Y else !(.bl false)
def  PH(fa fb:TL):TL:=λY=>(fa Y).bind λx=>x.asB.bind λc=>if c=true then !(.bl true)else fb Y
def  C1(fa:TL):TL:=λY=>(fa Y).bind λx=>x.asB.bind λc=>!(.bl (not c))
noncomputable def  kh(fa fb:TN):TN:=λY=>(fa Y).bind λc=>if c=true then fb Y else !false
noncomputable def  o8(fa fb:TN):TN:=λY=>(fa Y).bind λc=>if c=true then !true else fb Y
noncomputable def  b7(fa:TN):TN:=λY=>(fa Y).map (not ·)
noncomputable def  Hy(fc:TN)(fa fb:TL):TL:=λY=>(fc Y).bind λc=>if c=true then fa Y else fb Y
variable{a b c:Expr}{rest:Ua}
def Hz(h:PP X a f):PP X (.BoolOp op [a] pos) f:=λO Y=>GN (h O Y)
def HA(C:PP X a fa)(t:PP X (.BoolOp .And (b::rest) pos) I):PP X (.BoolOp .And (a::b::rest) pos) (mY fa I):=λO Y=>(GO (C O Y) (t O Y)).imp λσ H Q ⟨E,d,e,k⟩=>by
 let⟨dx,T,j⟩:=UD e;let⟨c,e2,J⟩:=UD j;clear e j;have e:=J;cases asB_some e2;refine⟨E,_,T,λv H1 g r=>⟨c,r,?_⟩⟩;cases c with
 |true=>rw[if_pos rfl]at e⊢;exact⟨E.grow g,d,e,λl H2 o p=>k l H2 (g.trans o) p⟩
 |false=>rw[if_neg Bool.false_ne_true]at e⊢;cases e;exact k _ H1 g rfl
def L5{fa fb}(ha:PP X a fa)(hb:PP X (.BoolOp .Or (b::rest) pos) fb):PP X (.BoolOp .Or (a::b::rest) pos) (PH fa fb):=λO Y=>(Ld (ha O Y) (hb O Y)).imp λσ H Q ⟨E,d,e,k⟩=>by
 let⟨dx,e1,eb⟩:=UD e;let⟨c,e2,ec⟩:=UD eb;clear e eb;have e:=ec;clear ec;cases asB_some e2;refine⟨E,_,e1,λv H1 s1 i1=>⟨c,i1,?_⟩⟩;cases c with
 |true=>rw[if_pos rfl]at e⊢;cases e;exact k _ H1 s1 rfl
 |false=>rw[if_neg Bool.false_ne_true]at e⊢;exact⟨E.grow s1,d,e,λv' H2 s2 i2=>k v' H2 (s1.trans s2) i2⟩
def HC(l:PP X a fa):PP X (.UnaryOp .Not a pos) (C1 fa):=λO Y=>(GP (l O Y)).imp λσ H Q ⟨E,d,e,k⟩=>by
 let⟨dx,r,p⟩:=UD e;let⟨c,e2,o⟩:=UD p;have e:=o;cases asB_some e2;cases e;exact⟨E,_,r,λv H1 g j=>⟨c,j,k _ H1 g rfl⟩⟩
def  PWQ(X:Cx)(e:Expr)(f:TN):Prop:=∀O Y,PW X e (Oi X.K O Y (f Y))
def PWQ.pq(h:PWQ X a f):PQ X a f:=λO Y=>(h O Y).pt
def PW.imp(h:PW X e t)(k:∀σ H Q,j σ H Q->t σ H Q):PW X e j:=λg pins s σ H Q I q=>h g pins s σ H Q I (k _ _ _ q)
def pw_and1D(h:PQ X a f):PWQ X (.BoolOp .And [a] pos) f:=λO Y=>pw_and1 (h O Y)
def pw_or1D(h:PQ X a f):PWQ X (.BoolOp .Or [a] pos) f:=λO Y=>pw_or1 (h O Y)
def pw_andD(o:PQ X a fa)(l:PWQ X (.BoolOp .And (b::rest) pos) p):PWQ X (.BoolOp .And (a::b::rest) pos) (kh fa p):=λO Y=>(pw_and (o O Y) (l O Y)).imp λσ H Q ⟨E,d,e,k⟩=>by
 let⟨c,t,r⟩:=UD e;have e:=r;refine⟨E,c,t,λH1 g=>?_⟩;cases c with
 |true=>rw[if_pos rfl]at e⊢;exact⟨E.grow g,d,e,λH2 j=>k H2 (g.trans j)⟩
 |false=>rw[if_neg Bool.false_ne_true]at e⊢;cases e;exact k H1 g
def pw_orD(o:PQ X a fa)(l:PWQ X (.BoolOp .Or (b::rest) pos) p):PWQ X (.BoolOp .Or (a::b::rest) pos) (o8 fa p):=λO Y=>(pw_or (o O Y) (l O Y)).imp λσ H Q ⟨E,d,e,k⟩=>by
 let⟨c,t,r⟩:=UD e;have e:=r;refine⟨E,c,t,λH1 g=>?_⟩;cases c with
 |true=>rw[if_pos rfl]at e⊢;cases e;exact k H1 g
 |false=>rw[if_neg Bool.false_ne_true]at e⊢;exact⟨E.grow g,d,e,λH2 j=>k H2 (g.trans j)⟩
def y7(j:PQ X a fa):PQ X (.UnaryOp .Not a pos) (b7 fa):=λO Y=>(GM (j O Y)).imp λσ H Q ⟨E,d,e,k⟩=>by
 unfold b7 at e;cases q:fa Y with
 |none=>rw[q]at e;cases e
 |some c=>rw[q]at e;cases e;exact⟨E,c,rfl,λH1 g=>k H1 g⟩
def L6(p:PQ X c C)(t:PP X a fa)(r:PP X b I):PP X (.IfExp c a b pos) (Hy C fa I):=λO Y=>(yC (p O Y) (t O Y) (r O Y)).imp λσ H Q ⟨E,d,e,k⟩=>by
 let⟨c,T,J⟩:=UD e;have e:=J;refine⟨E,c,T,λH1 g=>?_⟩;cases c with
 |true=>rw[if_pos rfl]at e⊢;exact⟨E.grow g,d,e,λj H2 l o=>k j H2 (g.trans l) o⟩
 |false=>rw[if_neg Bool.false_ne_true]at e⊢;exact⟨E.grow g,d,e,λj H2 l o=>k j H2 (g.trans l) o⟩
noncomputable def  rR:D->Option Bool
 |.bl b=>!b
 |.int i=>!(i !=0)
 |.non=>!false
 |.lst ds=>!(not ds.isEmpty)
 |.tup ds=>!(not ds.isEmpty)
 |_=>none
def lO{α g:Type}{a:List α}{b:List g}(h:a.length=b.length):a.isEmpty=b.isEmpty:=by
 cases a<;>cases b<;>first|rfl|simp at h
def pq_val(h:PP X a f)(o:∀whole,isTrue a X.env whole=(do let v<-whole;standAt a.pos;holding [v] (truthy v)):=by intro _;rfl):PQ X a (λY=>(f Y).bind rR):=λO Y=>(rH (h O Y) o).imp λσ H Q ⟨E,b,e,k⟩=>by
 let⟨d,r,e⟩:=UD e;refine⟨E,d,r,λv H1 j g=>⟨b,?_,k H1 j⟩⟩;cases d with
 |bl c=>cases e;cases(g);rfl
 |int i=>cases e;cases(g);rfl
 |non=>cases e;cases(g);rfl
 |lst ds=>
  cases e;let⟨p,xs,rfl,q,l⟩:=g;exact .inl ⟨xs,msk_le.seq q,by rw[lO l.len]⟩
 |tup ds=>
  cases e;let⟨p,xs,rfl,q,l⟩:=g;exact .inr (.inl ⟨xs,msk_le.seqT q,by rw[lO l.len]⟩)
 |_=>cases e
end
noncomputable def  big:Nat:=16777216
def jN:sizeLine=big:=sizeLine_eq
section
variable{X:Cx}{pos:Pos}{a b c e:Expr}{es:Ua}
def y8:PX X [] (λ_=>![]):=λO Y=>pa_nil.imp λσ H Q ⟨E,ds,e,k⟩=>by
 cases e;exact k [] H (Same.refl _) rfl
noncomputable def  aa(f:TL)(g:TK):TK:=λY=>(f Y).bind λd=>(g Y).bind λr=>!(d::r)
def px_cons(h:PP X e f)(I:PX X es g)(C:starEach (e::es) X.env=(false,eval e X.env)::starEach es X.env:=by rfl):PX X (e::es) (aa f g):=
 λO Y=>(bv (h O Y) (I O Y) C).imp λσ H Q ⟨E,ds,q,k⟩=>by
 let⟨d,J,q⟩:=UD q
 let⟨r,e2,q⟩:=UD q
 cases q
 exact⟨E,d,J,λv H1 l t=>⟨E.grow l,r,e2,λo H2 j p=>k _ H2 (l.trans j) ⟨v,o,rfl,Is.mono j.msk d v t,p⟩⟩⟩
def  bw(o:TV):TV:=o.bind λds=>if ds.length<big then !ds else none
def dB(h:bw o=!ds):o=!ds/\ds.length<sizeLine:=by
 let⟨d,g,e2⟩:=UD h;let⟨h1,h2⟩:=az e2;subst h2;exact⟨g,by rw[jN];exact h1⟩
def HE{x1}(h:PX X es g):PP X (.Tuple es x1 pos) (λY=>(bw (g Y)).bind λds=>!(.tup ds)):=λO Y=>(ua (h O Y)).imp λσ H Q ⟨E,d,q,k⟩=>by
 let⟨ds,z,C⟩:=UD q;cases C;let⟨I,e2⟩:=dB z;refine⟨E,ds,I,λr H1 t l=>⟨by rw[<-l.len];exact Uy e2,λp j=>?_⟩⟩;have o:=(E.grow t).fresh j;have le:Same (msk O H1) (msk O (upd H1 p (.tup r))):=by rw[ke o];exact Same.new (by rw[aO o];exact j)
 exact k _ _ (t.trans (Same.new j)) ⟨p,r,rfl,.of (by rw[aO o,ak]),IsL.mono le _ _ l⟩
def y9(h:PX X es g):PF X (.List es pos) (λY=>bw (g Y)):=λO Y=>(yO (h O Y)).imp λσ H Q ⟨E,ds,q,k⟩=>by
 let⟨t,e2⟩:=dB q;exact⟨E,ds,t,λj H1 o l=>⟨by rw[<-l.len];exact Uy e2,λp r=>k p j H1 o r l⟩⟩
noncomputable def  HF:D->Option gO
 |.int i=>!(.inl i)
 |.str x=>!(.inr x)
 |_=>none
def vE{K}(e:HF d=!k)(h:Is K H d v):v=kV k:=by
 cases d with
 |int i=>cases e;exact h
 |str x=>cases e;exact h
 |_=>cases e
noncomputable def  rS:List gO->T9->gO->Ub
 |k::ks,d::ds,j=>if k=j then !d else rS ks ds j
 |_,_,_=>none
def valD_val{K}:∀{kvs:List (gO×V)}{ds:T9},IsL K H ds (kvs.map (·.2))->(rS (kvs.map (·.1)) ds j=none/\jf kvs j=none)\/∃d v,rS (kvs.map (·.1)) ds j=!d/\jf kvs j=!v/\Is K H d v
 |[],ds,_=>.inl ⟨by cases ds<;>rfl,rfl⟩
 |p::r,[],h=>by cases(show(p::r).map (·.2)=[]from h)
 |p::r,d::ds,⟨x,t,z,h,l⟩=>by
  have z':p.2::r.map (·.2)=x::t:=z;cases z';show((if p.1=j then !d else rS (r.map (·.1)) ds j)=none/\_)\/∃d' v,(if p.1=j then !d else rS (r.map (·.1)) ds j)=!d'/\_;by_cases e:p.1=j
  .rw[if_pos e,ka e];exact .inr ⟨d,p.2,rfl,rfl,h⟩
  .rw[if_neg e,kc e];exact valD_val l
def  L7:R2:=λx y H Q=>∃p kvs k v,x=.ref p/\y=kV k/\H p=!(.dK kvs)/\jf kvs k=!v/\Q v H
def C2:IxR X L7:=by
 intro value slice pins s σ H x y v u Q I rx o h t;let⟨p,kvs,k,z,rfl,rfl,e,l,q⟩:=h;cases rx;let⟨_,hd,J,rel,j⟩:=FG I.hok e;let⟨C,r,g⟩:=RelO.some_of (by rw[<-l];exact rel.val k);exact tail_any j.typeIs PySem.F.slot_dict_getitem.lookup (wpAny_getItem_of (FD o) j.mapOf r ⟨z,H,I.tok _,g,q⟩) t
def  ixD:D->D->Ub
 |.lst ds,.int i=>mP ds i
 |.tup ds,.int i=>mP ds i
 |.dct ks ds,e=>(HF e).bind (rS ks ds)
 |_,_=>none
def vF{xs:List g}{d:α}(l:ds.length=xs.length)(h:mP ds i=!d):∃j:Nat,ds[j]?=!d/\mP xs i=xs[j]?:=by
 let⟨j,o,e2⟩:=UD h;grind [mP]
def PK{K}:ju K (λx y H Q=>RJ K x y H Q\/L7 x y H Q) ixD:=λO H x y dx I d Q hd t r e k=>by
 cases dx with
 |lst ds=>
  cases I with
  |int i=>
   let⟨p,xs,rfl,q,l⟩:=t;cases(show y=.int i from r);let⟨j,o,e2⟩:=vF l.len (e);let⟨v,C,g⟩:=l.get o;exact .inl (.inl ⟨p,xs,i,v,rfl,rfl,msk_le.seq q,e2.trans C,k v H (Same.refl _) g⟩)
  |_=>cases e
 |tup ds=>
  cases I with
  |int i=>
   let⟨p,xs,rfl,q,l⟩:=t;cases(show y=.int i from r);let⟨j,o,e2⟩:=vF l.len (e);let⟨v,C,g⟩:=l.get o;exact .inl (.inr (.inl ⟨p,xs,i,v,rfl,rfl,msk_le.seqT q,e2.trans C,k v H (Same.refl _) g⟩))
  |_=>cases e
 |dct ks ds=>
  let⟨p,kvs,rfl,q,rfl,l⟩:=t;let⟨j,o,e2⟩:=UD (e);rcases valD_val l with⟨z,_⟩|⟨T,v,z,J,g⟩
  .rw[z]at e2;cases e2
  .rw[z]at e2;cases e2;exact .inr ⟨p,kvs,j,v,rfl,vE o r,msk_le _ _ q,J,k v H (Same.refl _) g⟩
 |_=>cases e
def pp_ix(l:PP X a fa)(j:PP X b o)(g:j7 b:=by exactλ_ _=>rfl):PP X (.Subscript a b pos) (bin2 ixD fa o):=λO Y=>(yW (ix_seq.or C2) (l O Y) (j O Y) g).imp λσ H Q h=>mq PK h
def  Cq(K:Frag)(r:List V->Hp->VK->Prop)(g:T9->Ub):Prop:=∀(O:T6)(H:Hp)(xs:List V)(ds:T9)(d:D)(Q:VK),(∀b,O b=true->H b≠none)->IsL K (msk O H) ds xs->g ds=!d->
 (∀v H',Same H H'->Is K (msk O H') d v->Q v H')->r xs H Q
variable{x:Str}{p:Pos}{bid T:String}{r:List V->Hp->VK->Prop}{g:T9->Ub}{fa:TK}
def pp_callB(hc:dI X (.builtin bid) r)(U:Cq X.K r g)(hg:Gl X x)(hm:X.mg x=none)(T:bootBuiltins x=!(.builtin bid))(ha:PX X (e::es) fa)(hn:x≠"__name__":=by decide)(o:(!8)=false:=by decide)
  (he:starEach (e::es) X.env=(false,eval e X.env)::starEach es X.env:=by rfl) (j:(!18).any (·.1)=false:=by rfl):PP X (.Call (.Name x p) (e::es) [] pos) (λY=>(fa Y).bind g):=
 λO Y=>(g9 hc hg hm T (ha O Y) hn o he j).imp λσ H Q ⟨E,d,q,k⟩=>by
 let⟨ds,e1,q⟩:=UD q
 exact⟨E,ds,e1,λC H1 t l=>U O H1 C ds d Q (E.grow t).dom l q λv H2 I J=>k v H2 (t.trans I) J⟩
def pp_callTy(hc:dI X (.type T) r)(hr:Cq X.K r g)(hg:Gl X x)(hm:X.mg x=none)(U:bootBuiltins x=!(.type T))(ha:PX X (e::es) fa)(hn:x≠"__name__":=by decide)(o:(!8)=false:=by decide)
  (he:starEach (e::es) X.env=(false,eval e X.env)::starEach es X.env:=by rfl) (j:(!18).any (·.1)=false:=by rfl):PP X (.Call (.Name x p) (e::es) [] pos) (λY=>(fa Y).bind g):=
 λO Y=>(oV hc hg hm U (ha O Y) hn o he j).imp λσ H Q ⟨E,d,q,k⟩=>by
 let⟨ds,e1,q⟩:=UD q
 exact⟨E,ds,e1,λC H1 t l=>hr O H1 C ds d Q (E.grow t).dom l q λv H2 I J=>k v H2 (t.trans I) J⟩
noncomputable def  rh{α:Type}(g:D->Option α)(ds:T9):Option α:=match ds with
 |[d]=>g d
 |_=>none
noncomputable def  KW{α:Type}(g:D->D->Option α)(ds:T9):Option α:=match ds with
 |[c,d]=>g c d
 |_=>none
def bx{g}{r:α}(h:rh g ds=!r):∃d,ds=[d]/\g d=!r:=by
 cases ds with
 |nil=>cases h
 |cons d t=>
  cases t with
  |nil=>exact⟨d,rfl,h⟩
  |cons _ _=>cases h
def ki{g}{r:α}(h:KW g ds=!r):∃c d,ds=[c,d]/\g c d=!r:=by
 cases ds with
 |nil=>cases h
 |cons c t=>
  cases t with
  |nil=>cases h
  |cons d u=>
   cases u with
   |nil=>exact⟨c,d,rfl,h⟩
   |cons _ _=>cases h
def uk{K}(l:IsL K H [d] xs):∃v,xs=[v]/\Is K H d v:=by simp_all [Hp,IsL,Is]
def Oj{K}{c d}(l:IsL K H [c,d] xs):∃u v,xs=[u,v]/\Is K H c u/\Is K H d v:=by
 let⟨u,r,z,h,g⟩:=l;let⟨v,j,h2⟩:=uk g;grind
noncomputable def  seqD:D->TV
 |.lst ds=>!ds
 |.tup ds=>!ds
 |_=>none
def gx{K}(e:seqD d=!ds)(h:Is K H d v):∃p xs,v=.ref p/\(SqL K H p xs\/SqT K H p xs)/\IsL K H ds xs:=by
 cases d with
 |lst es=>cases e;let⟨p,xs,z,q,l⟩:=h;exact⟨p,xs,z,.inl q,l⟩
 |tup es=>cases e;let⟨p,xs,z,q,l⟩:=h;exact⟨p,xs,z,.inr q,l⟩
 |_=>cases e
def Same.both{K}{a}(s:Same H H')(h:SqL K H a xs\/SqT K H a xs):SqL K H' a xs\/SqT K H' a xs:=by
 rcases h with h|h
 .exact .inl (s.seq h)
 .exact .inr (s.seqT h)
def  cb:T9->Ub:=rh λd=>(seqD d).bind λds=>!(.int ds.length)
def rn_len:Cq X.K (λxs H Q=>∃p ys,xs=[.ref p]/\(SqL X.K H p ys\/SqT X.K H p ys)/\Q (.int ys.length) H) cb:=λO H xs ds d Q hd l e k=>by
 let⟨c,rfl,e⟩:=bx e;let⟨es,j,e2⟩:=UD e;cases e2;let⟨v,rfl,h⟩:=uk l;let⟨p,ys,rfl,q,g⟩:=gx j h;exact⟨p,ys,rfl,msk_le.both q,k _ H (Same.refl _) (by show V.int ys.length=.int es.length;rw[g.len])⟩
def  o9:T9->TV:=rh seqD
def C3(I:Gl X "list")(C:X.mg "list"=none)(r:bootBuiltins "list"=!(.type "list"))(U:PX X [e] fa)(J:starEach [e] X.env=[(false,eval e X.env)]:=by rfl):PF X (.Call (.Name "list" p) [e] [] pos) (λY=>(fa Y).bind o9):=
 λO Y=>(oV p8 I C r (U O Y) (!4) (!4) J rfl).imp λσ H Q ⟨E,ds,q,k⟩=>by
 let⟨as,e1,q⟩:=UD q
 refine⟨E,as,e1,λvs H1 g l=>?_⟩
 let⟨c,rfl,j⟩:=bx q
 let⟨v,rfl,h⟩:=uk l
 let⟨p,ys,rfl,t,o⟩:=gx j h
 exact⟨p,ys,rfl,msk_le.both t,λb T=>k b ys H1 g T o⟩
def  bO:T9->Ub:=rh λd=>(seqD d).bind λds=>!(.tup ds)
def rn_tuple:Cq X.K (λxs H Q=>∃p ys,xs=[.ref p]/\((SqL X.K H p ys/\∀l,H l=none->Q (.ref l) (upd H l (.tup ys)))\/(SqT X.K H p ys/\Q (.ref p) H))) bO:=λO H xs ds d Q hd l e k=>by
 let⟨c,rfl,e⟩:=bx e;let⟨es,r,e2⟩:=UD e;cases e2;let⟨v,rfl,h⟩:=uk l;let⟨p,ys,rfl,q,o⟩:=gx r h;refine⟨p,ys,rfl,?_⟩;rcases q with q|q
 .refine .inl ⟨msk_le.seq q,λc g=>?_⟩;have j:=fZ hd g;have le:Same (msk O H) (msk O (upd H c (.tup ys))):=by rw[ke j];exact Same.new (by rw[aO j];exact g)
  exact k _ _ (Same.new g) ⟨c,ys,rfl,.of (by rw[aO j,ak]),IsL.mono le _ _ o⟩
 .exact .inr ⟨msk_le.seqT q,k _ H (Same.refl _) ⟨p,ys,rfl,q,o⟩⟩
def mZ:∀{bs:List Bool}{us:TY},Vals (bs.map V.bl) us->us=bs.map Value.bool
 |[],_,.nil=>rfl
 |b::bs,_,.cons r t=>by
  cases(show _=Value.bool b from r);rw[mZ t];rfl
def pd:∀(bs:List Bool),((List.range bs.length).all λi=>bs.getD i true)=bs.all (λz=>z)
 |[]=>rfl
 |b::bs=>by
  rw[length_cons,List.range_succ_eq_map,List.all_cons,List.all_map,List.all_cons,<-pd bs];rfl
def call_all(hc:X.calm=true):dI X (.builtin "all") (λxs H Q=>∃(p:Addr)(g:List Bool),xs=[.ref p]/\SqL X.K H p (g.map V.bl)/\Q (.bl (g.all (λz=>z))) H):=by
 intro pins s σ H xs us Q I r h;let⟨l,g,rfl,hl,q⟩:=h;let⟨u,rfl,U⟩:=fY r;cases U;let⟨its,rv,pl,hz⟩:=I.list hl;have eb:=mZ rv;subst eb;have T:=pl.isList;have C:l<s.heap.objs.size:=by let⟨_,e,_⟩:=T;exact Uh e
 refine call_all_walk (wpAny_pyIter_list T ?_);refine⟨s.heap.objs.size,[s.heap.objs.size,l],[s.heap.objs.size],_,_,_,λi=>g.getD i true,rfl,Walks.list (A:=X.A.in1) (I.ok.hd hc) _ l (Us C) (g.map Value.bool).toArray,
  ⟨⟨_,Ui _ rfl,rfl,rfl⟩,T.push _⟩,λi v s' Q' E' hP J=>?_,λh' tk hk=>?_⟩
 .have j:(g.map Value.bool)[i]?=!v:=by simpa using hP
  rw[getElem?_map]at j;cases e:g[i]? with
  |none=>rw[e]at j;cases j
  |some b=>
   rw[e]at j;cases j;have e':g.getD i true=b:=by rw[List.getD_eq_getElem?_getD,e];rfl
   dsimp only at J;rw[e']at J;exact wpAny_truthy_bool J
 .have e:((List.range (g.map Value.bool).toArray.size).all λi=>g.getD i true)=g.all (λz=>z):=by
   rw[size_toArray,length_map];exact pd g
  rw[e];exact⟨.bl _,H,I.kept λb o t=>hk b o (λhm=>by rw[mem_singleton.mp hm]at t;exact Ux _ (Uh t)) (Ue _ t),rfl,q⟩
def  ul:T9->Option (List Bool)
 |[]=>![]
 |d::ds=>d.asB.bind λb=>(ul ds).bind λr=>!(b::r)
noncomputable def  gS:D->TV
 |.lst ds=>!ds
 |_=>none
def eB{K}(e:gS d=!ds)(h:Is K H d v):∃p xs,v=.ref p/\SqL K H p xs/\IsL K H ds xs:=by
 cases d with
 |lst es=>cases e;exact h
 |_=>cases e
def  kQ:T9->Ub:=rh λd=>(gS d).bind λds=>(ul ds).bind λbs=>!(.bl (bs.all (λz=>z)))
def asBs_is{K}:∀{ds:T9}{bs:List Bool}{xs:List V},ul ds=!bs->IsL K H ds xs->xs=bs.map V.bl
 |[],_,_,e,l=>by cases e;exact l
 |d::ds,_,_,e,⟨x,r,z,h,l⟩=>by
  let⟨b,e1,e⟩:=UD e;let⟨bs,e2,e⟩:=UD e;cases e;cases asB_some e1;rw[z,asBs_is e2 l,show x=.bl b from h];rfl
def rn_all:Cq X.K (λxs H Q=>∃(p:Addr)(g:List Bool),xs=[.ref p]/\SqL X.K H p (g.map V.bl)/\Q (.bl (g.all (λz=>z))) H) kQ:=λO H xs ds d Q hd l e k=>by
 let⟨c,rfl,e⟩:=bx e;let⟨es,t,e2⟩:=UD e;let⟨g,r,o⟩:=UD e2;cases o;let⟨v,rfl,h⟩:=uk l;let⟨p,ys,rfl,q,j⟩:=eB t h;rw[asBs_is r j]at q;exact⟨p,g,rfl,msk_le.seq q,k _ H (Same.refl _) rfl⟩
noncomputable def  bK:D->Bool
 |.non=>true
 |.bl _=>true
 |.int _=>true
 |.str _=>true
 |_=>false
noncomputable def  l6:D->V
 |.non=>.non
 |.bl b=>.bl b
 |.int i=>.int i
 |.str x=>.str x
 |_=>.non
def iY{K}(f:bK d=true)(h:Is K H d v):v=l6 d/\hU v=true:=by
 cases d<;>first|(cases(h);exact⟨rfl,rfl⟩)|cases f
def hZ{K}:∀{ds:T9}{xs:List V},ds.all bK=true->IsL K H ds xs->xs=ds.map l6/\xs.all hU=true
 |[],_,_,l=>by cases(show _=[]from l);exact⟨rfl,rfl⟩
 |d::ds,_,f,⟨x,r,z,h,l⟩=>by
  rw[List.all_cons,and_eq_true]at f;let⟨e1,e2⟩:=iY f.1 h;let⟨e3,e4⟩:=hZ f.2 l;rw[z];exact⟨by rw[e1,e3];rfl,by rw[List.all_cons,e2,e4];rfl⟩
def  Ol(x:D)(ds:T9):Bool:=Pw (l6 x) (ds.map l6)
def  inD:D->D->Ub
 |x,.lst ds=>if bK x&&ds.all bK then !(.bl (Ol x ds))else none
 |x,.tup ds=>if bK x&&ds.all bK then !(.bl (Ol x ds))else none
 |_,_=>none
def r_in{K}:ju K (Oh K false) inD:=λO H x y dx C d Q hd t r e k=>by
 cases C with
 |lst ds=>
  let⟨h1,h2⟩:=az (e);rw[and_eq_true]at h1;subst h2;let⟨p,xs,rfl,q,l⟩:=r;let⟨o,e2⟩:=iY h1.1 t;let⟨j,g⟩:=hZ h1.2 l;exact⟨p,xs,rfl,.inl (msk_le.seq q),e2,g,k _ H (Same.refl _) (by rw[o,j];rfl)⟩
 |tup ds=>
  let⟨h1,h2⟩:=az (e);rw[and_eq_true]at h1;subst h2;let⟨p,xs,rfl,q,l⟩:=r;let⟨o,e2⟩:=iY h1.1 t;let⟨j,g⟩:=hZ h1.2 l;exact⟨p,xs,rfl,.inr (msk_le.seqT q),e2,g,k _ H (Same.refl _) (by rw[o,j];rfl)⟩
 |_=>cases e
noncomputable def  cV:D->Option String
 |.non=>some "NoneType"
 |.bl _=>some "bool"
 |.int _=>some "int"
 |.str _=>some "str"
 |.tup _=>some "tuple"
 |.lst _=>some "list"
 |_=>none
noncomputable def  isI(T n:String):Bool:=T==n||(T=="bool"&&n=="int")
noncomputable def  vG(n:String):Bool:=["int","bool","str","list","tuple","dict"].contains n
def za(K:Frag)(j:cV d=!T)(l:vG n=true):PySem.W.kitOne K (.type T) (.type n)=!(isI T n):=by
 have g:n="int"\/n="bool"\/n="str"\/n="list"\/n="tuple"\/n="dict":=by
  simpa [vG] using l
 cases d<;>first
  |(cases j;rcases g with rfl|rfl|rfl|rfl|rfl|rfl<;>rfl)
  |cases j
def C4{σ:St}{x}{u c}{b}(I:Inv X pins σ H s)(h:Is X.K H d x)(rx:RelV x u)(hT:cV d=!T)(e:PySem.W.kitOne X.K (.type T) c=!b)(hq:∀tk,Q (.bool b) {s with toks:=tk}):wpAny (!5) A (call (.builtin "isinstance") [u,c]) Q E s:=by
 cases d with
 |non=>cases hT;cases(h);cases(rx);exact PySem.W.kia_one PySem.W.kitx_none I.kIn True.intro e (λz=>nomatch z) hq
 |bl y=>cases hT;cases(h);cases(rx);exact PySem.W.kia_one PySem.W.kitx_bool I.kIn True.intro e (λz=>nomatch z) hq
 |int i=>cases hT;cases(h);let⟨t,q⟩:=(rx);cases q;exact PySem.W.kia_one PySem.W.kitx_int I.kIn True.intro e (λz=>nomatch z) hq
 |str i=>cases hT;cases(h);let⟨t,q⟩:=(rx);cases q;exact PySem.W.kia_one PySem.W.kitx_str I.kIn True.intro e (λz=>nomatch z) hq
 |tup ds=>
  cases hT;let⟨a,xs,rfl,q,l⟩:=h;cases(show u=Value.ref a from rx);let⟨its,_,⟨o,h1,h2,_⟩,_⟩:=I.tuple q;exact PySem.W.kia_one PySem.W.kitx_tuple I.kIn ⟨o,h1,h2⟩ e (λz=>nomatch z) hq
 |lst ds=>
  cases hT;let⟨a,xs,rfl,q,l⟩:=h;cases(show u=Value.ref a from rx);let⟨its,_,⟨o,n,h1,h2,_⟩,_⟩:=I.list q;exact PySem.W.kia_one PySem.W.kitx_list I.kIn ⟨o,h1,h2⟩ e (λz=>nomatch z) hq
 |_=>cases hT
def C5{σ:St}{x}{b}(I:Inv X pins σ H s)(h:Is X.K H d x)(rx:RelV x u)(hT:cV d=!T)(htp:s.heap.get? tp=!⟨.type "tuple",dd,.seq its.toArray n,sl⟩)(e:PySem.W.kitAny X.K (.type T) its=!b)(hq:∀tk,Q (.bool b) {s with toks:=tk}):wpAny (!5) A (call (.builtin "isinstance") [u,.ref tp]) Q E s:=by
 cases d with
 |non=>cases hT;cases(h);cases(rx);exact PySem.W.kia_tup PySem.W.kitx_none I.kIn True.intro htp e (λz=>nomatch z) hq
 |bl y=>cases hT;cases(h);cases(rx);exact PySem.W.kia_tup PySem.W.kitx_bool I.kIn True.intro htp e (λz=>nomatch z) hq
 |int i=>cases hT;cases(h);let⟨t,q⟩:=(rx);cases q;exact PySem.W.kia_tup PySem.W.kitx_int I.kIn True.intro htp e (λz=>nomatch z) hq
 |str i=>cases hT;cases(h);let⟨t,q⟩:=(rx);cases q;exact PySem.W.kia_tup PySem.W.kitx_str I.kIn True.intro htp e (λz=>nomatch z) hq
 |tup ds=>
  cases hT;let⟨a,xs,rfl,q,l⟩:=h;cases(show u=Value.ref a from rx);let⟨its,_,⟨o,h1,h2,_⟩,_⟩:=I.tuple q;exact PySem.W.kia_tup PySem.W.kitx_tuple I.kIn ⟨o,h1,h2⟩ htp e (λz=>nomatch z) hq
 |lst ds=>
  cases hT;let⟨a,xs,rfl,q,l⟩:=h;cases(show u=Value.ref a from rx);let⟨its,_,⟨o,n,h1,h2,_⟩,_⟩:=I.list q;exact PySem.W.kia_tup PySem.W.kitx_list I.kIn ⟨o,h1,h2⟩ htp e (λz=>nomatch z) hq
 |_=>cases hT
def  PL:D->Option String
 |.ty n=>if vG n then !n else none
 |_=>none
def rT(h:PL d=!n):d=.ty n/\vG n=true:=by
 cases d with
 |ty m=>let⟨h1,h2⟩:=az h;subst h2;exact⟨rfl,h1⟩
 |_=>cases h
def  zb:T9->Option (List String)
 |[]=>![]
 |d::ds=>(PL d).bind λn=>(zb ds).bind λr=>!(n::r)
noncomputable def  HG:D->TV
 |.tup ds=>!ds
 |_=>none
def C6{K}(e:HG d=!ds)(h:Is K H d v):∃p xs,v=.ref p/\SqT K H p xs/\IsL K H ds xs:=by
 cases d with
 |tup es=>cases e;exact h
 |_=>cases e
def  clsD(c:D):Option (List String):=match PL c with
 |some n=>![n]
 |none=>(HG c).bind zb
def  fN:T9->Ub:=KW λd c=>(cV d).bind λT=>(clsD c).bind λns=>!(.bl (ns.any (isI T)))
def pf{K}(hT:cV d=!T):∀{cs:T9}{ns:List String}{xs:List V}{us:TY},zb cs=!ns->IsL K H cs xs->Vals xs us->PySem.W.kitAny K (.type T) us=!(ns.any (isI T))
 |[],_,_,_,e,l,r=>by
  cases e;cases(show _=[]from l);cases r;rfl
 |c::cs,ns,_,_,e,⟨x,xr,z,h,l⟩,r=>by
  let⟨n,e1,e2⟩:=UD e;let⟨ms,e3,e4⟩:=UD e2;cases e4;let⟨rfl,hk⟩:=rT e1;subst z;cases r with
  |cons r1 r2=>
   cases(show x=.ty n from h);cases(show _=Value.type n from r1);show(match PySem.W.kitOne K (.type T) (.type n)with|some true=>!true|some false=>PySem.W.kitAny K (.type T) _|none=>none)=_;rw[za K hT hk,pf hT e3 l r2,List.any_cons];cases isI T n<;>rfl
def call_isi:dI X (.builtin "isinstance") (λxs H Q=>∃d c T j,IsL X.K H [d,c] xs/\cV d=!T/\clsD c=!j/\Q (.bl (j.any (isI T))) H):=by
 intro pins s σ H xs us Q I r h;let⟨d,c,T,j,l,g,e,q⟩:=h;let⟨x,y,rfl,U,J⟩:=Oj l;let⟨u,w',rfl,C,t⟩:=mJ r;unfold clsD at e;split at e
 .rename_i n hn;cases e;let⟨rfl,hk⟩:=rT hn;cases(J);cases(t);refine C4 I U C g (za X.K g hk) λtk=>⟨.bl _,H,I.tok tk,rfl,?_⟩;have p:([n].any (isI T))=isI T n:=by simp
  rw[p]at q;exact q
 .let⟨cs,p,e2⟩:=UD e;let⟨tp,ys,rfl,hq,hl⟩:=C6 p J;cases(t);let⟨its,rv,⟨o,h1,h2,n,h3⟩,_⟩:=I.tuple hq;let⟨oc,od,oda,osl⟩:=o;cases(h2);cases(h3);exact C5 I U C g h1 (pf g e2 hl rv) λtk=>⟨.bl _,H,I.tok tk,rfl,q⟩
def rn_isi:Cq X.K (λxs H Q=>∃d c T g,IsL X.K H [d,c] xs/\cV d=!T/\clsD c=!g/\Q (.bl (g.any (isI T))) H) fN:=λO H xs ds d Q hd l e k=>by
 let⟨d0,c,rfl,e⟩:=ki e;let⟨T,p,e2⟩:=UD e;let⟨g,o,j⟩:=UD e2;cases j;exact⟨d0,c,T,g,l.full,p,o,k _ H (Same.refl _) rfl⟩
end
def PE.ex{g:Type}{t:g->TE}(h:∀z,PE X e (t z)):PE X e (λσ H Q=>∃z,t z σ H Q):=λpins s σ H Q I ⟨z,q⟩=>h z pins s σ H Q I q
def PTs.ex{g:Type}{t:g->TT}(h:∀z,PTs X e (t z)):PTs X e (λσ H Q=>∃z,t z σ H Q):=λpins s σ H Q I ⟨z,q⟩=>h z pins s σ H Q I q
def PG.ex{g:Type}{t:g->TG}(h:∀z,PG X e (t z)):PG X e (λv σ H Q=>∃z,t z v σ H Q):=λpins s σ H v u Q I r ⟨z,q⟩=>h z pins s σ H v u Q I r q
def PSs.ex{g:Type}{t:g->TS}(h:∀z,PSs X e (t z)):PSs X e (λD σ H=>∃z,t z D σ H):=λpins s σ H D I ⟨z,q⟩=>h z pins s σ H D I q
def  m5(K:Frag)(Hm:Hp)(J:It)(ds:T9):Prop:=∀(i:Nat)(H:Hp)(O:T6),Same Hm (msk O H)->(∀b,O b=true->H b≠none)->
 (∀d,ds[i]?=!d->J.go i H/\∀x H3,J.yld i H x H3->Same H H3/\Is K (msk O H3) d x)/\(ds.length<=i->J.stop i H)
def  tJ(K:Frag)(O:T6)(Y:Vv)(o:TV):TI:=λσ H R=>VE K O σ H Y/\∃ds,o=!ds/\∀J H',Same H H'->m5 K (msk O H') J ds->R J H'
def  PJ(X:Cx)(tg iter:Expr)(f:TK):Prop:=∀O Y,PI X tg iter (tJ X.K O Y (f Y))
section
variable{X:Cx}{tg l e:Expr}{pos:Pos}
def  PM(K:Frag)(tl:TE):TI:=λσ H R=>tl σ H λx H1=>∃a,x=.ref a/\(((∃xs,SqL K H1 a xs)/\R (Pl K a) H1)\/((∃xs,SqT K H1 a xs)/\R (Pm K a) H1))
def HH(U:PE X l tl):PI X tg l (PM X.K tl):=by
 intro pins s σ H R I h;refine bu (U pins s σ H _ I h) λv g ⟨x,H1,j,C,J⟩=>?_;let⟨a,e,q⟩:=J;subst e;cases C;have fin:∀b∈[g.heap.objs.size],jI X pins H1 b:=λb hb=>by
  have e:b=g.heap.objs.size:=by simpa using hb
  subst e;exact j.fpOk (UB _) (j.hok.fresh (UB _))
 rcases q with⟨⟨xs,t⟩,q⟩|⟨⟨xs,t⟩,q⟩
 .let⟨r,rv,p,T⟩:=j.list t;refine wpAny_pyIter_list p.isList ?_;exact⟨g.heap.objs.size,[g.heap.objs.size],_,_,H1,rfl,j.kept λb o e=>Ue _ e,w5 a _,⟨_,Ui _ rfl,rfl,rfl⟩,fin,q⟩
 .let⟨r,rv,p,T⟩:=j.tuple t;refine wpAny_pyIter_tuple (p) ?_;exact⟨g.heap.objs.size,[g.heap.objs.size],_,_,H1,rfl,j.kept λb o e=>Ue _ e,tT a _,⟨_,Ui _ rfl,rfl,rfl⟩,fin,q⟩
def xp{K}(q:SqL K o a xs)(j:IsL K o ds xs):m5 K o (Pl K a) ds:=λi H O s hd=>by
 have g:=(s.trans msk_le).seq q;refine⟨λd hi=>?_,λhi=>⟨xs,g,by rw[<-j.len];exact hi⟩⟩;let⟨x,l,p⟩:=j.get hi;refine⟨⟨xs,x,g,l⟩,λy t ⟨e,r⟩=>?_⟩;subst e;have:=r xs g;rw[l]at this;cases this;exact⟨Same.refl _,Is.mono s d x p⟩
def zd{K}(q:SqT K o a xs)(j:IsL K o ds xs):m5 K o (Pm K a) ds:=λi H O s hd=>by
 have g:=(s.trans msk_le).seqT q;refine⟨λd hi=>?_,λhi=>⟨xs,g,by rw[<-j.len];exact hi⟩⟩;let⟨x,l,p⟩:=j.get hi;refine⟨⟨xs,x,g,l⟩,λy t ⟨e,r⟩=>?_⟩;subst e;have:=r xs g;rw[l]at this;cases this;exact⟨Same.refl _,Is.mono s d x p⟩
def HI(h:PP X l f):PJ X tg l (λY=>(f Y).bind seqD):=λO Y=>(HH (h O Y)).imp λσ H R ⟨E,ds,q,k⟩=>by
 let⟨d,p,q⟩:=UD q;refine⟨E,d,p,λv H1 g o=>?_⟩;let⟨a,xs,rfl,t,j⟩:=gx q o;rcases t with t|t
 .exact⟨a,rfl,.inl ⟨⟨xs,msk_le.seq t⟩,k _ H1 g (xp t j)⟩⟩
 .exact⟨a,rfl,.inr ⟨⟨xs,msk_le.seqT t⟩,k _ H1 g (zd t j)⟩⟩
noncomputable def  kR(lo:Int)(n:Nat):T9:=(List.range n).map λ(i:Nat)=>D.int (lo+(i:Int))
def um{K}{lo}:m5 K o (Og lo n) (kR lo n):=λi H O s hd=>by
 have j:(kR lo n).length=n:=by simp[kR]
 refine⟨λd hi=>?_,λhi=>by rw[j]at hi;exact hi⟩;have g:i<n:=by
  have:=(Uk.mp hi).1;rw[j]at this;exact this
 refine⟨g,λx p ⟨e,l⟩=>?_⟩;subst e l;have:d=.int (lo+(i:Int)):=by
  simp[kR,g]at hi;exact hi.symm
 subst this;exact⟨Same.refl _,rfl⟩
noncomputable def  kS:D->Uc
 |.int i=>!i
 |_=>none
def intD_some(h:kS d=!i):d=.int i:=by
 cases d<;>first|(cases h;rfl)|cases h
def  C7(j:Int):Prop:=-(2^62)<=j/\j<2^62
instance (j:Int):Decidable (C7 j):=Classical.propDecidable _
def  rV:T9->TV:=rh λd=>(kS d).bind λj=>if C7 j then !(kR 0 j.toNat)else none
def xq(U:Gl X "range")(T:X.mg "range"=none)(ha:PX X [e] fa)(J:starEach [e] X.env=[(false,eval e X.env)]:=by rfl):PJ X tg (.Call (.Name "range" p) [e] [] pos) (λY=>(fa Y).bind rV):=
 λO Y=>(w6 U T (ha O Y) J).imp λσ H R ⟨E,ds,q,k⟩=>by
 let⟨as,e1,q⟩:=UD q
 refine⟨E,as,e1,λvs H1 l I=>?_⟩
 let⟨c,rfl,t⟩:=bx q
 let⟨j,r,o⟩:=UD t
 let⟨h1,h2⟩:=az o
 subst h2
 let⟨v,rfl,C⟩:=uk I
 cases intD_some r
 have g:=h1
 exact⟨j,by rw[show v=.int j from C],g.1,g.2,k _ H1 l um⟩
def  tG(K:Frag)(O:T6)(Y:Vv)(d:D)(ks:T1)(o:Option Vv):TG:=λv σ H Q=>VE K O σ H Y/\Is K (msk O H) d v/\∃Y',o=!Y'/\
 ∀σ',VE K O σ' H Y'->σ'.length=σ.length->(∀(j:Nat)(w:V),j ∉ ks->σ[j]?=!(!w)->σ'[j]?=!(!w))->Q σ' H
def  HJ(X:Cx)(ks:T1)(tg:Expr)(g:D->Vv->Option Vv):Prop:=∀O Y d,PG X tg (tG X.K O Y d ks (g d Y))
def  Td(K:Frag)(O:T6)(Y:Vv)(ds:T9)(ks:T1)(o:Option Vv):Ft:=λvs σ H Q=>VE K O σ H Y/\IsL K (msk O H) ds vs/\∃Y',o=!Y'/\
 ∀σ',VE K O σ' H Y'->σ'.length=σ.length->(∀(j:Nat)(w:V),j ∉ ks->σ[j]?=!(!w)->σ'[j]?=!(!w))->Q σ' H
def  xu(X:Cx)(ks:T1)(ts:Ua)(g:T9->Vv->Option Vv):Prop:=∀O Y ds,PGs X ts (Td X.K O Y ds ks (g ds Y))
noncomputable def  aM(i:Nat):D->Vv->Option Vv:=λd Y=>!(Y.set i (!d))
def C8(C:X.N.Nodup)(hi:X.N[i]?=!x)(l:Co X.env.scope x)(p:i∈ks)(t:X.fn x=true\/X.env.scope.names.lookup x=some .local:=by first|exact .inl rfl|exact .inr rfl|assumption):HJ X ks (.Name x pos) (aM i):=
 λO Y d=>(vq C hi l t).imp λv σ H Q ⟨E,g,Y',e,k⟩=>by
 cases e
 refine k _ (E.set g) (by simp) λj w r o=>?_
 rw[List.getElem?_set_ne (λ(z:i=j)=>r (by rw[<-z];exact p))];exact o
def PGs.imp(h:PGs X ts t)(k:∀v σ H Q,t' v σ H Q->t v σ H Q):PGs X ts t':=λpins s σ H vs us Q I r q=>h pins s σ H vs us Q I r (k _ _ _ _ q)
noncomputable def  bc:T9->Vv->Option Vv:=λds Y=>match ds with|[]=>!Y|_=>none
noncomputable def  ai(g:D->Vv->Option Vv)(gs:T9->Vv->Option Vv):T9->Vv->Option Vv:=λds Y=>match ds with|d::r=>(g d Y).bind λY1=>gs r Y1|_=>none
def C9:xu X ks [] bc:=λO Y ds=>pgs_nil.imp λj σ H Q ⟨E,g,Y',e,k⟩=>by
 cases ds with
 |nil=>cases e;exact⟨g,k σ E rfl λ_ _ _ h=>h⟩
 |cons _ _=>cases e
def PGs.ex{e}{g:Type}{t:g->Ft}(h:∀z,PGs X e (t z)):PGs X e (λv σ H Q=>∃z,t z v σ H Q):=λpins s σ H v u Q I r ⟨z,q⟩=>h z pins s σ H v u Q I r q
def gsd_cons(h1:HJ X ks e g)(h2:xu X ks p gs)(hs:(assignEach (e::p) X.env).map (·.2)=assign e X.env::(assignEach p X.env).map (·.2):=by rfl):xu X ks (e::p) (ai g gs):=λO Y ds=>by
 cases ds with
 |nil=>exactλpins s σ H T us Q I r ⟨_,_,Y',e,_⟩=>by cases e
 |cons d r=>
  refine(rF (h1 O Y d) (PGs.ex λz:Vv=>h2 O z r) hs).imp λT σ H Q ⟨E,⟨x,J,z,ix,il⟩,Y',e,k⟩=>?_;let⟨l,e1,e2⟩:=UD (e);refine⟨x,J,z,E,ix,l,e1,λC E1 l1 k1=>⟨l,E1,il,Y',e2,λo E2 U k2=>?_⟩⟩;exact k o E2 (U.trans l1) λj w t hw=>k2 j w t (k1 j w t hw)
noncomputable def  iZ(n:Nat)(gs:T9->Vv->Option Vv):D->Vv->Option Vv:=λd Y=>match d with|.tup ds=>if ds.length=n then gs ds Y else none|_=>none
def HK{k n}(I:X.calm=true)(h:xu X ks g p)(C:(assignEach g X.env).length=n:=by rfl)(j:(assignEach g X.env).findIdx? (·.1)=none:=by rfl):HJ X ks (.Tuple g k pos) (iZ n p):=λO Y d=>by
 refine(yG I (PGs.ex λz:T9=>h O Y z) C j).imp λv σ H Q ⟨E,r,Y',e,k⟩=>?_;cases d with
 |tup ds=>
  let⟨a,xs,rfl,t,o⟩:=r;have l:(if ds.length=n then p ds Y else none)=!Y':=e;split at l
  .exact⟨a,xs,rfl,msk_le.seqT t,by rw[<-o.len];assumption,ds,E,o,Y',l,k⟩
  .cases l
 |_=>cases e
end
noncomputable def  jv(step:D->Option (Ub)):T9->TV
 |[]=>![]
 |d::ds=>(step d).bind λo=>(jv step ds).bind λr=>!(match o with|some y=>y::r|none=>r)
noncomputable def  jw(g:D->Vv->Option Vv)(ft:TN)(fe:TL)(Y:Vv)(d:D):Option (Ub):=(g d Y).bind λY1=>(ft Y1).bind λc=>if c=true then(fe Y1).bind λy=>!(!y)else !none
def  ah(ks:T1)(fi:TK)(g:D->Vv->Option Vv)(ft:TN)(fe:TL):TK:=λY=>(fi Y).bind λds=>bw (jv (jw g ft fe (wipe ks Y)) ds)
def  HL(X:Cx)(ifs:Ua)(f:TN):Prop:=∀O Y,PTs X ifs (Oi X.K O Y (f Y))
def PTs.imp(h:PTs X ifs t)(k:∀σ H Q,g σ H Q->t σ H Q):PTs X ifs g:=λpins s σ H Q I q=>h pins s σ H Q I (k _ _ _ q)
def Da:HL X [] (λ_=>!true):=λO Y=>pts_nil.imp λσ H Q ⟨E,b,e,k⟩=>by cases e;exact k H (Same.refl _)
def Db(h:PQ X c f):HL X [c] f:=λO Y=>CT (h O Y)
abbrev xG(K:Frag)(ks:T1)(g:D->Vv->Option Vv):TG:=λv σ H Q=>∃z:(T6)×Vv×D,tG K z.1 z.2.1 z.2.2 ks (g z.2.2 z.2.1) v σ H Q
abbrev xT(K:Frag)(f:TN):TT:=λσ H Q=>∃z:(T6)×Vv,Oi K z.1 z.2 (f z.2) σ H Q
abbrev xE(K:Frag)(f:TL):TE:=λσ H Q=>∃z:(T6)×Vv,tP K z.1 z.2 (f z.2) σ H Q
def zf{K}(h:LD K O Y (ah ks fi g ft fe Y) σ H Q):
  rO (tJ K O Y (fi Y)) ks (xG K ks g) (xT K ft) (xE K fe) σ H Q:=by
 let⟨E,U,e,k⟩:=h
 let⟨ds,e1,e⟩:=UD e
 let⟨e2,hz⟩:=dB e
 refine⟨E,ds,e1,λJ H1 s1 it=>⟨λi m ys H2=>i<=ds.length/\m=ds.length-i/\Same H1 H2/\∃rs rest,IsL K (msk O H2) rs ys/\jv _ (ds.drop i)=!rest/\U=rs++rest,
  ⟨ds.length,Nat.zero_le _,by simp,Same.refl _,[],U,rfl,by simpa using e2,rfl⟩,?_⟩⟩
 rintro i m ys H2 ⟨hi,rfl,s2,rs,rest,il,t,et⟩
 have E2:=E.grow (s1.trans s2)
 have hit:=it i H2 O s2.msk E2.dom
 have C:ys.length<sizeLine:=by
  rw[<-il.len];have:rs.length<=U.length:=by rw[et,length_append];omega
  omega
 by_cases r:i<ds.length
 .refine .inr ?_;have hd:=getElem?_eq_getElem r;let⟨go,yl⟩:=hit.1 _ hd;refine⟨go,C,λx H3 hy=>?_⟩;let⟨s3,ix⟩:=yl x H3 hy;rw[List.drop_eq_getElem_cons r]at t;let⟨o,I,t⟩:=UD (t);let⟨l,er',t⟩:=UD t;let⟨T,g1,I⟩:=UD I;let⟨c,c1,I⟩:=UD I;refine⟨⟨O,wipe ks Y,ds[i]⟩,(E2.grow s3).wiped ks,ix,T,g1,λσ4 E4 l4 k4=>⟨⟨l4,λj w hw=>?_⟩,⟨O,T⟩,E4,c,c1,λH5 s5=>?_⟩⟩
  .exact k4 j w (wipe_iff.mp hw).2 hw
  .have hm:ds.length-(i+1)<ds.length-i:=by omega
   cases c with
   |true=>
    refine CQ ?_;let⟨y,y1,I⟩:=UD I;cases I;refine⟨⟨O,T⟩,E4.grow s5,y,y1,λv H6 s6 iv=>⟨_,hm,r,rfl,s2.trans (s3.trans (s5.trans s6)),rs++[y],l,?_,er',?_⟩⟩
    .exact(IsL.mono (s3.trans (s5.trans s6)).msk _ _ il).app ⟨v,[],rfl,iv,rfl⟩
    .rw[et,<-Option.some.inj t,List.append_assoc];rfl
   |false=>
    refine CP ?_;cases I;refine⟨_,hm,r,rfl,s2.trans (s3.trans s5),rs,l,IsL.mono (s3.trans s5).msk _ _ il,er',?_⟩;rw[et,<-Option.some.inj t]
 .have hie:i=ds.length:=by omega
  subst hie;refine .inl ⟨hit.2 (UB _),Uy C,λp hp=>?_⟩;rw[List.drop_of_length_le (le_refl _)]at t;cases t;rw[List.append_nil]at et;subst et;exact k p ys H2 (s1.trans s2) hp il
mutual
noncomputable def  qf:D->D->Bool
 |.non,.non=>true
 |.bl a,.bl b=>a==b
 |.bl a,.int b=>(if a then 1 else 0)==b
 |.int a,.bl b=>a==(if b then 1 else 0)
 |.int a,.int b=>a==b
 |.str a,.str b=>a==b
 |.tup a,.tup b=>tL a b
 |.lst a,.lst b=>tL a b
 |_,_=>false
noncomputable def  tL:T9->T9->Bool
 |[],[]=>true
 |a::as,b::bs=>qf a b&&tL as bs
 |_,_=>false
end
mutual
noncomputable def  vH:D->Nat
 |.tup ds=>eC ds+1
 |.lst ds=>eC ds+1
 |_=>0
noncomputable def  eC:T9->Nat
 |[]=>0
 |d::ds=>max (vH d) (eC ds)
end
mutual
noncomputable def  ph:D->Bool
 |.non=>true
 |.bl _=>true
 |.int _=>true
 |.str _=>true
 |.ty _=>false
 |.adr _=>false
 |.tup ds=>pi ds
 |.lst ds=>pi ds
 |.obj _ _ _=>false
 |.dct _ _=>false
noncomputable def  pi:T9->Bool
 |[]=>true
 |d::ds=>ph d&&pi ds
end
mutual
theorem rW:∀d:D,ph d=true->qf d d=true
 |.non,_=>rfl
 |.bl a,_=>by show(a==a)=true;simp
 |.int a,_=>by show(a==a)=true;simp
 |.str a,_=>by show(a==a)=true;simp
 |.ty _,h=>by cases h
 |.adr _,h=>by cases h
 |.tup ds,h=>h7 ds h
 |.lst ds,h=>h7 ds h
 |.obj _ _ _,h=>by cases h
 |.dct _ _,h=>by cases h
theorem h7:∀ds:T9,pi ds=true->tL ds ds=true
 |[],_=>rfl
 |d::ds,h=>by
  have h':(ph d&&pi ds)=true:=h;rw[and_eq_true]at h';show(qf d d&&tL ds ds)=true;rw[rW d h'.1,h7 ds h'.2];rfl
end
section
variable{X:Cx}{pins:TU}{σ:St}{H:Hp}{s:Shared}
def Inv.notBoth(I:Inv X pins σ H s)(h:SqT X.K H a xs)(h':SqL X.K H a ys):False:=by
 let⟨_,_,⟨o,e,c,_⟩,_⟩:=I.tuple h;let⟨_,_,⟨o',n,g,j,_⟩,_⟩:=I.list h';grind
mutual
theorem Is.inj(I:Inv X pins σ H s):∀(d e:D)(v:V),ph d=true->ph e=true->Is X.K H d v->Is X.K H e v->d=e
 |d,e,v,hd,he,h,h'=>by
  cases d with
  |non=>cases(show v=_ from h);cases e<;>first|exact(Uj he).elim|rfl|(exact absurd (show V.non=_ from h') (by intro z;cases z))|(let⟨_,_,z,_⟩:=h';cases z)|cases he
  |bl b=>cases(show v=_ from h);cases e<;>first|exact(Uj he).elim|(cases(show V.bl b=_ from h');rfl)|(exact absurd (show V.bl b=_ from h') (by intro z;cases z))|(let⟨_,_,z,_⟩:=h';cases z)|cases he
  |int b=>cases(show v=_ from h);cases e<;>first|exact(Uj he).elim|(cases(show V.int b=_ from h');rfl)|(exact absurd (show V.int b=_ from h') (by intro z;cases z))|(let⟨_,_,z,_⟩:=h';cases z)|cases he
  |str b=>cases(show v=_ from h);cases e<;>first|exact(Uj he).elim|(cases(show V.str b=_ from h');rfl)|(exact absurd (show V.str b=_ from h') (by intro z;cases z))|(let⟨_,_,z,_⟩:=h';cases z)|cases he
  |ty _=>cases hd
  |adr _=>cases hd
  |obj _ _ _=>cases hd
  |dct _ _=>cases hd
  |tup ds=>
   let⟨a,xs,rfl,q,l⟩:=h;cases e with
   |tup es=>
    let⟨a',ys,z,q',l'⟩:=h';cases z;cases I.tuple_inj q q';rw[IsL.inj I ds es xs hd he l l']
   |lst es=>
    let⟨a',ys,z,q',l'⟩:=h';cases z;exact(I.notBoth q q').elim
   |non=>exact absurd (show V.ref a=_ from h') (by intro z;cases z)
   |bl _=>exact absurd (show V.ref a=_ from h') (by intro z;cases z)
   |int _=>exact absurd (show V.ref a=_ from h') (by intro z;cases z)
   |str _=>exact absurd (show V.ref a=_ from h') (by intro z;cases z)
   |ty _=>cases he
   |adr _=>cases he
   |obj _ _ _=>cases he
   |dct _ _=>cases he
  |lst ds=>
   let⟨a,xs,rfl,q,l⟩:=h;cases e with
   |lst es=>
    let⟨a',ys,z,q',l'⟩:=h';cases z;cases I.list_inj q q';rw[IsL.inj I ds es xs hd he l l']
   |tup es=>
    let⟨a',ys,z,q',l'⟩:=h';cases z;exact(I.notBoth q' q).elim
   |non=>exact absurd (show V.ref a=_ from h') (by intro z;cases z)
   |bl _=>exact absurd (show V.ref a=_ from h') (by intro z;cases z)
   |int _=>exact absurd (show V.ref a=_ from h') (by intro z;cases z)
   |str _=>exact absurd (show V.ref a=_ from h') (by intro z;cases z)
   |ty _=>cases he
   |adr _=>cases he
   |obj _ _ _=>cases he
   |dct _ _=>cases he
theorem IsL.inj(I:Inv X pins σ H s):∀(ds es:T9)(vs:List V),pi ds=true->pi es=true->IsL X.K H ds vs->IsL X.K H es vs->ds=es
 |[],[],_,_,_,_,_=>rfl
 |[],e::es,vs,_,_,h,⟨x,r,z,_⟩=>by cases(show vs=[]from h);cases z
 |d::ds,[],vs,_,_,⟨x,r,z,_⟩,h=>by cases(show vs=[]from h);cases z
 |d::ds,e::es,vs,hd,he,⟨x,r,z,h1,h2⟩,⟨x',r',z',h1',h2'⟩=>by
  cases z;cases z';have hd':(ph d&&pi ds)=true:=hd;have he':(ph e&&pi es)=true:=he;rw[and_eq_true]at hd' he';rw[Is.inj I d e x hd'.1 he'.1 h1 h1',IsL.inj I ds es r hd'.2 he'.2 h2 h2']
end
def bY:∀(ds es:T9),(((List.range (min ds.length es.length)).all λj=>qf (ds.getD j .non) (es.getD j .non))&&ds.length==es.length)=tL ds es
 |[],[]=>rfl
 |[],e::es=>by simp[tL]
 |d::ds,[]=>by simp[tL]
 |d::ds,e::es=>by
  have ih:=bY ds es;show(((List.range (min (ds.length+1) (es.length+1))).all _)&&_)=(qf d e&&tL ds es);rw[<-ih,show min (ds.length+1) (es.length+1)=min ds.length es.length+1 by omega,List.range_succ_eq_map,List.all_cons,List.all_map];have e1:((d::ds).length==(e::es).length)=(ds.length==es.length):=by simp
  rw[e1,Bool.and_assoc];rfl
end
section
variable{X:Cx}{pins:TU}{σ:St}{H:Hp}{s:Shared}
def kT(A:Around):A.in1.units=A.units+1:=rfl
def mr:∀{ds:T9}{i:Nat}{d:D},ds[i]?=!d->vH d<=eC ds
 |[],_,_,h=>by simp at h
 |c::ds,0,d,h=>by
  simp at h;subst h;show vH c<=max (vH c) (eC ds);omega
 |c::ds,i+1,d,h=>by
  have:=mr (ds:=ds) (i:=i) (by simpa using h);show vH d<=max (vH c) (eC ds);omega
def jO:∀{ds:T9}{i:Nat}{d:D},pi ds=true->ds[i]?=!d->ph d=true
 |[],_,_,_,h=>by simp at h
 |c::ds,0,d,ho,h=>by
  simp at h;subst h;have ho':(ph c&&pi ds)=true:=ho;rw[and_eq_true]at ho';exact ho'.1
 |c::ds,i+1,d,ho,h=>by
  have ho':(ph c&&pi ds)=true:=ho;rw[and_eq_true]at ho';exact jO (ds:=ds) (i:=i) ho'.2 (by simpa using h)
def getD_some{ds:T9}(h:ds[i]?=!d):ds.getD i .non=d:=by rw[List.getD_eq_getElem?_getD,h];rfl
def f9(go:∀(i:Nat)(d e:D)(x y:V)(u w:Value),ds[i]?=!d->es[i]?=!e->Is X.K H d x->Is X.K H e y->RelV x u->RelV y w->SeqAt.EqAt A s u w (qf d e))(il:IsL X.K H ds xs)(jl:IsL X.K H es ys)(r:Vals xs us)(q:Vals ys ws)(j:Nat)(h1:j<us.toArray.size)(h2:j<ws.toArray.size):SeqAt.EqAt A s us.toArray[j] ws.toArray[j] (qf (ds.getD j .non) (es.getD j .non)):=by
 have hx:us[j]?=some us.toArray[j]:=by simp at h1⊢
 have hy:ws[j]?=some ws.toArray[j]:=by simp at h2⊢
 let⟨x,e1,r1⟩:=paired_get' r hx;let⟨y,e2,r2⟩:=paired_get' q hy;let⟨d,e3,i3⟩:=il.get' e1;let⟨e,e4,i4⟩:=jl.get' e2;grind
def kU(h:Is X.K H d x)(f:bK d=true):hU x=true/\x=l6 d:=let⟨a,b⟩:=iY f h;⟨b,a⟩
def Dc(f:bK d=true)(g:bK e=true):CN (l6 d) (l6 e)=qf d e:=by
 cases d<;>cases e<;>first|exact(Uj f).elim|exact(Uj g).elim|rfl
def kW(ds es:T9)(h:ds.length=es.length):((List.range ds.length).all λj=>qf (ds.getD j .non) (es.getD j .non))=tL ds es:=by
 have:=bY ds es;rw[<-this,h];simp
def qg(h:ds.length≠es.length):tL ds es=false:=by
 rw[<-bY];grind
def HM(I:Inv X pins σ H s):∀(n:Nat)(A:Around)(d e:D)(x y:V)(u w:Value),vH d<=n->A.units+n<cLine->ph d=true->ph e=true->Is X.K H d x->Is X.K H e y->RelV x u->RelV y w->SeqAt.EqAt A s u w (qf d e):=by
 intro n;induction n with
 |zero=>
  intro A d e x y u w hn hu T o hx J rx r;have fd:bK d=true:=by
   cases d with
   |tup ds=>exact absurd (show eC ds+1<=0 from hn) (!3)
   |lst ds=>exact absurd (show eC ds+1<=0 from hn) (!3)
   |ty _=>cases T
   |adr _=>cases T
   |obj _ _ _=>cases T
   |dct _ _=>cases T
   |_=>rfl
  have g:A.units<cLine:=by omega
  cases fe:bK e with
  |true=>
   let⟨f1,e1⟩:=kU hx fd;let⟨f2,e2⟩:=kU J fe;rw[<-Dc fd fe,<-e1,<-e2];exact uf rx r f1 f2
  |false=>
   cases e with
   |tup es=>
    let⟨b,ys,rfl,q,l⟩:=J;cases r;let⟨its,rv,p,_⟩:=I.tuple q;cases d with
    |non=>cases(hx);cases rx;exact SeqAt.EqAt.none_tuple p g
    |bl c=>cases(hx);cases rx;exact SeqAt.EqAt.bool_tuple c p g
    |int c=>cases(hx);let⟨t,rfl⟩:=rx;exact SeqAt.EqAt.int_tuple c t p g
    |str c=>cases(hx);let⟨t,rfl⟩:=rx;exact SeqAt.EqAt.str_tuple c t p g
    |_=>cases fd
   |lst es=>
    let⟨b,ys,rfl,q,l⟩:=J;cases r;let⟨its,rv,p,_⟩:=I.list q;cases d with
    |non=>cases(hx);cases rx;exact SeqAt.EqAt.none_list p.isList g
    |bl c=>cases(hx);cases rx;exact SeqAt.EqAt.bool_list c p.isList g
    |int c=>cases(hx);let⟨t,rfl⟩:=rx;exact SeqAt.EqAt.int_list c t p.isList g
    |str c=>cases(hx);let⟨t,rfl⟩:=rx;exact SeqAt.EqAt.str_list c t p.isList g
    |_=>cases fd
   |ty _=>cases o
   |adr _=>cases o
   |obj _ _ _=>cases o
   |dct _ _=>cases o
   |_=>cases fe
 |succ n ih=>
  intro A d e x y u w hn hu T o hx J rx r;have g:A.units<cLine:=by omega
  cases fd:bK d with
  |true=>
   have h0:vH d<=n:=by
    cases d<;>first|exact Nat.zero_le _|cases fd
   exact ih A d e x y u w h0 (!3) T o hx J rx r
  |false=>
   cases d with
   |tup ds=>
    have hdn:=Nat.le_of_succ_le_succ (hn);let⟨a,xs,rfl,q,l⟩:=hx;cases rx;let⟨its,rv,p,_⟩:=I.tuple q;cases e with
    |tup es=>
     let⟨b,ys,rfl,q',l'⟩:=J;cases r;let⟨C,U,p',_⟩:=I.tuple q';by_cases hab:a=b
     .subst hab;cases I.tuple_inj q q';cases IsL.inj I ds es xs T o l l';rw[show qf (.tup ds) (.tup ds)=true from h7 ds T];exact SeqAt.EqAt.same _
     .refine SeqAt.EqAt.of_refs hab ?_;have h:=SeqAt.RcAt.tuples p p' g λj h1 h2=>f9 (λi d e x y u w e1 e2 i1 i2 r1 r2=>ih A.in1 d e x y u w (Ur (mr e1) hdn) (by rw[kT];omega) (jO T e1) (jO o e2) i1 i2 r1 r2) l l' rv U j h1 h2;have e1:its.toArray.size=ds.length:=by rw[size_toArray,<-rv.length,l.len]
      have e2:C.toArray.size=es.length:=by rw[size_toArray,<-U.length,l'.len]
      rw[e1,e2,bY]at h;exact h
    |lst es=>
     let⟨b,ys,rfl,q',l'⟩:=J;cases r;let⟨C,U,p',_⟩:=I.list q';exact SeqAt.EqAt.tuple_list p p'.isList g
    |non=>cases(J);cases r;exact SeqAt.EqAt.tuple_none p g
    |bl c=>cases(J);cases r;exact SeqAt.EqAt.tuple_bool c p g
    |int c=>cases(J);let⟨t,rfl⟩:=r;exact SeqAt.EqAt.tuple_int c t p g
    |str c=>cases(J);let⟨t,rfl⟩:=r;exact SeqAt.EqAt.tuple_str c t p g
    |ty _=>cases o
    |adr _=>cases o
    |obj _ _ _=>cases o
    |dct _ _=>cases o
   |lst ds=>
    have hdn:=Nat.le_of_succ_le_succ (hn);let⟨a,xs,rfl,q,l⟩:=hx;cases rx;let⟨its,rv,p,_⟩:=I.list q;cases e with
    |lst es=>
     let⟨b,ys,rfl,q',l'⟩:=J;cases r;let⟨C,U,p',_⟩:=I.list q';have e1:its.toArray.size=ds.length:=by rw[size_toArray,<-rv.length,l.len]
     have e2:C.toArray.size=es.length:=by rw[size_toArray,<-U.length,l'.len]
     by_cases hab:a=b
     .subst hab;cases I.list_inj q q';cases IsL.inj I ds es xs T o l l';rw[show qf (.lst ds) (.lst ds)=true from h7 ds T];exact SeqAt.EqAt.same _
     .refine SeqAt.EqAt.of_refs hab ?_;by_cases hl:ds.length=es.length
      .have h:=SeqAt.RcAt.lists p.isList p'.isList (by rw[e1,e2,hl]) g λj h1 h2=>f9 (λi d e x y u w e1 e2 i1 i2 r1 r2=>ih A.in1 d e x y u w (Ur (mr e1) hdn) (by rw[kT];omega) (jO T e1) (jO o e2) i1 i2 r1 r2) l l' rv U j h1 h2;rw[e1,kW ds es hl]at h;exact h
      .rw[show qf (.lst ds) (.lst es)=false from qg hl];exact SeqAt.RcAt.lists_lengths p.isList p'.isList (by rw[e1,e2];simpa using hl) g
    |tup es=>
     let⟨b,ys,rfl,q',l'⟩:=J;cases r;let⟨C,U,p',_⟩:=I.tuple q';exact SeqAt.EqAt.list_tuple p.isList p' g
    |non=>cases(J);cases r;exact SeqAt.EqAt.list_none p.isList g
    |bl c=>cases(J);cases r;exact SeqAt.EqAt.list_bool c p.isList g
    |int c=>cases(J);let⟨t,rfl⟩:=r;exact SeqAt.EqAt.list_int c t p.isList g
    |str c=>cases(J);let⟨t,rfl⟩:=r;exact SeqAt.EqAt.list_str c t p.isList g
    |ty _=>cases o
    |adr _=>cases o
    |obj _ _ _=>cases o
    |dct _ _=>cases o
   |ty _=>cases T
   |adr _=>cases T
   |obj _ _ _=>cases T
   |dct _ _=>cases T
   |_=>cases fd
noncomputable def  HN:D->D->Bool
 |.tup _,.tup _=>true
 |.lst _,.lst _=>true
 |_,_=>false
def  jx(d e:D):Option Bool:=if(bK d&&bK e&&xf (l6 d) (l6 e))=true then !(decide (l6 d=l6 e))else if(HN d e&&ph d&&ph e&&decide (vH d<=50))=true then !(qf d e)else none
def  HP(K:Frag)(neg:Bool):R2:=λx y H Q=>∃d e b,Is K H d x/\Is K H e y/\jx d e=!b/\Q (.bl (if neg then not b else b)) H
def cmpEq_cases(h:jx d e=!b):(bK d=true/\bK e=true/\xf (l6 d) (l6 e)=true/\b=decide (l6 d=l6 e))\/(HN d e=true/\ph d=true/\ph e=true/\vH d<=50/\b=qf d e):=by
 unfold jx at h;grind
def i6(I:Inv X pins σ H s)(C:X.A.units+60<cLine)(p:pi ds=true)(o:pi es=true)(hd:eC ds<=50):∀(i:Nat)(d e:D)(x y:V)(u w:Value),ds[i]?=!d->es[i]?=!e->Is X.K H d x->Is X.K H e y->RelV x u->RelV y w->SeqAt.EqAt X.A.in1 s u w (qf d e):=
 λi d e x y u w g e2 t r l j=>HM I 50 X.A.in1 d e x y u w (Ur (mr g) hd) (by rw[kT];omega) (jO p g) (jO o e2) t r l j
def uo(hu:X.A.units+60<cLine):OpR X (compareOp .Eq) (HP X.K false):=by
 intro pins s σ H x y v u Q I rx ry h;let⟨d,e,b,hx,hy,hb,q⟩:=h;have hu':X.A.units<cLine:=by omega
 rcases cmpEq_cases hb with⟨f1,f2,sc,rfl⟩|⟨sq,od,oe,hd,rfl⟩
 .let⟨_,e1⟩:=kU hx f1;let⟨_,e2⟩:=kU hy f2;exact Lp pins s σ H x y v u Q I rx ry ⟨by rw[e1,e2];exact sc,by rw[e1,e2];exact q⟩
 .cases d with
  |tup ds=>
   cases e with
   |tup es=>
    let⟨a,xs,rfl,q1,l⟩:=hx;let⟨c,ys,rfl,q2,l'⟩:=hy;cases rx;cases ry;let⟨its,rv,p,_⟩:=I.tuple q1;let⟨its',rv',p',_⟩:=I.tuple q2;have hd':eC ds<=50:=by have:eC ds+1<=50:=hd;omega
    have e1:its.toArray.size=ds.length:=by rw[size_toArray,<-rv.length,l.len]
    have e2:its'.toArray.size=es.length:=by rw[size_toArray,<-rv'.length,l'.len]
    have hh:=SeqAt.RcAt.tuples p p' hu' λj h1 h2=>f9 (i6 I hu od oe hd') l l' rv rv' j h1 h2;rw[e1,e2,bY]at hh;exact hh X.prog X.w X.xe _ ⟨.bl _,H,I,rfl,q⟩
   |_=>cases sq
  |lst ds=>
   cases e with
   |lst es=>
    let⟨a,xs,rfl,q1,l⟩:=hx;let⟨c,ys,rfl,q2,l'⟩:=hy;cases rx;cases ry;let⟨its,rv,p,_⟩:=I.list q1;let⟨its',rv',p',_⟩:=I.list q2;have hd':eC ds<=50:=by have:eC ds+1<=50:=hd;omega
    have e1:its.toArray.size=ds.length:=by rw[size_toArray,<-rv.length,l.len]
    have e2:its'.toArray.size=es.length:=by rw[size_toArray,<-rv'.length,l'.len]
    by_cases hl:ds.length=es.length
    .have hh:=SeqAt.RcAt.lists p.isList p'.isList (by rw[e1,e2,hl]) hu' λj h1 h2=>f9 (i6 I hu od oe hd') l l' rv rv' j h1 h2;rw[e1,kW ds es hl]at hh;exact hh X.prog X.w X.xe _ ⟨.bl _,H,I,rfl,q⟩
    .have hh:SeqAt.RcAt X.A s (.ref a) (.ref c) false:=SeqAt.RcAt.lists_lengths p.isList p'.isList (by rw[e1,e2];simpa using hl) hu';rw[show qf (.lst ds) (.lst es)=false from qg hl]at q;exact hh X.prog X.w X.xe _ ⟨.bl _,H,I,rfl,q⟩
   |_=>cases sq
  |_=>cases sq
def zg(hu:X.A.units+60<cLine):OpR X (compareOp .NotEq) (HP X.K true):=by
 intro pins s σ H x y v u Q I rx ry h;let⟨d,e,b,hx,hy,hb,q⟩:=h;have hu':X.A.units<cLine:=by omega
 rcases cmpEq_cases hb with⟨f1,f2,sc,rfl⟩|⟨sq,od,oe,hd,rfl⟩
 .let⟨_,e1⟩:=kU hx f1;let⟨_,e2⟩:=kU hy f2;exact Lq pins s σ H x y v u Q I rx ry ⟨by rw[e1,e2];exact sc,by rw[e1,e2];exact q⟩
 .cases d with
  |tup ds=>
   cases e with
   |tup es=>
    let⟨a,xs,rfl,q1,l⟩:=hx;let⟨c,ys,rfl,q2,l'⟩:=hy;cases rx;cases ry;let⟨its,rv,p,_⟩:=I.tuple q1;let⟨its',rv',p',_⟩:=I.tuple q2;have hd':eC ds<=50:=by have:eC ds+1<=50:=hd;omega
    have e1:its.toArray.size=ds.length:=by rw[size_toArray,<-rv.length,l.len]
    have e2:its'.toArray.size=es.length:=by rw[size_toArray,<-rv'.length,l'.len]
    have hh:=SeqAt.RcNeAt.tuples p p' hu' λj h1 h2=>f9 (i6 I hu od oe hd') l l' rv rv' j h1 h2;rw[e1,e2,bY]at hh;exact hh X.prog X.w X.xe _ ⟨.bl _,H,I,rfl,q⟩
   |_=>cases sq
  |lst ds=>
   cases e with
   |lst es=>
    let⟨a,xs,rfl,q1,l⟩:=hx;let⟨c,ys,rfl,q2,l'⟩:=hy;cases rx;cases ry;let⟨its,rv,p,_⟩:=I.list q1;let⟨its',rv',p',_⟩:=I.list q2;have hd':eC ds<=50:=by have:eC ds+1<=50:=hd;omega
    have e1:its.toArray.size=ds.length:=by rw[size_toArray,<-rv.length,l.len]
    have e2:its'.toArray.size=es.length:=by rw[size_toArray,<-rv'.length,l'.len]
    by_cases hl:ds.length=es.length
    .have hh:=SeqAt.RcNeAt.lists p.isList p'.isList (by rw[e1,e2,hl]) hu' λj h1 h2=>f9 (i6 I hu od oe hd') l l' rv rv' j h1 h2;rw[e1,kW ds es hl]at hh;exact hh X.prog X.w X.xe _ ⟨.bl _,H,I,rfl,q⟩
    .have hh:SeqAt.RcNeAt X.A s (.ref a) (.ref c) true:=SeqAt.RcNeAt.lists_lengths p.isList p'.isList (by rw[e1,e2];simpa using hl) hu';rw[show qf (.lst ds) (.lst es)=false from qg hl]at q;exact hh X.prog X.w X.xe _ ⟨.bl _,H,I,rfl,q⟩
   |_=>cases sq
  |_=>cases sq
end
def  aE(neg:Bool)(d e:D):Ub:=(jx d e).bind λb=>!(.bl (if neg then not b else b))
def rX{K}:ju K (HP K neg) (aE neg):=λO H x y dx o d Q hd j g e k=>by
 let⟨b,l,e2⟩:=UD e;cases e2;exact⟨dx,o,b,j.full,g.full,l,k _ H (Same.refl _) rfl⟩
section
variable{X:Cx}{pos:Pos}{a b e:Expr}
def jP(r:Room k A):A.units+60<cLine:=by have:=r.un;omega
def L8(r:Room k X.A)(j:PP X a fa)(g:PP X b l):PP X (.Compare a [.Eq] [b] pos) (bin2 (aE false) fa l):=pp_cmp (uo (jP r)) rX j g (dA _)
def L9(r:Room k X.A)(j:PP X a fa)(g:PP X b l):PP X (.Compare a [.NotEq] [b] pos) (bin2 (aE true) fa l):=pp_cmp (zg (jP r)) rX j g (dA _)
def Ma(r:Room k X.A)(j:PP X a fa)(g:PP X b l):PQ X (.Compare a [.Eq] [b] pos) (ao (bin2 (aE false) fa l)):=pq_cmp (uo (jP r)) rX j g (dA _)
def Mb(r:Room k X.A)(j:PP X a fa)(g:PP X b l):PQ X (.Compare a [.NotEq] [b] pos) (ao (bin2 (aE true) fa l)):=pq_cmp (zg (jP r)) rX j g (dA _)
structure Cn(K:Frag)(mg:Str->TZ)(x:Str)(d:D):Prop where
 ex:∃v u,mg x=!u/\RelV v u/\∀H,Is K H d v
def zh(c:Cn X.K X.mg x d)(g:Gl X x)(hd:(!8)=false:=by decide):PP X (.Name x pos) (λ_=>!d):=by
 let⟨v,u,h1,h2,j⟩:=c.ex;exact CY g h1 h2 j hd
end
def  ItK:Bool->Heap->Addr->Addr->Nat->Prop
 |true,h,it,l,k=>h.IsListIter it l k
 |false,h,it,l,k=>h.IsTupleIter it l k
def  CoK:Bool->Heap->Addr->T7->Prop
 |true,h,l,its=>h.IsList l its
 |false,h,l,its=>h.IsTuple l its
def ItK.at(x:ItK b h g l k)(e:∀o,h.get? g=!o->h'.get? g=!o):ItK b h' g l k:=by
 cases b
 .exact Heap.IsTupleIter.at x e
 .exact Heap.IsListIter.at x e
def CoK.at(x:CoK b h l g)(e:∀o,h.get? l=!o->h'.get? l=!o):CoK b h' l g:=by
 cases b
 .let⟨o,a,r⟩:=x;exact⟨o,e o a,r⟩
 .exact Heap.IsList.at x e
def ItK.live(x:ItK b h j l k):∃o n g,h.get? j=!o/\o.cls=.type n/\o.data=.fields g/\(n="list_iterator"\/n="tuple_iterator"):=by
 cases b
 .let⟨o,e,c,d⟩:=x;exact⟨o,_,_,e,c,d,.inr rfl⟩
 .let⟨o,e,c,d⟩:=x;exact⟨o,_,_,e,c,d,.inl rfl⟩
def zj(hit:s.heap.IsTupleIter it t i)(ht:s.heap.IsTuple t its)(hx:its[i]?=!x)(hQ:∀h',h'.IsTupleIter it t (i+1)->Heap.SameBut it s.heap h'->Q x {s with heap:=h'}):wpAny (!7) A (Builtin.SmallTypes.nextOf (.ref it)) Q E s:=by
 let⟨o,ho,hc,hd⟩:=id hit;let⟨ol,hol,_,nl,hdl⟩:=ht;have go:wpAny (!7) A.in1 (Builtin.«tuple_iterator.__next__» ⟨[.ref it],[]⟩) (λfin s'=>∃v,fin=.done (.ret v)/\wpAny (!7) A (pure v) Q E s') E s:=by
  show wpAny _ _ (field (.ref it) 0>>=_) _ _ s;refine Ud (wpAny_field ho hd rfl ?_);refine Ud (wpAny_field ho hd rfl ?_);refine Ud (wpAny_seqItems hol hdl ?_);simp only[Int.toNat_natCast,hx];refine Ud (wpAny_setField ho hd (by simp) (Ug ⟨x,rfl,Ug (hQ _ ⟨_,Heap.get?_update_self _ ho (Obj.isFreed_of_fields (Obj.data_mapFields hd _)),(Obj.cls_mapFields ..).trans hc,?_⟩ (Heap.SameBut.update ..))⟩));rw[Obj.data_mapFields hd];simp[rawInt]
 exact Ud (wpAny_callSpecial?_slot hit.typeIs F.slot_tuple_iterator_next (wpAny_call_entry F.slot_tuple_iterator_next hit.typeIs F.entry_tuple_iterator_next go (F.args_tuple_iterator_next_1 _)))
def qh(hh:A.handled=none)(hit:s.heap.IsTupleIter it t i)(ht:s.heap.IsTuple t its)(hx:its[i]?=none)(hE:∀h' e,Heap.ExtBut it s.heap h'->(∃o,h'.get? e=!o/\o.cls=.type "StopIteration")->E (.ref e) {s with heap:=h'}):wpAny (!7) A (Builtin.SmallTypes.nextOf (.ref it)) Q E s:=by
 let⟨o,ho,hc,hd⟩:=id hit;let⟨ol,hol,_,nl,hdl⟩:=ht;refine Ud (wpAny_callSpecial?_slot hit.typeIs F.slot_tuple_iterator_next (wpAny_call_entry F.slot_tuple_iterator_next hit.typeIs F.entry_tuple_iterator_next ?_ (F.args_tuple_iterator_next_1 _)));show wpAny _ _ (field (.ref it) 0>>=_) _ _ s;refine Ud (wpAny_field ho hd rfl ?_);refine Ud (wpAny_field ho hd rfl ?_);refine Ud (wpAny_seqItems hol hdl ?_);simp only[Int.toNat_natCast,hx];refine Ud (wpAny_rule (Ud (wpAny_setField ho hd (by simp) ?_)));refine Ud ?_;refine Ud (wpAny_newObj_type ?_ (by size_fits));refine Ud (Uu (by first|rfl|(simp only[firstArgMember];rfl)) ?_);refine wpAny_newObj_type ?_ (by size_fits);refine Ud (wpAny_handled ?_);first|rw[show A.in1.handled=none from hh]|rw[hh]
 refine Ud (Ug (wpAny_throw ?_));exact hE _ _ (((Heap.SameBut.update ..).extBut.push _).push _) ⟨_,Ui _ rfl,rfl⟩
def vI(hit:ItK b s.heap it l i)(ht:CoK b s.heap l its)(hx:its[i]?=!x)(hQ:∀h',ItK b h' it l (i+1)->Heap.SameBut it s.heap h'->Q x {s with heap:=h'}):wpAny (!7) A (Builtin.SmallTypes.nextOf (.ref it)) Q E s:=by
 cases b
 .exact zj hit ht hx hQ
 .exact wpAny_nextOf_list_item hit ht hx hQ
def kX(hh:A.handled=none)(hit:ItK b s.heap it l i)(ht:CoK b s.heap l its)(hx:its[i]?=none)(hE:∀h' e,Heap.ExtBut it s.heap h'->(∃o,h'.get? e=!o/\o.cls=.type "StopIteration")->E (.ref e) {s with heap:=h'}):wpAny (!7) A (Builtin.SmallTypes.nextOf (.ref it)) Q E s:=by
 cases b
 .exact qh hh hit ht hx hE
 .exact wpAny_nextOf_list_end hh hit ht hx hE
structure ZA(z TI TO i1 i2:Addr):Prop where
 TIz:TI≠z
 TOz:TO≠z
 i1z:i1≠z
 i2z:i2≠z
 TITO:TI≠TO
 TIi1:TI≠i1
 TIi2:TI≠i2
 TOi1:TO≠i1
 TOi2:TO≠i2
 i12:i1≠i2
structure ZL(z TO i1 i2 l:Addr):Prop where
 z:l≠z
 TO:l≠TO
 i1:l≠i1
 i2:l≠i2
structure ZSt(b c:Bool)(z TI TO i1 i2 l1 l2:Addr)(f0:Value)(k:Nat)(h:Heap):Prop where
 ap:ZA z TI TO i1 i2
 hz:IsZip h z TI TO f0
 hI:IsPair h TI (.ref i1) (.ref i2)
 hO:∃a d,IsPair h TO a d
 h1:ItK b h i1 l1 k
 h2:ItK c h i2 l2 k
def ItK.ext(x:ItK b h g l k)(e:Heap.SameBut c h h')(j:g≠c):ItK b h' g l k:=x.at λo q=>e.extBut _ _ j q
def CoK.ext(x:CoK b h l g)(e:Heap.SameBut c h h')(j:l≠c):CoK b h' l g:=x.at λo q=>e.extBut _ _ j q
def zk{prog:Program}{w:World}{A:Around}{E:TX}{s:Shared}{z TI TO t r l1 l2}(Z:ZSt b c z TI TO t r l1 l2 .none k s.heap)(L1:ZL z TO t r l1)(L2:ZL z TO t r l2)(c1:CoK b s.heap l1 xs)(c2:CoK c s.heap l2 ys)(hx:xs[k]?=!x)(hy:ys[k]?=!y)(hQ:∀h',ZSt b c z TI TO t r l1 l2 (rawInt s.heap.objs.size) (k+1) h'->IsPair h' s.heap.objs.size x y->h'.objs.size=s.heap.objs.size+1->
   (∀d o,d≠z->d≠TO->d≠t->d≠r->s.heap.get? d=!o->h'.get? d=!o)->Q (!(.ref s.heap.objs.size)) {s with heap:=h'}):wpAny (!7) A (pyNext (.ref z)) Q E s:=by
 let⟨D,C,hI,⟨a0,d0,hO⟩,h1,h2⟩:=Z
 have hT:s.TypeIs (.ref z) "zip":=⟨_,C,rfl⟩
 have go:wpAny (!7) A.in1 (Builtin.«zip.__next__» ⟨[.ref z],[]⟩) (λfin s'=>∃v,fin=.done (.ret v)/\Q (!v) s') (λe s'=>False) s:=by
  show wpAny _ _ (field (.ref z) 2>>=_) _ _ _;refine Ud (wpAny_field C rfl (x:=.bool false) rfl ?_);refine Ud (wpAny_field C rfl rfl (Ud (wpAny_seqItems hI rfl ?_)));refine Ud ?_;refine Ud (wpAny_field C rfl rfl (Ug ?_));refine Ud (wpAny_rule (Ud (wpAny_field C rfl rfl (Ud (wpAny_setField_rec C (by simp) λg1 z1 g=>?_)))));replace z1:IsZip g1 z TI TO .ellipsis:=z1;refine Ud ?_;simp only[List.zipIdx_cons,List.zipIdx_nil,List.forIn_cons,List.forIn_nil];refine Ud (Ud (wpAny_onRaise ?_));refine Ud (vI (h1.ext g D.i1z) (c1.ext g L1.z) hx λg2 k2 p=>Ug ?_);have O2:=p.extBut _ _ D.TOi1 (g.extBut _ _ D.TOz hO);refine Ud (wpAny_seqItems O2 rfl (Ud (wpAny_updateSeq_pair O2 λg3 O3 l=>Ud (wpAny_letGo (Ug ?_)))));replace O3:IsPair g3 TO x d0:=O3;refine Ud (Ud (wpAny_onRaise ?_));refine Ud (vI (((h2.ext g D.i2z).ext p D.i12.symm).ext l D.TOi2.symm) (((c2.ext g L2.z).ext p L2.i1).ext l L2.TO) hy λg4 k4 U=>Ug ?_);have O4:=U.extBut _ _ D.TOi2 O3;refine Ud (wpAny_seqItems O4 rfl (Ud (wpAny_updateSeq_pair O4 λg5 O5 s5=>Ud (wpAny_letGo (Ug (Ug ?_))))));replace O5:IsPair g5 TO x y:=O5;refine Ud (wpAny_seqItems O5 rfl (Ud (wpAny_newTuple ?_)));have sz:g5.objs.size=s.heap.objs.size:=by rw[s5.1,U.1,l.1,p.1,g.1]
  have z5:=s5.extBut _ _ D.TOz.symm (U.extBut _ _ D.i2z.symm (l.extBut _ _ D.TOz.symm (p.extBut _ _ D.i1z.symm z1)));have J:∀d o,d≠z->d≠TO->d≠t->d≠r->s.heap.get? d=!o->g5.get? d=!o:=λd o j n2 n3 n4 e=>
   s5.extBut _ _ n2 (U.extBut _ _ n4 (l.extBut _ _ n2 (p.extBut _ _ n3 (g.extBut _ _ j e))))
  have a5:=((k2.ext l D.TOi1.symm).ext U D.i12).ext s5 D.TOi1.symm;have b5:=k4.ext s5 D.TOi2.symm;have I:=Uh z5;refine Ud ?_;have z6:IsZip (g5.push {cls:=.type "tuple",data:=.seq #[x,y]}) z TI TO .ellipsis:=Ue _ z5;refine Ud (wpAny_setField_rec z6 (by simp) λg7 z7 s7=>?_);replace z7:IsZip g7 z TI TO (rawInt g5.objs.size):=z7;refine wpAny_setField_rec z7 (by simp) λg8 z8 s8=>?_;replace z8:IsZip g8 z TI TO _:=z8;have up:∀d o,d≠z->g5.get? d=!o->g8.get? d=!o:=λd o j e=>s8.extBut _ _ j (s7.extBut _ _ j (Ue _ e));have T8:=s8.extBut _ _ (Nat.ne_of_gt I) (s7.extBut _ _ (Nat.ne_of_gt I) (Ui _ rfl));have T:g8.objs.size=g5.objs.size+1:=by rw[s8.1,s7.1,Heap.size_push]
  rw[sz]at z8 T8 T;refine Ug ⟨_,rfl,?_⟩;rw[sz];exact hQ g8 ⟨D,z8,up _ _ D.TIz (J _ _ D.TIz D.TITO D.TIi1 D.TIi2 hI),⟨_,_,up _ _ D.TOz O5⟩,a5.at λo e=>up _ o D.i1z e,b5.at λo e=>up _ o D.i2z e⟩ T8 T λd o j n2 n3 n4 e=>up d o j (J d o j n2 n3 n4 e)
 refine Ud (wpAny_attempt (wpAny_callSpecial?_slot hT F.slot_zip_next (wpAny_call_entry F.slot_zip_next hT F.entry_zip_next (UC go (λfin s' ⟨v,e,q⟩=>⟨v,e,Ug q⟩) λ_ _ q=>q.elim) (F.args_zip_next_1 _))))
section
variable{prog:Program}{w:World}{A:Around}{E:TX}{s:Shared}
def zm{z TI TO T J l1 l2}(hh:A.handled=none)(Z:ZSt b c z TI TO T J l1 l2 .none k s.heap)(L1:ZL z TO T J l1)(L2:ZL z TO T J l2)(c1:CoK b s.heap l1 xs)(c2:CoK c s.heap l2 ys)(U:xs[k]?=none\/ys[k]?=none)(hQ:∀h',(∀d o,d≠z->d≠TO->d≠T->d≠J->s.heap.get? d=!o->h'.get? d=!o)->Q none {s with heap:=h'}):wpAny (!7) A (pyNext (.ref z)) Q E s:=by
 let⟨D,C,hI,⟨a0,d0,hO⟩,h1,h2⟩:=Z;have hT:s.TypeIs (.ref z) "zip":=⟨_,C,rfl⟩;let EE:TX:=λe s'=>∃h' a,e=.ref a/\s'={s with heap:=h'}/\(∀d o,d≠z->d≠TO->d≠T->d≠J->s.heap.get? d=!o->h'.get? d=!o)/\∃o,h'.get? a=!o/\o.cls=.type "StopIteration";have go:wpAny (!7) A.in1 (Builtin.«zip.__next__» ⟨[.ref z],[]⟩) (λfin s'=>False) EE s:=by
  show wpAny _ _ (field (.ref z) 2>>=_) _ _ _;refine Ud (wpAny_field C rfl (x:=.bool false) rfl ?_);refine Ud (wpAny_field C rfl rfl (Ud (wpAny_seqItems hI rfl ?_)));refine Ud ?_;refine Ud (wpAny_field C rfl rfl (Ug ?_));refine Ud (wpAny_rule (Ud (wpAny_field C rfl rfl (Ud (wpAny_setField_rec C (by simp) λg1 z1 l=>?_)))));replace z1:IsZip g1 z TI TO .ellipsis:=z1;refine Ud ?_;simp only[List.zipIdx_cons,List.zipIdx_nil,List.forIn_cons,List.forIn_nil];refine Ud (Ud (wpAny_onRaise ?_));cases hx:xs[k]? with
  |none=>
   refine Ud (kX hh (h1.ext l D.i1z) (c1.ext l L1.z) hx λg2 e p he=>?_);let⟨oe,g,j⟩:=he;have z2:=p _ _ D.i1z.symm z1;have t:e≠z:=λq=>by subst q;rw[z2]at g;cases g;simp at j
   refine wpAny_setField_rec z2 (by simp) λg3 _ r=>?_;exact⟨g3,e,rfl,rfl,λd o I _ n3 _ q=>r.extBut _ _ I (p _ _ n3 (l.extBut _ _ I q)),oe,r.extBut _ _ t g,j⟩
  |some x=>
   have hy:ys[k]?=none:=by
    rcases U with h|h
    .rw[hx]at h;cases h
    .exact h
   refine Ud (vI (h1.ext l D.i1z) (c1.ext l L1.z) hx λg2 k2 p=>Ug ?_);have O2:=p.extBut _ _ D.TOi1 (l.extBut _ _ D.TOz hO);refine Ud (wpAny_seqItems O2 rfl (Ud (wpAny_updateSeq_pair O2 λg3 O3 r=>Ud (wpAny_letGo (Ug ?_)))));refine Ud (Ud (wpAny_onRaise ?_));refine Ud (kX hh (((h2.ext l D.i2z).ext p D.i12.symm).ext r D.TOi2.symm) (((c2.ext l L2.z).ext p L2.i1).ext r L2.TO) hy λg4 e s4 he=>?_);let⟨oe,g,j⟩:=he;have z4:=s4 _ _ D.i2z.symm (r.extBut _ _ D.TOz.symm (p.extBut _ _ D.i1z.symm z1));have t:e≠z:=λq=>by subst q;rw[z4]at g;cases g;simp at j
   refine wpAny_setField_rec z4 (by simp) λg5 _ s5=>?_;exact⟨g5,e,rfl,rfl,λd o I n2 n3 n4 q=>s5.extBut _ _ I (s4 _ _ n4 (r.extBut _ _ n2 (p.extBut _ _ n3 (l.extBut _ _ I q)))),oe,s5.extBut _ _ t g,j⟩
 refine Ud (wpAny_attempt (wpAny_callSpecial?_slot hT F.slot_zip_next (wpAny_call_entry F.slot_zip_next hT F.entry_zip_next (UC go (λ_ _ q=>q.elim) λe s' q=>?_) (F.args_zip_next_1 _))));let⟨h',a,rfl,rfl,hk,o,ho,hc⟩:=q;exact Ud (wpAny_isInstance ⟨o,ho,hc⟩ isSubtype_stop (Ug (hQ _ hk)))
def  aN:Bool->Addr->Obj
 |true,l=>{cls:=.type "list_iterator",data:=.fields #[.ref l,.int 0 0]}
 |false,l=>{cls:=.type "tuple_iterator",data:=.fields #[.ref l,.int 0 0]}
def rY(h:CoK b s.heap l its)(hQ:Q (.ref s.heap.objs.size) {s with heap:=s.heap.push (aN b l)}):wpAny (!7) A (pyIter (.ref l)) Q E s:=by
 cases b
 .exact wpAny_pyIter_tuple h hQ
 .exact wpAny_pyIter_list h hQ
abbrev zG(h:Heap)(b c:Bool)(l1 l2:Addr):Heap:=((((h.push (aN b l1)).push (aN c l2)).push {cls:=.type "tuple",data:=.seq #[.ref h.objs.size,.ref (h.push (aN b l1)).objs.size]}).push {cls:=.type "tuple",data:=.seq #[.none,.none]}).push
 {cls:=.type "zip",data:=.fields #[.none,.bool false,.bool false,.ref ((h.push (aN b l1)).push (aN c l2)).objs.size,.ref (((h.push (aN b l1)).push (aN c l2)).push {cls:=.type "tuple",data:=.seq #[.ref h.objs.size,.ref (h.push (aN b l1)).objs.size]}).objs.size]}
def zn(b c:Bool)(l1 l2:Addr)(xs ys:T7):
  Meets (Builtin.«zip.__new__» ⟨[.type "zip",.ref l1,.ref l2],[]⟩) (λ_ R s=>CoK b s.heap l1 xs/\CoK c s.heap l2 ys/\
   R (.ok (.ret (.ref (s.heap.objs.size+4)))) {s with heap:=zG s.heap b c l1 l2}):=
 .of_wp λprog w A R s h=>by
  let⟨hp,g,d,tk,os⟩:=s;let⟨hl1,hl2,h⟩:=h;have hsub:=sub_zip;have hL1:CoK b (Shared.heap ⟨hp,g,d,tk,os⟩) l1 xs:=hl1;have hL2:CoK c (Shared.heap ⟨hp.push (aN b l1),g,d,tk,os⟩) l2 ys:=CoK.at hl2 λo e=>Ue _ e;wp_walk using rY hL1,rY hL2;refine⟨_,rfl,?_⟩;have z4:((((hp.push (aN b l1)).push (aN c l2)).push {cls:=.type "tuple",data:=.seq #[.ref hp.objs.size,.ref (hp.push (aN b l1)).objs.size]}).push {cls:=.type "tuple",data:=.seq #[.none,.none]}).objs.size=hp.objs.size+4:=by
   rw[Heap.size_push,Heap.size_push,Heap.size_push,Heap.size_push]
  rw[<-z4]at h;exact h
def xv(J:CoK b s.heap g xs)(I:CoK c s.heap j ys)(h:∀h',ZSt b c (s.heap.objs.size+4) (s.heap.objs.size+2) (s.heap.objs.size+3) s.heap.objs.size (s.heap.objs.size+1) g j .none 0 h'->h'.objs.size=s.heap.objs.size+5->
   (∀d o,s.heap.get? d=!o->h'.get? d=!o)->Q (.ref (s.heap.objs.size+4)) {s with heap:=h'}):
  wpAny (!7) A (call (.type "zip") [.ref g,.ref j]) Q E s:=by
 refine callType_new F.called_zip (!4) (F.typeCall_zip_2 _ _) (F.newCall_zip_2 _ _) (λobj=>F.args_object_init_3 obj _ _) F.entry_zip_new (zn b c g j xs ys) ⟨J,I,?_⟩
 have C:(s.heap.push (aN b g)).objs.size=s.heap.objs.size+1:=Heap.size_push ..
 have t:((s.heap.push (aN b g)).push (aN c j)).objs.size=s.heap.objs.size+2:=by rw[Heap.size_push,C]
 have r:(((s.heap.push (aN b g)).push (aN c j)).push {cls:=.type "tuple",data:=.seq #[.ref s.heap.objs.size,.ref (s.heap.push (aN b g)).objs.size]}).objs.size=s.heap.objs.size+3:=by rw[Heap.size_push,t]
 have U:((((s.heap.push (aN b g)).push (aN c j)).push {cls:=.type "tuple",data:=.seq #[.ref s.heap.objs.size,.ref (s.heap.push (aN b g)).objs.size]}).push {cls:=.type "tuple",data:=.seq #[.none,.none]}).objs.size=s.heap.objs.size+4:=by rw[Heap.size_push,r]
 have z5:(zG s.heap b c g j).objs.size=s.heap.objs.size+5:=by rw[Heap.size_push,U]
 have g5:IsZip (zG s.heap b c g j) (s.heap.objs.size+4) (s.heap.objs.size+2) (s.heap.objs.size+3) .none:=by
  have:=Ui ((((s.heap.push (aN b g)).push (aN c j)).push {cls:=.type "tuple",data:=.seq #[.ref s.heap.objs.size,.ref (s.heap.push (aN b g)).objs.size]}).push {cls:=.type "tuple",data:=.seq #[.none,.none]})
   (o:={cls:=.type "zip",data:=.fields #[.none,.bool false,.bool false,.ref ((s.heap.push (aN b g)).push (aN c j)).objs.size,.ref (((s.heap.push (aN b g)).push (aN c j)).push {cls:=.type "tuple",data:=.seq #[.ref s.heap.objs.size,.ref (s.heap.push (aN b g)).objs.size]}).objs.size]}) rfl
  rw[U]at this;rw[<-t,<-r];exact this
 have g4:IsPair (zG s.heap b c g j) (s.heap.objs.size+3) .none .none:=by
  have:=Ui (((s.heap.push (aN b g)).push (aN c j)).push {cls:=.type "tuple",data:=.seq #[.ref s.heap.objs.size,.ref (s.heap.push (aN b g)).objs.size]}) (o:={cls:=.type "tuple",data:=.seq #[.none,.none]}) rfl;rw[r]at this;exact Ue _ this
 have g3:IsPair (zG s.heap b c g j) (s.heap.objs.size+2) (.ref s.heap.objs.size) (.ref (s.heap.objs.size+1)):=by
  have:=Ui ((s.heap.push (aN b g)).push (aN c j)) (o:={cls:=.type "tuple",data:=.seq #[.ref s.heap.objs.size,.ref (s.heap.push (aN b g)).objs.size]}) rfl;rw[t]at this;rw[<-C];exact Ue _ (Ue _ this)
 have fr:∀o,o.isFreed=false->∀(T:Heap),(T.push o).get? T.objs.size=!o:=λo ho T=>Ui _ ho
 have fb:∀(b:Bool)(l:Addr),(aN b l).isFreed=false:=λb l=>by cases b<;>rfl
 have g2:(zG s.heap b c g j).get? (s.heap.objs.size+1)=!(aN c j):=by rw[<-C];exact Ue _ (Ue _ (Ue _ (fr _ (fb c j) _)))
 have g1:(zG s.heap b c g j).get? s.heap.objs.size=!_:=Ue _ (Ue _ (Ue _ (Ue _ (fr _ (fb b g) _))))
 have p:∀(d:Bool)(a l:Addr)(G:Heap),G.get? a=!(aN d l)->ItK d G a l 0:=λd a l G e=>by cases d<;>exact⟨_,e,rfl,rfl⟩
 refine⟨⟨_,g5,rfl⟩,h _ ⟨⟨?_,?_,?_,?_,?_,?_,?_,?_,?_,?_⟩,g5,g3,⟨_,_,g4⟩,p b _ _ _ g1,p c _ _ _ g2⟩ z5 λd o x=>Ue _ (Ue _ (Ue _ (Ue _ (Ue _ x))))⟩
 all_goals (show(_:Nat)≠_;omega)
end
section
variable{X:Cx}{pins:TU}{σ:List (Option V)}{H:Hp}{s:Shared}{h':Heap}
def m6{g:List Addr}(I:Inv X pins σ H s)(l:∀b∈g,H b=none)(k:∀b o,b ∉ g->s.heap.get? b=!o->h'.get? b=!o):HOk X.prog X.w H h':=λb u e=>by
 have j:∀b u,H b=!u->b ∉ g:=λb u e z=>by rw[l b z]at e;cases e
 refine(I.hok b u e).stay (λc v p q=>k c v ?_ q) (λ_ q=>q) λ_ _ q=>q;grind
def FH{g:List Addr}(j:∀b∈g,jI X pins H b):∀b∈g,(b∈X.ex\/X.s₀.heap.objs.size<=b)/\b≠X.env.locals/\(∀x c,X.env.cells.lookup x=!c->c≠b)/\∀p∈X.pn++pins,p.1≠b:=λb l=>by
 let⟨C,f1,f2,t,r,o⟩:=j b l;grind
def Inv.turnedL{ch:List Addr}(I:Inv X pins σ H s)(hf:∀b∈ch,jI X pins H b)(k:∀b o,b ∉ ch->s.heap.get? b=!o->h'.get? b=!o):Inv X pins σ H {s with heap:=h',toks:=t'}:=by
 refine I.step (FH hf) (λb o _ _ hc e _=>k b o hc e) (λb o _ _ hc e _=>⟨o.slots,k b o hc e⟩) (λ_ _ _ _ n=>n)
  (λb o hc e=>⟨o,k b o hc e⟩) (λ_ _ e=>e) (λ_ _ _ e=>e) (λb ps e=>⟨#[],by rw[e];simp⟩) (λm hm=>?_) (m6 I (λb hb=>(hf b hb).1) k) I.bare
 let⟨o,es,ep,ho,r⟩:=hm;exact⟨o,es,ep,k _ o (λz=>(hf _ z).2.1 rfl) ho,r⟩
def Inv.turnedNew{ch:List Addr}{p:Addr}(I:Inv X pins σ H s)(hf:∀b∈ch,jI X pins H b)(k:∀b o,b ∉ ch->s.heap.get? b=!o->h'.get? b=!o)(hp:s.heap.objs.size<=p)(new:ObjOk X.prog X.w (upd H p o) h' p o):Inv X pins σ (upd H p o) {s with heap:=h',toks:=t'}:=by
 have hn:=I.hok.fresh hp;have lt:∀b o,s.heap.get? b=!o->b≠p:=λb o e=>Us (Up (Uh e) hp);have keep:∀b u,H b=!u->upd H p o b=!u:=λb u e=>by rw[al (aG e hn)];exact e
 refine I.step (FH hf) (λb o _ _ hc e _=>k b o hc e) (λb o _ _ hc e _=>⟨o.slots,k b o hc e⟩) (λb o _ e n=>by rw[al (lt b o e)];exact n)
  (λb o hc e=>⟨o,k b o hc e⟩) (λb xs e=>keep b _ e) (λb o u e=>keep b _ e) (λb ps e=>⟨#[],by rw[keep b _ e];simp⟩) (λm hm=>?_) ((m6 I (λb hb=>(hf b hb).1) k).adopt hn new) I.bare
 let⟨o,es,ep,ho,r⟩:=hm;exact⟨o,es,ep,k _ o (λz=>(hf _ z).2.1 rfl) ho,r⟩
def  SqK(b:Bool)(K:Frag)(H:Hp)(a:Addr)(xs:List V):Prop:=if b=true then SqL K H a xs else SqT K H a xs
def Inv.coK(I:Inv X pins σ H s)(h:SqK b X.K H a xs):∃g:TY,Vals xs g/\CoK b s.heap a g.toArray/\xs.length<=sizeLine:=by
 cases b
 .let⟨g,r,t,z⟩:=I.tuple (h);exact⟨g,r,t,z⟩
 .let⟨g,r,t,z⟩:=I.list (h);exact⟨g,r,t.isList,z⟩
def Inv.coK_inj(I:Inv X pins σ H s)(h:SqK b X.K H a xs)(h':SqK b X.K H a ys):xs=ys:=by
 cases b
 .exact I.tuple_inj h h'
 .exact I.list_inj h h'
end
def  PN(K:Frag)(b c:Bool)(l1 l2:Addr):It:=
 ⟨λi H=>∃xs ys x y,SqK b K H l1 xs/\SqK c K H l2 ys/\xs[i]?=!x/\ys[i]?=!y,
  λi H v H'=>∃p x y,v=.ref p/\H p=none/\H'=upd H p (.tup [x,y])/\(∀xs,SqK b K H l1 xs->xs[i]?=!x)/\∀ys,SqK c K H l2 ys->ys[i]?=!y,
  λi H=>∃xs ys,SqK b K H l1 xs/\SqK c K H l2 ys/\(xs.length<=i\/ys.length<=i)⟩
def CoK.get(x:CoK b h l g):∃o,h.get? l=!o/\∃n,o.data=.seq g n:=by
 cases b
 .let⟨o,e,_,n,d⟩:=x;exact⟨o,e,n,d⟩
 .let⟨o,e,_,n,d⟩:=x;exact⟨o,e,n,d⟩
def vJ{z TI TO r p J I l}(Z:ZSt b c z TI TO r p J I f0 k h)(C:CoK d h l T)(U:l≠TO):ZL z TO r p l:=by
 let⟨o,e,n,q⟩:=C.get;refine⟨λy=>?_,U,λy=>?_,λy=>?_⟩
 .subst y;rw[Z.hz]at e;cases e;cases q
 .subst y;let⟨o',_,t,g,_,j,_⟩:=Z.h1.live;rw[g]at e;cases e;rw[j]at q;cases q
 .subst y;let⟨o',_,t,g,_,j,_⟩:=Z.h2.live;rw[g]at e;cases e;rw[j]at q;cases q
def zo{P:Program}{w:World}{K:Frag}{J:Ua}{x1:Nat}{tpos:Pos}(b c:Bool)(l1 U z TI TO t r:Addr)(n1:l1≠TO)(n2:U≠TO):
  Turn P w K (.Tuple J x1 tpos) (PN K b c l1 U) [z,TI,TO,t,r] z (λi h=>ZSt b c z TI TO t r l1 U .none i h) where
 mem:=by simp
 obj:=λi h Z d hd=>by
  simp at hd;rcases hd with rfl|rfl|rfl|rfl|rfl
  .exact⟨_,Z.hz,λv q=>by cases q⟩
  .exact⟨_,Z.hI,λv q=>by cases q⟩
  .let⟨a,d,e⟩:=Z.hO;exact⟨_,e,λv q=>by cases q⟩
  .let⟨o,n,vs,e,_,dd,_⟩:=Z.h1.live;exact⟨o,e,λv q=>by rw[dd]at q;cases q⟩
  .let⟨o,n,vs,e,_,dd,_⟩:=Z.h2.live;exact⟨o,e,λv q=>by rw[dd]at q;cases q⟩
 keep:=λi h h' Z k=>by
  let⟨a,d,e⟩:=Z.hO;exact⟨Z.ap,k z (by simp) _ Z.hz,k TI (by simp) _ Z.hI,⟨a,d,k TO (by simp) _ e⟩,Z.h1.at λo q=>k t (by simp) o q,Z.h2.at λo q=>k r (by simp) o q⟩
 item:=by
  intro X hP hw hK hc i pins s σ H E I hf Z hg;subst hP hw hK;let⟨xs,ys,x,y,hx,hy,ex,ey⟩:=hg;let⟨its,rv,p,hz1⟩:=I.coK hx;let⟨jts,g,p2,hz2⟩:=I.coK hy;let⟨u,hu,ru⟩:=rv.get ex;let⟨v,hv,rv'⟩:=g.get ey;have L1:=vJ Z p n1;have L2:=vJ Z p2 n2;refine zk Z L1 L2 p p2 (by simpa using hu) (by simpa using hv) λh' T T' sz k'=>⟨_,rfl,?_⟩;refine wpAny_letOwnedTupleGo_zip T.hz λh2 C l=>?_;have zlt:=Uh Z.hz;have hne:=Nat.ne_of_gt zlt;have Z2:ZSt b c z TI TO t r l1 U .none (i+1) h2:=by
   let⟨a,d,e⟩:=T.hO;exact⟨Z.ap,C,l.extBut _ _ Z.ap.TIz T.hI,⟨a,d,l.extBut _ _ Z.ap.TOz e⟩,T.h1.at λo q=>l.extBut _ _ Z.ap.i1z q,T.h2.at λo q=>l.extBut _ _ Z.ap.i2z q⟩
  have T2:=l.extBut _ _ hne T';have kk:∀d o,d ∉ [z,TI,TO,t,r]->s.heap.get? d=!o->h2.get? d=!o:=λd o hd e=>by
   simp at hd;exact l.extBut _ _ hd.1 (k' d o hd.1 hd.2.2.1 hd.2.2.2.1 hd.2.2.2.2 e)
  have fr:=I.hok.fresh (UB _);refine⟨.ref s.heap.objs.size,_,I.turnedNew hf kk (UB _) ?_,rfl,⟨s.heap.objs.size,x,y,rfl,fr,rfl,λzs j=>by rw[I.coK_inj j hx];exact ex,λzs j=>by rw[I.coK_inj j hy];exact ey⟩,Z2,λd hd=>?_⟩
  .exact⟨by show 2<=sizeLine;decide,[u,v],.cons ru (.cons rv' .nil),⟨_,T2,rfl,_,rfl⟩⟩
  .obtain⟨o,eo,_⟩:∃o,s.heap.get? d=!o/\True:=by
    simp at hd;rcases hd with rfl|rfl|rfl|rfl|rfl
    .exact⟨_,Z.hz,trivial⟩
    .exact⟨_,Z.hI,trivial⟩
    .let⟨a,d,e⟩:=Z.hO;exact⟨_,e,trivial⟩
    .let⟨o,n,vs,e,_⟩:=Z.h1.live;exact⟨_,e,trivial⟩
    .let⟨o,n,vs,e,_⟩:=Z.h2.live;exact⟨_,e,trivial⟩
   rw[al (Nat.ne_of_lt (Heap.lt_size eo))];exact(hf d hd).1
 done:=by
  intro X hP hw hK hc i pins s σ H E I hf Z hg;subst hP hw hK;let⟨xs,ys,hx,hy,hl⟩:=hg;let⟨its,rv,p,hz1⟩:=I.coK hx;let⟨jts,g,p2,hz2⟩:=I.coK hy;have e1:=rv.length;have e2:=g.length;refine zm (I.ok.hd hc) Z (vJ Z p n1) (vJ Z p2 n2) p p2 ?_ λh' k'=>⟨rfl,I.turnedL hf λd o hd e=>?_⟩
  .rcases hl with hl|hl
   .exact .inl (by simp;omega)
   .exact .inr (by simp;omega)
  .simp at hd;exact k' d o hd.1 hd.2.2.1 hd.2.2.2.1 hd.2.2.2.2 e
 self:=λ_ _ _ _ _ Z h=>wpAny_pyIter_zip Z.hz h
section
variable{X:Cx}{tg a b e:Expr}{es:Ua}{p pos:Pos}
def Md:bootBuiltins "zip"=!(.type "zip"):=by decide+kernel
def  PV(K:Frag)(ta:TA):TI:=λσ H R=>ta σ H λvs H1=>∃b c l1 l2 xs ys,vs=[.ref l1,.ref l2]/\SqK b K H1 l1 xs/\SqK c K H1 l2 ys/\R (PN K b c l1 l2) H1
def HQ{x1}(hg:Gl X "zip")(hm:X.mg "zip"=none)(ha:PA X [a,b] ta)(hs:starEach [a,b] X.env=[(false,eval a X.env),(false,eval b X.env)])(hs2:starEach [b] X.env=[(false,eval b X.env)]):
  PI X (.Tuple elts x1 tpos) (.Call (.Name "zip" p) [a,b] [] pos) (PV X.K ta):=by
 intro pins s σ H R I h
 refine Call_ (db I hg hm Md (PyProof.Rows.callWith_type1 (bu (ha pos pins s σ H _ I h) λus s1 ⟨vs,H1,I1,r1,q1⟩=>?_) (by rw[hs,hs2]) (by rw[hs2];rfl)))
 let⟨b,c,l1,l2,xs,ys,e,hx,hy,q⟩:=q1
 subst e
 let⟨u,v,rfl,ru,rv⟩:=mJ r1
 cases ru
 cases rv
 let⟨its,rx,p1,_⟩:=I1.coK hx
 let⟨jts,ry,p2,_⟩:=I1.coK hy
 have lt:∀{d:Bool}{l:Addr}{its:T7},CoK d s1.heap l its->l<s1.heap.objs.size:=λC=>by let⟨o,e,_⟩:=C.get;exact Uh e
 refine xv p1 p2 λh' Z sz k=>wpAny_pyIter_zip Z.hz ?_
 have I2:Inv X pins σ H1 {s1 with heap:=h'}:=I1.kept k
 refine⟨s1.heap.objs.size+4,[s1.heap.objs.size+4,s1.heap.objs.size+2,s1.heap.objs.size+3,s1.heap.objs.size,s1.heap.objs.size+1],_,_,H1,rfl,I2,zo b c l1 l2 _ _ _ _ _ ?_ ?_,Z,λd hd=>?_,q⟩
 .exact Us (Up (lt p1) (Nat.le_add_right _ _))
 .exact Us (Up (lt p2) (Nat.le_add_right _ _))
 .have hge:s1.heap.objs.size<=d:=by
   simp at hd;rcases hd with rfl|rfl|rfl|rfl|rfl<;>first|exact Nat.le_add_right _ _|exact UB _
  exact I1.fpOk hge (I1.hok.fresh hge)
noncomputable def  ia(xs ys:T9):T9:=(xs.zip ys).map λp=>.tup [p.1,p.2]
def SqK.mono{b}{K}(s:Same H H')(h:SqK b K H l xs):SqK b K H' l xs:=by
 cases b
 .exact s.seqT h
 .exact s.seq h
def zr{K}{b c}{ds es}(hx:SqK b K l T xs)(hy:SqK c K l J ys)(C:IsL K l ds xs)(t:IsL K l es ys):m5 K l (PN K b c T J) (ia ds es):=λi H O s hd=>by
 have j:=hx.mono (s.trans msk_le);have g:=hy.mono (s.trans msk_le);refine⟨λd hi=>?_,λhi=>⟨xs,ys,j,g,?_⟩⟩
 .unfold ia at hi;rw[getElem?_map]at hi;cases e:(ds.zip es)[i]? with
  |none=>rw[e]at hi;cases hi
  |some pr=>
   rw[e]at hi;cases hi;let⟨e1,e2⟩:=List.getElem?_zip_eq_some.mp e;let⟨x,ex,ix⟩:=C.get e1;let⟨y,I,iy⟩:=t.get e2;refine⟨⟨xs,ys,x,y,j,g,ex,I⟩,?_⟩;rintro v H3 ⟨q,x',y',rfl,o,rfl,U,ky⟩;have r:=U xs j;have p:=ky ys g;rw[ex]at r;cases r;rw[I]at p;cases p;have hO:=fZ hd o;refine⟨Same.new o,q,[x,y],rfl,.of (by rw[aO hO,ak]),?_⟩;have le:Same (msk O H) (msk O (upd H q (.tup [x,y]))):=(Same.new o).msk;exact⟨x,[y],rfl,Is.mono (s.trans le) _ _ ix,y,[],rfl,Is.mono (s.trans le) _ _ iy,rfl⟩
 .have h1:=C.len;have h2:=t.len;unfold ia at hi;rw[length_map,List.length_zip]at hi;omega
def  xw:T9->TV:=KW λc d=>(seqD c).bind λxs=>(seqD d).bind λys=>!(ia xs ys)
def uq{K}(h:SqL K H l xs\/SqT K H l xs):∃b,SqK b K H l xs:=by
 rcases h with h|h
 .exact⟨true,h⟩
 .exact⟨false,h⟩
def HR{x1}(hg:Gl X "zip")(hm:X.mg "zip"=none)(ha:PX X [a,b] fa)(hs:starEach [a,b] X.env=[(false,eval a X.env),(false,eval b X.env)])(l:starEach [b] X.env=[(false,eval b X.env)]):
  PJ X (.Tuple o x1 tpos) (.Call (.Name "zip" p) [a,b] [] pos) (λY=>(fa Y).bind xw):=λO Y=>(HQ hg hm (ha O Y) hs l).imp λσ H R ⟨E,ds,q,k⟩=>by
 let⟨as,e1,q⟩:=UD q
 refine⟨E,as,e1,λvs H1 C il=>?_⟩
 let⟨c,d,rfl,q1⟩:=ki q
 let⟨xs,U,T⟩:=UD q1
 let⟨ys,J,I⟩:=UD T
 cases I
 let⟨u,v,rfl,iu,iv⟩:=Oj il
 let⟨l1,t,rfl,j,m1⟩:=gx U iu
 let⟨l2,r,rfl,g,m2⟩:=gx J iv
 let⟨b1,j⟩:=uq j
 let⟨b2,g⟩:=uq g
 exact⟨b1,b2,l1,l2,t,r,rfl,j.mono msk_le,g.mono msk_le,k _ H1 C (zr j g m1 m2)⟩
noncomputable def  zt:D->Ub
 |.int i=>!(.int (-i))
 |_=>none
def HU(l:PP X a fa):PP X (.UnaryOp .USub a pos) (λY=>(fa Y).bind zt):=λO Y=>(Lm Hb (l O Y)).imp λσ H Q ⟨E,d,q,k⟩=>by
 let⟨c,o,e2⟩:=UD q;refine⟨E,c,o,λv H1 g j=>?_⟩;cases c with
 |int i=>cases e2;exact⟨i,j,k _ H1 g rfl⟩
 |_=>cases e2
def b_max:bootBuiltins "max"=!(.builtin "max"):=by decide+kernel
def b_min:bootBuiltins "min"=!(.builtin "min"):=by decide+kernel
def  HV:T9->Ub:=KW λc d=>(kS c).bind λi=>(kS d).bind λj=>!(.int (if j>i then j else i))
def  HW:T9->Ub:=KW λc d=>(kS c).bind λi=>(kS d).bind λj=>!(.int (if j<i then j else i))
def rn_max:Cq X.K (λxs H Q=>∃i j,xs=[.int i,.int j]/\Q (.int (if j>i then j else i)) H) HV:=λO H xs ds d Q hd l e k=>by
 let⟨c,c',rfl,e⟩:=ki e;let⟨i,e1,e⟩:=UD e;let⟨j,e2,e⟩:=UD e;cases e;let⟨u,v,rfl,iu,iv⟩:=Oj l;cases intD_some e1;cases intD_some e2;exact⟨i,j,by rw[show u=.int i from iu,show v=.int j from iv],k _ H (Same.refl _) rfl⟩
def rn_min:Cq X.K (λxs H Q=>∃i j,xs=[.int i,.int j]/\Q (.int (if j<i then j else i)) H) HW:=λO H xs ds d Q hd l e k=>by
 let⟨c,r,rfl,e⟩:=ki e;let⟨i,p,e⟩:=UD e;let⟨j,e2,e⟩:=UD e;cases e;let⟨u,v,rfl,o,g⟩:=Oj l;cases intD_some p;cases intD_some e2;exact⟨i,j,by rw[show u=.int i from o,show v=.int j from g],k _ H (Same.refl _) rfl⟩
noncomputable def  HX:D->Bool
 |.non=>true
 |_=>false
def vK{K}(h:Is K H d v):decide (v=.non)=HX d:=by
 cases d with
 |non=>cases(h);rfl
 |bl _=>cases(h);rfl
 |int _=>cases(h);rfl
 |str _=>cases(h);rfl
 |ty _=>cases(h);rfl
 |adr _=>cases(h);rfl
 |tup _=>let⟨a,xs,rfl,_⟩:=h;rfl
 |lst _=>let⟨a,xs,rfl,_⟩:=h;rfl
 |obj _ _ _=>let⟨a,Ca,dx,fs,rfl,_⟩:=h;rfl
 |dct _ _=>let⟨a,kvs,rfl,_⟩:=h;rfl
def  Dd(neg:Bool):D->D->Ub
 |d,.non=>!(.bl (if neg then not (HX d) else HX d))
 |_,_=>none
def r_isN{K}:ju K (λx y H Q=>y=.non/\Q (.bl (decide (x=.non))) H) (Dd false):=λO H x y dx l d Q _ j g e k=>by
 cases l with
 |non=>cases e;exact⟨g,k _ H (Same.refl _) (by rw[vK j];rfl)⟩
 |_=>cases e
def r_notN{K:Frag}:ju K (λx y H Q=>y=.non/\Q (.bl (not (decide (x=.non)))) H) (Dd true):=λO H x y dx dy d Q _ ix iy e k=>by
 cases dy with
 |non=>cases e;exact⟨iy,k _ H (Same.refl _) (by rw[vK ix];rfl)⟩
 |_=>cases e
def  zu:D->D->Ub
 |x,.lst ds=>if bK x&&ds.all bK then !(.bl (not (Ol x ds)))else none
 |x,.tup ds=>if bK x&&ds.all bK then !(.bl (not (Ol x ds)))else none
 |_,_=>none
def r_notIn{K}:ju K (Oh K true) zu:=λO H x y dx C d Q hd t r e k=>by
 cases C with
 |lst ds=>
  let⟨h1,h2⟩:=az (e);rw[and_eq_true]at h1;subst h2;let⟨p,xs,rfl,q,l⟩:=r;let⟨o,e2⟩:=iY h1.1 t;let⟨j,g⟩:=hZ h1.2 l;exact⟨p,xs,rfl,.inl (msk_le.seq q),e2,g,k _ H (Same.refl _) (by rw[o,j];rfl)⟩
 |tup ds=>
  let⟨h1,h2⟩:=az (e);rw[and_eq_true]at h1;subst h2;let⟨p,xs,rfl,q,l⟩:=r;let⟨o,e2⟩:=iY h1.1 t;let⟨j,g⟩:=hZ h1.2 l;exact⟨p,xs,rfl,.inr (msk_le.seqT q),e2,g,k _ H (Same.refl _) (by rw[o,j];rfl)⟩
 |_=>cases e
def  cutD(ds:T9)(lo hi:Uc):T9:=(ds.drop (HT.sIx ds.length 0 lo)).take (HT.sIx ds.length ds.length hi-HT.sIx ds.length 0 lo)
def zv{K}(l:IsL K H ds xs)(lo hi:Uc):IsL K H (cutD ds lo hi) (xj xs lo hi):=by
 unfold cutD xj;rw[<-l.len];exact .of (lL _ (lM _ l.paired))
def De:SlR X (λx lo hi H Q=>∃a xs,x=.ref a/\SqT X.K H a xs/\(HT.sIx xs.length 0 lo=0/\HT.sIx xs.length xs.length hi=xs.length)/\Q (.ref a) H):=by
 intro pins s σ H x v vl vu lo hi sl Q I rx hs pl pu h;let⟨a,xs,rfl,hx,hw,q⟩:=h;cases rx;let⟨its,r,ht,hz⟩:=I.tuple hx;have hlen:its.toArray.size=xs.length:=by rw[size_toArray];exact r.length.symm
 refine⟨"tuple",_,PyProof.Rows.slot_tuple_getitem.lookup,ht.typeIs,?_⟩;let⟨os,hos,hcs,hds⟩:=id hs;have hTs:s.TypeIs (.ref sl) "slice":=⟨os,hos,hcs⟩;unfold getItem;try with_reducible refine wpAny_holding ?_
 first|refine Ud (Ug ?_)|skip
 refine Ud (wpAny_sequenceKey ht.typeIs (!4) ?_);refine Ud (wpAny_callSpecial?_slot ht.typeIs PyProof.Rows.slot_tuple_getitem (wpAny_call_entry PyProof.Rows.slot_tuple_getitem ht.typeIs entry_tuple_getitem ?_ (args_tuple_getitem _ _)));show wpAny _ _ (Builtin.Tuple.tupleItemsOf (.ref a)>>=_) _ _ s;refine Ud (tupleItemsOf_ ht (Ud (wpAny_typeOf hTs ?_)));refine Ud (HT.sliceApplied_gen hs pl pu ?_);have hyes:(((HT.sIx its.toArray.size 0 lo:Nat):Int)==0&&(1:Int)==1&&(HT.sIx its.toArray.size its.toArray.size hi-HT.sIx its.toArray.size 0 lo)==its.toArray.size)=true:=by
  rw[hlen,hw.1,hw.2];simp
 show wpAny _ _ (if(((HT.sIx its.toArray.size 0 lo:Nat):Int)==0&&(1:Int)==1&&(HT.sIx its.toArray.size its.toArray.size hi-HT.sIx its.toArray.size 0 lo)==its.toArray.size)=true then _ else _) _ _ s;rw[if_pos hyes];refine Ud (Ud (wpAny_typeOf ht.typeIs (Ug ?_)));exact Ud (wpAny_rule (Ug ⟨_,rfl,Ug ⟨.ref a,H,I,rfl,q⟩⟩))
def  Dg(X:Cx)(e:Option Expr)(f:Vv->Option (Uc)):Prop:=∀O Y,PO X e (λσ H Q=>VE X.K O σ H Y/\∃i,f Y=!i/\∀H',Same H H'->Q i H')
def PO.imp{e}(h:PO X e t)(k:∀σ H Q,g σ H Q->t σ H Q):PO X e g:=λpins s σ H Q I q=>h pins s σ H Q I (k _ _ _ q)
def zy:Dg X none (λ_=>!none):=λO Y=>po_none.imp λσ H Q ⟨E,i,q,k⟩=>by
 cases q;exact k H (Same.refl _)
def  partF(f:TL):Vv->Option (Uc):=λY=>(f Y).bind λd=>(kS d).bind λi=>!(!i)
def zA(h:PP X e f):Dg X (!e) (partF f):=λO Y=>(CK (h O Y)).imp λσ H Q ⟨E,i,q,k⟩=>by
 let⟨d,r,p⟩:=UD q;let⟨j,o,l⟩:=UD p;cases l;refine⟨E,d,r,λv H1 g t=>?_⟩;cases intD_some o;exact⟨j,t,k H1 g⟩
def  l7(f:TL)(fl fh:Vv->Option (Uc)):TL:=λY=>(f Y).bind λd=>(fl Y).bind λlo=>(fh Y).bind λhi=>match d with
 |.tup ds=>!(.tup (cutD ds lo hi))
 |_=>none
def  kY(f:TL)(fl fh:Vv->Option (Uc)):TK:=λY=>(f Y).bind λd=>(fl Y).bind λlo=>(fh Y).bind λhi=>match d with
 |.lst ds=>!(cutD ds lo hi)
 |_=>none
def xx{lo hi}(h:HT.sIx ds.length 0 lo=0/\HT.sIx ds.length ds.length hi=ds.length):cutD ds lo hi=ds:=by
 unfold cutD;rw[h.1,h.2];simp
def HY{lo hi}(h:PP X e f)(hl:Dg X lo fl)(hh:Dg X hi fh):PP X (.Subscript e (.Slice lo hi none p2) pos) (l7 f fl fh):=λO Y=>
 (rL (sl_tup.or De) (h O Y) (hl O Y) (hh O Y)).imp λσ H Q ⟨E,d,q,k⟩=>by
 let⟨c,q1,q⟩:=UD q;let⟨l,q2,q⟩:=UD q;let⟨u,U,q⟩:=UD q;refine⟨E,c,q1,λv H1 o iv=>⟨E.grow o,l,q2,λH2 j=>⟨E.grow (o.trans j),u,U,λH3 T=>?_⟩⟩⟩;cases c with
 |tup ds=>
  cases q;have r:=Is.mono (j.trans T).msk _ _ iv;let⟨a,xs,rfl,t,C⟩:=r;have g:=o.trans (j.trans T);by_cases I:HT.sIx xs.length 0 l=0/\HT.sIx xs.length xs.length u=xs.length
  .refine .inr ⟨a,xs,rfl,msk_le.seqT t,I,k _ H3 g ?_⟩;rw[xx (by rw[C.len];exact I)];exact⟨a,xs,rfl,t,C⟩
  .refine .inl ⟨a,xs,rfl,msk_le.seqT t,I,λp J=>?_⟩;have hO:=(E.grow g).fresh J;exact k _ _ (g.trans (Same.new J)) ⟨p,_,rfl,.of (by rw[aO hO,ak]),IsL.mono (Same.new J).msk _ _ (zv C l u)⟩
 |_=>cases q
def zB{lo hi}(h:PP X e f)(hl:Dg X lo fl)(hh:Dg X hi fh):PF X (.Subscript e (.Slice lo hi none p2) pos) (kY f fl fh):=λO Y=>
 (rL CM (h O Y) (hl O Y) (hh O Y)).imp λσ H Q ⟨E,d,q,k⟩=>by
 let⟨c,J,q⟩:=UD q;let⟨l,I,q⟩:=UD q;let⟨u,C,q⟩:=UD q;refine⟨E,c,J,λv H1 j T=>⟨E.grow j,l,I,λH2 g=>⟨E.grow (j.trans g),u,C,λH3 r=>?_⟩⟩⟩;cases c with
 |lst ds=>
  cases q;have o:=Is.mono (g.trans r).msk _ _ T;let⟨a,xs,rfl,t,U⟩:=o;exact⟨a,xs,rfl,msk_le.seq t,λp hp=>k p _ H3 (j.trans (g.trans r)) hp (zv U l u)⟩
 |_=>cases q
end
inductive Cat where
 |sh
 |top
 |deep
 deriving DecidableEq
mutual
noncomputable def  gq:D->Bool
 |.tup ds=>ib ds
 |.lst _=>false
 |.obj _ _ _=>false
 |.dct _ _=>false
 |_=>true
noncomputable def  ib:T9->Bool
 |[]=>true
 |d::ds=>gq d&&ib ds
end
mutual
noncomputable def  Deep(K:Frag)(M H:Hp):D->V->List Addr->Prop
 |.non,v,A=>v=.non/\A=[]
 |.bl b,v,A=>v=.bl b/\A=[]
 |.int i,v,A=>v=.int i/\A=[]
 |.str x,v,A=>v=.str x/\A=[]
 |.ty n,v,A=>v=.ty n/\A=[]
 |.adr a,v,A=>v=.ref a/\A=[]
 |.tup ds,v,A=>∃a xs,v=.ref a/\(M a=!(.tup xs)\/(ib ds=true/\SqT K M a xs))/\DeepL K M H ds xs A
 |.lst ds,v,A=>∃a xs A',v=.ref a/\H a=!(.lst xs)/\A=a::A'/\DeepL K M H ds xs A'
 |.obj _ _ _,_,_=>False
 |.dct ks ds,v,A=>∃a kvs A',v=.ref a/\H a=!(.dK kvs)/\kvs.map (·.1)=ks/\A=a::A'/\DeepL K M H ds (kvs.map (·.2)) A'
noncomputable def  DeepL(K:Frag)(M H:Hp):T9->List V->List Addr->Prop
 |[],xs,A=>xs=[]/\A=[]
 |d::ds,xs,A=>∃x r A1 A2,xs=x::r/\A=A1++A2/\Deep K M H d x A1/\DeepL K M H ds r A2
end
def  NL(M M':Hp):Prop:=∀b o,M b=!o->¬Hid (!o)->M' b=!o
def NL.of(s:Same M g):NL M g:=λb o h _=>s b o h
def vL:¬Hid (!(.tup xs)):=by rintro(⟨_,z⟩|⟨_,_,_,z⟩|⟨_,z⟩)<;>cases z
def Dh:¬Hid (!(.frz o u)):=by rintro(⟨_,z⟩|⟨_,_,_,z⟩|⟨_,z⟩)<;>cases z
def NL.seqT{K}(e:NL H H')(h:SqT K H a xs):SqT K H' a xs:=by
 rcases h with(h|⟨o,h⟩)|h
 .exact .inl (.inl (e _ _ h vL))
 .exact .inl (.inr ⟨o,e _ _ h Dh⟩)
 .exact .inr h
def tupAt{K}(s:NL M g)(h:M a=!(.tup xs)\/(ib ds=true/\SqT K M a xs)):g a=!(.tup xs)\/(ib ds=true/\SqT K g a xs):=by
 rcases h with h|⟨f,h⟩
 .exact .inl (s _ _ h vL)
 .exact .inr ⟨f,s.seqT h⟩
def Me{K}(s:NL M g)(h:M a=!(.tup xs)\/(ib ds=true/\SqT K M a xs)):SqT K g a xs:=by
 rcases tupAt s h with h|⟨_,h⟩
 .exact .of h
 .exact h
mutual
theorem Deep.frame{K:Frag}{M M' H H':Hp}(s:NL M M'):∀(d:D)(v:V)(A:List Addr),(∀a∈A,∀o,H a=!o->H' a=!o)->Deep K M H d v A->Deep K M' H' d v A
 |.non,_,_,_,h=>h
 |.bl _,_,_,_,h=>h
 |.int _,_,_,_,h=>h
 |.str _,_,_,_,h=>h
 |.ty _,_,_,_,h=>h
 |.adr _,_,_,_,h=>h
 |.tup ds,_,A,k,⟨a,xs,e,q,l⟩=>⟨a,xs,e,tupAt s q,DeepL.frame s ds xs A k l⟩
 |.lst ds,_,A,k,⟨a,xs,A',e,q,z,l⟩=>⟨a,xs,A',e,k a (by rw[z];exact Ul) _ q,z,DeepL.frame s ds xs A' (λb hb=>k b (by rw[z];exact Um _ hb)) l⟩
 |.obj _ _ _,_,_,_,h=>h.elim
 |.dct ks ds,_,A,k,⟨a,kvs,A',e,q,y,z,l⟩=>⟨a,kvs,A',e,k a (by rw[z];exact Ul) _ q,y,z,DeepL.frame s ds _ A' (λb hb=>k b (by rw[z];exact Um _ hb)) l⟩
theorem DeepL.frame{K:Frag}{M M' H H':Hp}(s:NL M M'):∀(ds:T9)(xs:List V)(A:List Addr),(∀a∈A,∀o,H a=!o->H' a=!o)->DeepL K M H ds xs A->DeepL K M' H' ds xs A
 |[],_,_,_,h=>h
 |d::ds,_,A,k,⟨x,r,A1,A2,e,z,h,l⟩=>⟨x,r,A1,A2,e,z,Deep.frame s d x A1 (λb hb=>k b (by rw[z];exact Uv _ hb)) h,DeepL.frame s ds r A2 (λb hb=>k b (by rw[z];exact Uw _ hb)) l⟩
end
mutual
theorem Deep.is{K:Frag}{M M' H:Hp}(s:NL M M'):∀(d:D)(v:V)(A:List Addr),(∀a∈A,∀o,H a=!o->M' a=!o)->Deep K M H d v A->Is K M' d v
 |.non,_,_,_,h=>h.1
 |.bl _,_,_,_,h=>h.1
 |.int _,_,_,_,h=>h.1
 |.str _,_,_,_,h=>h.1
 |.ty _,_,_,_,h=>h.1
 |.adr _,_,_,_,h=>h.1
 |.tup ds,_,A,k,⟨a,xs,e,q,l⟩=>⟨a,xs,e,Me s q,DeepL.is s ds xs A k l⟩
 |.lst ds,_,A,k,⟨a,xs,A',e,q,z,l⟩=>⟨a,xs,e,.of (k a (by rw[z];exact Ul) _ q),DeepL.is s ds xs A' (λb hb=>k b (by rw[z];exact Um _ hb)) l⟩
 |.obj _ _ _,_,_,_,h=>h.elim
 |.dct ks ds,_,A,k,⟨a,kvs,A',e,q,y,z,l⟩=>⟨a,kvs,e,k a (by rw[z];exact Ul) _ q,y,DeepL.is s ds _ A' (λb hb=>k b (by rw[z];exact Um _ hb)) l⟩
theorem DeepL.is{K:Frag}{M M' H:Hp}(s:NL M M'):∀(ds:T9)(xs:List V)(A:List Addr),(∀a∈A,∀o,H a=!o->M' a=!o)->DeepL K M H ds xs A->IsL K M' ds xs
 |[],_,_,_,h=>h.1
 |d::ds,_,A,k,⟨x,r,A1,A2,e,z,h,l⟩=>⟨x,r,e,Deep.is s d x A1 (λb hb=>k b (by rw[z];exact Uv _ hb)) h,DeepL.is s ds r A2 (λb hb=>k b (by rw[z];exact Uw _ hb)) l⟩
end
mutual
theorem Is.deep{K:Frag}{M H:Hp}:∀(d:D)(v:V),gq d=true->Is K M d v->Deep K M H d v []
 |.non,_,_,h=>⟨h,rfl⟩
 |.bl _,_,_,h=>⟨h,rfl⟩
 |.int _,_,_,h=>⟨h,rfl⟩
 |.str _,_,_,h=>⟨h,rfl⟩
 |.ty _,_,_,h=>⟨h,rfl⟩
 |.adr _,_,_,h=>⟨h,rfl⟩
 |.tup ds,_,f,⟨a,xs,e,q,l⟩=>⟨a,xs,e,.inr ⟨f,q⟩,IsL.deep ds xs f l⟩
 |.lst _,_,f,_=>by cases f
 |.obj _ _ _,_,f,_=>by cases f
 |.dct _ _,_,f,_=>by cases f
theorem IsL.deep{K:Frag}{M H:Hp}:∀(ds:T9)(xs:List V),ib ds=true->IsL K M ds xs->DeepL K M H ds xs []
 |[],_,_,h=>⟨h,rfl⟩
 |d::ds,_,f,⟨x,r,e,h,l⟩=>by
  have f':(gq d&&ib ds)=true:=f;rw[and_eq_true]at f';exact⟨x,r,[],[],e,rfl,Is.deep d x f'.1 h,IsL.deep ds r f'.2 l⟩
end
mutual
theorem Deep.lf{K:Frag}{M H:Hp}:∀(d:D)(v:V)(A:List Addr),gq d=true->Deep K M H d v A->A=[]
 |.non,_,_,_,h=>h.2
 |.bl _,_,_,_,h=>h.2
 |.int _,_,_,_,h=>h.2
 |.str _,_,_,_,h=>h.2
 |.ty _,_,_,_,h=>h.2
 |.adr _,_,_,_,h=>h.2
 |.tup ds,_,A,f,⟨a,xs,e,q,l⟩=>DeepL.lf ds xs A f l
 |.lst _,_,_,f,_=>by cases f
 |.obj _ _ _,_,_,f,_=>by cases f
 |.dct _ _,_,_,f,_=>by cases f
theorem DeepL.lf{K:Frag}{M H:Hp}:∀(ds:T9)(xs:List V)(A:List Addr),ib ds=true->DeepL K M H ds xs A->A=[]
 |[],_,_,_,h=>h.2
 |d::ds,_,A,f,⟨x,r,A1,A2,e,z,h,l⟩=>by
  have f':(gq d&&ib ds)=true:=f;rw[and_eq_true]at f';rw[z,Deep.lf d x A1 f'.1 h,DeepL.lf ds r A2 f'.2 l];rfl
end
mutual
theorem Is.nl{K:Frag}{M M':Hp}(s:NL M M'):∀(d:D)(v:V),gq d=true->Is K M d v->Is K M' d v
 |.non,_,_,h=>h
 |.bl _,_,_,h=>h
 |.int _,_,_,h=>h
 |.str _,_,_,h=>h
 |.ty _,_,_,h=>h
 |.adr _,_,_,h=>h
 |.tup ds,_,f,⟨a,xs,e,q,l⟩=>⟨a,xs,e,s.seqT q,IsL.nl s ds xs f l⟩
 |.lst _,_,f,_=>by cases f
 |.obj _ _ _,_,f,_=>by cases f
 |.dct _ _,_,f,_=>by cases f
theorem IsL.nl{K:Frag}{M M':Hp}(s:NL M M'):∀(ds:T9)(xs:List V),ib ds=true->IsL K M ds xs->IsL K M' ds xs
 |[],_,_,h=>h
 |d::ds,_,f,⟨x,r,e,h,l⟩=>by
  have f':(gq d&&ib ds)=true:=f;rw[and_eq_true]at f';exact⟨x,r,e,Is.nl s d x f'.1 h,IsL.nl s ds r f'.2 l⟩
end
def  OwnC(K:Frag)(O:T6)(H:Hp):Cat->D->V->List Addr->Prop
 |.sh,d,v,A=>A=[]/\Is K (msk O H) d v
 |.top,d,v,A=>∃a ds xs,d=.lst ds/\v=.ref a/\A=[a]/\H a=!(.lst xs)/\IsL K (msk O H) ds xs
 |.deep,d,v,A=>Deep K (msk O H) H d v A
def OwnC.frame{K}(s:Same (msk O H) (msk r H'))(k:∀a∈A,∀o,H a=!o->H' a=!o)(h:OwnC K O H c d v A):OwnC K r H' c d v A:=by
 cases c with
 |sh=>exact⟨h.1,Is.mono s d v h.2⟩
 |top=>
  let⟨a,ds,xs,p,e2,g,j,l⟩:=h;exact⟨a,ds,xs,p,e2,g,k a (by rw[g];exact Ul) _ j,IsL.mono s ds xs l⟩
 |deep=>exact Deep.frame (NL.of s) d v A k h
def OwnC.is{K}(s:Same (msk O H) (msk g H))(k:∀a∈A,g a=false)(h:OwnC K O H c d v A):Is K (msk g H) d v:=by
 cases c with
 |sh=>exact Is.mono s d v h.2
 |top=>
  let⟨a,ds,xs,t,e2,r,p,l⟩:=h;subst t;exact⟨a,xs,e2,.of (by rw[aO (k a (by rw[r];exact Ul))];exact p),IsL.mono s ds xs l⟩
 |deep=>exact Deep.is (NL.of s) d v A (λa j o e=>by rw[aO (k a j)];exact e) h
abbrev Sl:=Cat×D
abbrev Ev:=List (Option Sl)
abbrev _root_.TQ:=Ev->Option (Sl×Ev)
abbrev _root_.TJ:=List D->Option Sl
structure Bs where
 H:Hp
 O:T6
structure EnvOk(K:Frag)(B:Bs)(O:T6)(σ:St)(H:Hp)(Y:Ev):Prop where
 same:Same B.H H
 bdom:∀b,B.O b=true->B.H b≠none
 sub:∀b,B.O b=true->O b=true
 lis:∀b,O b=true->Hid (H b)
 len:σ.length=Y.length
 fp:∃F:Nat->List Addr,(∀(i:Nat)(s:Sl),Y[i]?=!(!s)->∃v,σ[i]?=!(!v)/\OwnC K O H s.1 s.2 v (F i))/\
  (∀i,(F i).Nodup)/\(∀i j a,a∈F i->a∈F j->i=j)/\∀i a,a∈F i->O a=true/\B.H a=none
noncomputable def  j3:T6:=λ_=>false
def gy:msk j3 H=H:=by constructor<;>grind
noncomputable def  vw(Y:Ev):Vv:=Y.map λs=>s.map (·.2)
def  P0:Option Sl->Ub
 |some (.sh,d)=>!d
 |some (_,d)=>if gq d then !d else none
 |none=>none
def  eg(Y:Ev):Vv:=Y.map P0
def  eN(Y:Ev):Ev:=Y.map λs=>s.map λx=>(Cat.sh,x.2)
section
variable{K:Frag}{B:Bs}{O:T6}{σ:St}{H H':Hp}{Y:Ev}
def EnvOk.dom(E:EnvOk K B O σ H Y):∀b,O b=true->H b≠none:=λb h=>(E.lis b h).ne
def EnvOk.nl(E:EnvOk K B O σ H Y):NL H (msk O H):=λb o h q=>by
 cases e:O b with
 |false=>rw[aO e];exact h
 |true=>
  have h':=E.lis b e;rw[h]at h';exact(q h').elim
def EnvOk.grow(E:EnvOk K B O σ H Y)(s:Same H H'):EnvOk K B O σ H' Y where
 same:=E.same.trans s
 bdom:=E.bdom
 sub:=E.sub
 lis:=λb h=>(E.lis b h).same s
 len:=E.len
 fp:=by
  let⟨F,h1,h2,l,j⟩:=E.fp;refine⟨F,λi x q=>?_,h2,l,j⟩;let⟨v,e,o⟩:=h1 i x q;exact⟨v,e,o.frame s.msk λa _ u g=>s _ _ g⟩
def EnvOk.fresh(E:EnvOk K B O σ H Y)(h:H p=none):O p=false:=fZ E.dom h
def qi{α g:Type}{f}{l:List (Option α)}{i:Nat}{y:g}(h:(l.map f)[i]?=!(!y)):∃x,l[i]?=!x/\f x=!y:=by grind
def EnvOk.view(E:EnvOk K B O σ H Y):VE K j3 σ H (vw Y) where
 lis:=λb h=>by cases h
 len:=by unfold vw;rw[length_map];exact E.len
 sh:=λi d q=>by
  let⟨F,h1,h2,l,j⟩:=E.fp;let⟨x,e,z⟩:=qi q;cases x with
  |none=>cases z
  |some s=>
   cases z;let⟨v,g,o⟩:=h1 i s e;exact⟨v,g,o.is (by rw[gy];exact msk_le) λ_ _=>rfl⟩
def EnvOk.viewS(E:EnvOk K B O σ H Y):VE K O σ H (eg Y) where
 lis:=E.lis
 len:=by unfold eg;rw[length_map];exact E.len
 sh:=λi d q=>by
  let⟨F,h1,h2,I,C⟩:=E.fp;let⟨x,e,z⟩:=qi q;cases x with
  |none=>cases z
  |some s=>
   let⟨c,j⟩:=s;let⟨v,t,o⟩:=h1 i _ e;refine⟨v,t,?_⟩;cases c with
   |sh=>cases z;exact o.2
   |top=>
    let⟨a,ds,xs,p,_⟩:=o;have g:=z;rw[show j=.lst ds from p]at g;cases g
   |deep=>
    let⟨f,g⟩:=az (z);subst g;have r:=Deep.lf j v (F i) f o;exact Deep.is (NL.of (Same.refl _)) j v (F i) (λa l=>by rw[r]at l;cases l) o
def EnvOk.frozen(E:EnvOk K B O σ H Y):EnvOk K B B.O σ H (eN Y)/\Same (msk O H) (msk B.O H):=by
 have le:Same (msk O H) (msk B.O H):=λb o h=>by
  let⟨h1,h2⟩:=bU h;rw[aO];exact h2;cases e:B.O b with
  |false=>rfl
  |true=>rw[E.sub b e]at h1;cases h1
 refine⟨⟨E.same,E.bdom,λ_ h=>h,λb h=>E.lis b (E.sub b h),by unfold eN;rw[length_map];exact E.len,λ_=>[],λi s q=>?_,λ_=>List.nodup_nil,λ_ _ _ h=>(nomatch h),λ_ _ h=>(nomatch h)⟩,le⟩;let⟨F,h1,h2,p,j⟩:=E.fp;let⟨x,e,z⟩:=qi q;cases x with
 |none=>cases z
 |some s'=>
  cases z;let⟨v,l,o⟩:=h1 i _ e;refine⟨v,l,rfl,o.is le λa g=>?_⟩;cases e:B.O a with
  |false=>rfl
  |true=>exact absurd (j i a g).2 (E.bdom a e)
def EnvOk.viewF(E:EnvOk K B O σ H Y):VE K B.O σ H (vw Y):=by
 have h:=E.frozen.1.viewS;have e:eg (eN Y)=vw Y:=by
  unfold eg eN vw;rw[List.map_map];apply List.map_congr_left;intro x _;cases x<;>rfl
 rw[e]at h;exact h
def EnvOk.more(E:EnvOk K B O σ H Y){c:Cat}{d:D}{v:V}{A:List Addr}{g:T6}(s:Same H H')(le:Same (msk O H) (msk g H'))(hO:∀b,g b=true->O b=true\/b∈A)(r:∀b,O b=true->g b=true)(t:∀b∈A,g b=true)
  (U:∀a∈A,Hid (H' a)) (J:A.Nodup) (fr:∀a∈A,H a=none) (h:OwnC K g H' c d v A):EnvOk K B g (σ++[!v]) H' (Y++[!(c,d)]) where
 same:=E.same.trans s
 bdom:=E.bdom
 sub:=λb q=>r b (E.sub b q)
 lis:=λb q=>by
  rcases hO b q with q|q
  .exact(E.lis b q).same s
  .exact U b q
 len:=by rw[length_append,length_append,E.len];rfl
 fp:=by
  let⟨F,h1,h2,h3,C⟩:=E.fp;have no:∀i a,a∈F i->a ∉ A:=λi a I hA=>E.dom a (C i a I).1 (fr a hA);refine⟨λi=>if i=Y.length then A else F i,λi x q=>?_,λi=>?_,λi j a hi l=>?_,λi a hi=>?_⟩
  .by_cases hi:i=Y.length
   .subst hi;rw[getElem?_append_right (le_refl _)]at q;simp at q;subst q;refine⟨v,?_,by simp only[if_true];exact h⟩;rw[getElem?_append_right (Nat.le_of_eq E.len),E.len];simp
   .have p:i<Y.length:=by
     by_cases h:i<Y.length
     .exact h
     .rw[getElem?_append_right (!3)]at q;cases hk:i-Y.length with
      |zero=>omega
      |succ m=>rw[hk]at q;simp at q
    rw[getElem?_append_left p]at q;let⟨w,e,o⟩:=h1 i x q;refine⟨w,?_,?_⟩
    .rw[getElem?_append_left (by rw[E.len];exact p)];exact e
    .simp only[if_neg hi];exact o.frame le λa I u T=>s _ _ T
  .dsimp only;split
   .exact J
   .exact h2 i
  .dsimp only at hi l;split at hi<;>split at l
   .omega
   .exact absurd hi (no j a l)
   .exact absurd l (no i a hi)
   .exact h3 i j a hi l
  .dsimp only at hi;split at hi
   .exact⟨t a hi,E.same.free (fr a hi)⟩
   .exact⟨r a (C i a hi).1,(C i a hi).2⟩
def getElem?_last{α:Type}(l:List α)(x:α):(l++[x])[l.length]?=!x:=by simp
def cc{α:Type}{l}{x}(h:i≠l.length){y:α}(e:(l++[x])[i]?=!y):l[i]?=!y:=by grind
def EnvOk.put{v:V}{s:Sl}(E:EnvOk K B O (σ++[!v]) H (Y++[!s]))(i:Nat):EnvOk K B O (σ.set i (!v)) H (Y.set i (!s)) where
 same:=E.same
 bdom:=E.bdom
 sub:=E.sub
 lis:=E.lis
 len:=by have:=E.len;simp at this⊢;exact this
 fp:=by
  let⟨F,h1,h2,p,r⟩:=E.fp;have len:σ.length=Y.length:=by have:=E.len;simp at this;exact this
  let⟨J,t,I⟩:=h1 Y.length s (getElem?_last _ _);rw[<-len,getElem?_last]at t;cases t;refine⟨λj=>if j=i then F Y.length else if j=Y.length then[]else F j,λj x q=>?_,λj=>?_,λj k a g l=>?_,λj a g=>?_⟩
  .rcases get_set_some q with⟨e,o⟩|⟨e,o⟩
   .cases o;subst e;have hi:j<σ.length:=by rw[len];exact oY q
    exact⟨v,by simp[hi],by simp only[if_true];exact I⟩
   .have g:j≠Y.length:=by
     have:=(Uk.mp o).1;omega
    let⟨w,e2,C⟩:=h1 j x (by rw[getElem?_append_left (List.getElem?_eq_some_iff.mp o).1];exact o);refine⟨w,?_,by simp only[if_neg e,if_neg g];exact C⟩;rw[List.getElem?_set_ne (Ne.symm e)];exact cc (by rw[len];exact g) e2
  .dsimp only;split
   .exact h2 _
   .split
    .exact List.nodup_nil
    .exact h2 _
  .dsimp only at g l;split at g
   .split at l
    .omega
    .split at l
     .cases l
     .have:=p _ _ a g l;omega
   .split at g
    .cases g
    .split at l
     .have:=p _ _ a g l;omega
     .split at l
      .cases l
      .exact p _ _ a g l
  .dsimp only at g;split at g
   .exact r _ a g
   .split at g
    .cases g
    .exact r _ a g
def EnvOk.drop{v:V}{s:Sl}(E:EnvOk K B O (σ++[!v]) H (Y++[!s])):EnvOk K B O σ H Y where
 same:=E.same
 bdom:=E.bdom
 sub:=E.sub
 lis:=E.lis
 len:=by have:=E.len;simp at this;exact this
 fp:=by
  let⟨F,h1,h2,p,o⟩:=E.fp;have len:σ.length=Y.length:=by have:=E.len;simp at this;exact this
  refine⟨F,λj x q=>?_,h2,p,o⟩;have l:=(Uk.mp q).1;let⟨w,e2,g⟩:=h1 j x (by rw[getElem?_append_left l];exact q);exact⟨w,cc (!3) e2,g⟩
def EnvOk.setSh(E:EnvOk K B O σ H Y)(h:Is K (msk O H) d v):EnvOk K B O (σ.set i (!v)) H (Y.set i (!(.sh,d))):=
 (E.more (c:=.sh) (A:=[]) (Same.refl _) (Same.refl _) (λ_ h=>.inl h) (λ_ h=>h) (λ_ h=>(nomatch h)) (λ_ h=>(nomatch h)) List.nodup_nil (λ_ h=>(nomatch h)) ⟨rfl,h⟩).put i
end
mutual
theorem Deep.lists{K:Frag}{M H:Hp}:∀(d:D)(v:V)(A:List Addr),Deep K M H d v A->∀a∈A,Hid (H a)
 |.non,_,_,h,_,q=>by rw[h.2]at q;cases q
 |.bl _,_,_,h,_,q=>by rw[h.2]at q;cases q
 |.int _,_,_,h,_,q=>by rw[h.2]at q;cases q
 |.str _,_,_,h,_,q=>by rw[h.2]at q;cases q
 |.ty _,_,_,h,_,q=>by rw[h.2]at q;cases q
 |.adr _,_,_,h,_,q=>by rw[h.2]at q;cases q
 |.tup ds,_,A,⟨a,xs,e,_,l⟩,b,q=>DeepL.lists ds xs A l b q
 |.lst ds,_,A,⟨a,xs,A',e,h,z,l⟩,b,q=>by
  rw[z]at q;rcases mem_cons.mp q with rfl|q
  .exact .inl ⟨xs,h⟩
  .exact DeepL.lists ds xs A' l b q
 |.obj _ _ _,_,_,h,_,_=>h.elim
 |.dct ks ds,_,A,⟨a,kvs,A',e,h,y,z,l⟩,b,q=>by
  rw[z]at q;rcases mem_cons.mp q with rfl|q
  .exact .inr (.inr ⟨kvs,h⟩)
  .exact DeepL.lists ds _ A' l b q
theorem DeepL.lists{K:Frag}{M H:Hp}:∀(ds:T9)(xs:List V)(A:List Addr),DeepL K M H ds xs A->∀a∈A,Hid (H a)
 |[],_,_,h,_,q=>by rw[h.2]at q;cases q
 |d::ds,_,A,⟨x,r,A1,A2,e,z,h,l⟩,b,q=>by
  rw[z]at q;rcases mem_append.mp q with q|q
  .exact Deep.lists d x A1 h b q
  .exact DeepL.lists ds r A2 l b q
end
def DeepL.len{K}:∀{ds:T9}{xs:List V}{A:List Addr},DeepL K M H ds xs A->ds.length=xs.length
 |[],_,_,h=>by rw[h.1];rfl
 |_::_,_,_,⟨x,r,A1,A2,e,z,h,l⟩=>by rw[e,length_cons,length_cons,DeepL.len l]
def DeepL.snoc{K}(h:Deep K M H y v A'):∀{ds:T9}{xs:List V}{A:List Addr},DeepL K M H ds xs A->DeepL K M H (ds++[y]) (xs++[v]) (A++A')
 |[],_,_,l=>by
  rw[l.1,l.2];exact⟨v,[],A',[],rfl,by simp,h,rfl,rfl⟩
 |d::ds,_,_,⟨x,r,A1,A2,e,z,q,l⟩=>by
  rw[e,z];exact⟨x,r++[v],A1,A2++A',rfl,by rw[List.append_assoc],q,DeepL.snoc h l⟩
def  PU(X:Cx)(e:Expr)(t:TE):Prop:=PE X e t/\∀(i:Nat)(x:Str)(px spos:Pos),X.N.Nodup->X.N[i]?=!x->X.env.scope.names.lookup x=some .local->
 swapsWith e (!(.Name x px)) spos.line X.env=pure true->PS X (.Assign [.Name x px] e spos) (yH t (rE i))
def PU.imp(h:PU X e t)(k:∀σ H Q,j σ H Q->t σ H Q):PU X e j:=
 ⟨h.1.imp k,λi x l g a b c d=>(h.2 i x l g a b c d).imp λo σ H q=>k σ H _ q⟩
def PE.by2(h1:PE X e j)(h2:PE X e g)(k:∀σ H Q,t σ H Q->j σ H Q\/g σ H Q):PE X e t:=λpins s σ H Q I q=>(k σ H Q q).elim (h1 pins s σ H Q I) (h2 pins s σ H Q I)
def PS.by2(h1:PS X e l)(h2:PS X e j)(k:∀g σ H,t g σ H->l g σ H\/j g σ H):PS X e t:=λpins s σ H Q I q=>(k Q σ H q).elim (h1 pins s σ H Q I) (h2 pins s σ H Q I)
def PU.by2(h1:PU X e o)(h2:PU X e l)(k:∀σ H Q,t σ H Q->o σ H Q\/l σ H Q):PU X e t:=
 ⟨h1.1.by2 h2.1 k,λi x j g a b c d=>(h1.2 i x j g a b c d).by2 (h2.2 i x j g a b c d) λp σ H q=>k σ H _ q⟩
def PU.ex{j:Type}{t:j->TE}(h:∀z,PU X e (t z)):PU X e (λσ H Q=>∃z,t z σ H Q):=
 ⟨PE.ex λz=>(h z).1,λi x l g a b c d pins s σ H D I ⟨z,q⟩=>(h z).2 i x l g a b c d pins s σ H D I q⟩
noncomputable def  bP:Expr->Bool
 |.ListComp _ _ _ _=>true
 |.SetComp _ _ _ _=>true
 |.DictComp _ _ _ _ _=>true
 |_=>false
def swaps_no(h:bP e=false)(t:Option Expr)(l:Nat)(env:Env):swapsWith e t l env=pure false:=by
 cases e<;>first|rfl|cases h
def PE.pu(h:PE X e t)(l:bP e=false):PU X e t:=⟨h,λi x o g _ _ _ q=>by
 rw[swaps_no l]at q;have j:=q;cases j⟩
def vM(I:X.calm=true)(S:CSc X scope ks)(hi:PI X tg iter J)(r:∀C s H fp,PG (mS X scope C s H fp) tg g)(j:∀C s H fp,PTs (mS X scope C s H fp) ifs tt)(t:∀C s H fp,PE (mS X scope C s H fp) elt te)(p:∀x,foldedSetIterable iter X.env x=pure x):PU X (!14) (rO J ks g tt te):=
 ⟨CU I S hi r j t p,λi x px o hN T U l=>CV hN T U I S hi r j t l p⟩
def  Mg(K:Frag)(Y:Vv)(o:Ub):TE:=λσ H Q=>VE K j3 σ H Y/\∃d,o=!d/\∀v H' A,Same H H'->Deep K H' H' d v A->A.Nodup->(∀a∈A,H a=none)->Q v H'
def  P1(K:Frag)(Y:Vv)(o:TV):TA:=λσ H Q=>VE K j3 σ H Y/\∃ds,o=!ds/\∀vs H' A,Same H H'->DeepL K H' H' ds vs A->A.Nodup->(∀a∈A,H a=none)->Q vs H'
def  oC(X:Cx)(e:Expr)(f:TL):Prop:=∀Y,PU X e (Mg X.K Y (f Y))
def  rZ(X:Cx)(es:Ua)(f:TK):Prop:=∀Y,PA X es (P1 X.K Y (f Y))
def  PPu(X:Cx)(e:Expr)(f:TL):Prop:=∀O Y,PU X e (tP X.K O Y (f Y))
def  PFu(X:Cx)(e:Expr)(f:TK):Prop:=∀O Y,PU X e (LD X.K O Y (f Y))
section
variable{X:Cx}{e:Expr}{es:Ua}{pos:Pos}
noncomputable def  kj(o:Ub):Ub:=o.bind λd=>if gq d then !d else none
noncomputable def  ic(o:TV):Ub:=o.bind λds=>if ib ds then !(.lst ds)else none
def HZ{K}(h:Mg K Y (kj o) σ H Q):tP K j3 Y o σ H Q:=by
 let⟨E,d,e,k⟩:=h;let⟨g,l,e2⟩:=UD e;let⟨f,j⟩:=az e2;subst j;refine⟨E,g,l,λv H' s i=>k v H' [] s ?_ List.nodup_nil λ_ q=>(nomatch q)⟩;exact Is.deep g v f i
def Di{K}(h:Mg K Y (ic o) σ H Q):LD K j3 Y o σ H Q:=by
 let⟨E,d,e,k⟩:=h;let⟨ds,t,e2⟩:=UD e;let⟨f,r⟩:=az e2;subst r;refine⟨E,ds,t,λp xs H' s g l=>?_⟩;refine k _ _ [p] (s.trans (Same.new g)) ⟨p,xs,[],rfl,ak,rfl,?_⟩ (by simp) λa j=>?_
 .exact DeepL.frame (NL.of (Same.new g)) ds xs [] (λ_ q=>(nomatch q)) (IsL.deep (H:=H') ds xs f l)
 .rw[mem_singleton.mp j];exact s.free g
def zC(h:PPu X e f):oC X e (λY=>kj (f Y)):=λY=>(h j3 Y).imp λσ H Q q=>HZ q
def H9(h:PFu X e f):oC X e (λY=>ic (f Y)):=λY=>(h j3 Y).imp λσ H Q q=>Di q
noncomputable def  aS{α β:Type}(f g:α->Option β):α->Option β:=λx=>match f x with|some y=>!y|none=>g x
def or_some{x:α}{y:j}(h:aS f g x=!y):f x=!y\/g x=!y:=by grind [aS]
def FI(h1:oC X e f)(h2:oC X e g):oC X e (aS f g):=λY=>(h1 Y).by2 (h2 Y) λσ H Q ⟨E,d,q,k⟩=>by
 rcases or_some q with q|q;all_goals grind
def pj:oC X e (λ_=>none):=λY=>⟨λ_ _ _ _ _ _ ⟨_,_,q,_⟩=>(by cases q),λ_ _ _ _ _ _ _ _ _ _ _ _ _ _ ⟨_,_,q,_⟩=>(by cases q)⟩
def qj:PPu X e (λ_=>none):=λO Y=>⟨λ_ _ _ _ _ _ ⟨_,_,q,_⟩=>(by cases q),λ_ _ _ _ _ _ _ _ _ _ _ _ _ _ ⟨_,_,q,_⟩=>(by cases q)⟩
def jQ:PFu X e (λ_=>none):=λO Y=>⟨λ_ _ _ _ _ _ ⟨_,_,q,_⟩=>(by cases q),λ_ _ _ _ _ _ _ _ _ _ _ _ _ _ ⟨_,_,q,_⟩=>(by cases q)⟩
def ur(h1:PPu X e f)(h2:PPu X e g):PPu X e (aS f g):=λO Y=>(h1 O Y).by2 (h2 O Y) λσ H Q ⟨E,d,q,k⟩=>by
 rcases or_some q with q|q;all_goals grind
def qk:rZ X [] (λ_=>![]):=λY=>pa_nil.imp λσ H Q ⟨E,ds,e,k⟩=>by
 cases e;exact k [] H [] (Same.refl _) ⟨rfl,rfl⟩ List.nodup_nil λ_ q=>(nomatch q)
def Deep.have{K}(h:Deep K M H d v A)(q:a∈A):H a≠none:=by
 exact(Deep.lists d v A h a q).ne
def frs_cons(h:oC X e f)(hr:rZ X es g)(hs:starEach (e::es) X.env=(false,eval e X.env)::starEach es X.env):rZ X (e::es) (aa f g):=
 λY=>(bv (h Y).1 (hr Y) hs).imp λσ H Q ⟨E,ds,q,k⟩=>by
 let⟨d,e1,q⟩:=UD q
 let⟨r,e2,q⟩:=UD q
 cases q
 refine⟨E,d,e1,λv H1 C p t T f1=>⟨E.grow p,r,e2,λI H2 A2 l U J f2=>k _ H2 _ (p.trans l) ⟨v,I,C,A2,rfl,rfl,Deep.frame (NL.of l) d v C (λa _ o h=>l _ _ h) t,U⟩ ?_ ?_⟩⟩
 .refine List.nodup_append.mpr ⟨T,J,λa j b hb z=>?_⟩;subst z;exact t.have j (f2 a hb)
 .intro a j;rcases mem_append.mp j with j|j
  .exact f1 a j
  .exact p.free (f2 a j)
def ut(h:rZ X es g):oC X (.List es pos) (λY=>(bw (g Y)).bind λds=>!(.lst ds)):=λY=>PE.pu ((yO (h Y)).imp λσ H Q ⟨E,d,q,k⟩=>by
 let⟨ds,z,J⟩:=UD q;cases J;let⟨T,e2⟩:=dB z;refine⟨E,ds,T,λr H1 A I l n f=>⟨by rw[<-l.len];exact Uy e2,λp j=>?_⟩⟩;have t:p ∉ A:=λz=>by
  exact(DeepL.lists ds r A l p z).ne (j)
 refine k _ _ _ (I.trans (Same.new j)) ⟨p,r,A,rfl,ak,rfl,DeepL.frame (NL.of (Same.new j)) ds r A (λa _ o h=>Same.new j _ _ h) l⟩ (List.nodup_cons.mpr ⟨t,n⟩) λa C=>?_;rcases mem_cons.mp C with rfl|C
 .exact I.free j
 .exact f a C) rfl
def Ia{x1}(h:rZ X es g):oC X (.Tuple es x1 pos) (λY=>(bw (g Y)).bind λds=>!(.tup ds)):=λY=>PE.pu ((ua (h Y)).imp λσ H Q ⟨E,d,q,k⟩=>by
 let⟨ds,z,C⟩:=UD q;cases C;let⟨I,e2⟩:=dB z;refine⟨E,ds,I,λr H1 A t l n f=>⟨by rw[<-l.len];exact Uy e2,λp j=>?_⟩⟩;exact k _ _ A (t.trans (Same.new j)) ⟨p,r,rfl,.inl ak,DeepL.frame (NL.of (Same.new j)) ds r A (λa _ o h=>Same.new j _ _ h) l⟩ n f) rfl
abbrev Te(K:Frag)(f:TL):TE:=λσ H Q=>∃z:Vv,Mg K z (f z) σ H Q
def uu{K}(h:Mg K Y ((ah ks fi g ft fe Y).bind λds=>!(.lst ds)) σ H Q):
  rO (tJ K j3 Y (fi Y)) ks (xG K ks g) (xT K ft) (Te K fe) σ H Q:=by
 let⟨E,d,ee,k⟩:=h
 let⟨l,ef,ed⟩:=UD ee
 cases ed
 let⟨ds,e1,e⟩:=UD ef
 let⟨e2,hz⟩:=dB e
 refine⟨E,ds,e1,λJ H1 s1 it=>⟨λi m ys H2=>i<=ds.length/\m=ds.length-i/\Same H1 H2/\∃C rest A,DeepL K H2 H2 C ys A/\A.Nodup/\(∀a∈A,H a=none)/\jv _ (ds.drop i)=!rest/\l=C++rest,
  ⟨ds.length,Nat.zero_le _,by simp,Same.refl _,[],l,[],⟨rfl,rfl⟩,List.nodup_nil,λ_ q=>(nomatch q),by simpa using e2,rfl⟩,?_⟩⟩
 rintro i m ys H2 ⟨hi,rfl,s2,C,rest,A,il,nd,fr,T,et⟩
 have E2:=E.grow (s1.trans s2)
 have hit:=it i H2 j3 s2.msk E2.dom
 have U:ys.length<sizeLine:=by
  rw[<-il.len];have:C.length<=l.length:=by rw[et,length_append];omega
  omega
 by_cases I:i<ds.length
 .refine .inr ?_;have hd:=getElem?_eq_getElem I;let⟨go,yl⟩:=hit.1 _ hd;refine⟨go,U,λx H3 hy=>?_⟩;let⟨s3,ix⟩:=yl x H3 hy;rw[List.drop_eq_getElem_cons I]at T;let⟨o,eo,T⟩:=UD (T);let⟨r,er',T⟩:=UD T;let⟨Y1,g1,eo⟩:=UD eo;let⟨c,c1,eo⟩:=UD eo;refine⟨⟨j3,wipe ks Y,ds[i]⟩,(E2.grow s3).wiped ks,ix,Y1,g1,λσ4 E4 l4 k4=>⟨⟨l4,λj w hw=>?_⟩,⟨j3,Y1⟩,E4,c,c1,λH5 s5=>?_⟩⟩
  .exact k4 j w (wipe_iff.mp hw).2 hw
  .have hm:ds.length-(i+1)<ds.length-i:=by omega
   cases c with
   |true=>
    refine CQ ?_;let⟨y,y1,eo⟩:=UD eo;cases eo;refine⟨Y1,E4.grow s5,y,y1,λv H6 A' s6 iv nv fv=>⟨_,hm,I,rfl,s2.trans (s3.trans (s5.trans s6)),C++[y],r,A++A',?_,?_,?_,er',?_⟩⟩
    .have s36:=s3.trans (s5.trans s6);have il':=DeepL.frame (NL.of s36) C ys A (λa _ o h=>s36 _ _ h) il;exact DeepL.snoc iv il'
    .refine List.nodup_append.mpr ⟨nd,nv,λa t b hb z=>?_⟩;subst z;exact((DeepL.lists C ys A il a t).same (s3.trans s5)).ne (fv a hb)
    .intro a t;rcases mem_append.mp t with t|t
     .exact fr a t
     .exact(s1.trans (s2.trans (s3.trans s5))).free (fv a t)
    .rw[et,<-Option.some.inj T,List.append_assoc];rfl
   |false=>
    refine CP ?_;cases eo;have s35:=s3.trans s5;refine⟨_,hm,I,rfl,s2.trans s35,C,r,A,DeepL.frame (NL.of s35) C ys A (λa _ o h=>s35 _ _ h) il,nd,fr,er',?_⟩;rw[et,<-Option.some.inj T]
 .have hie:i=ds.length:=by omega
  subst hie;refine .inl ⟨hit.2 (UB _),Uy U,λp hp=>?_⟩;rw[List.drop_of_length_le (le_refl _)]at T;cases T;rw[List.append_nil]at et;subst et;have hpA:p ∉ A:=λz=>by
   exact(DeepL.lists l ys A il p z).ne (hp)
  refine k _ _ _ (s1.trans (s2.trans (Same.new hp))) ⟨p,ys,A,rfl,ak,rfl,DeepL.frame (NL.of (Same.new hp)) l ys A (λa _ o h=>Same.new hp _ _ h) il⟩ (List.nodup_cons.mpr ⟨hpA,nd⟩) λa t=>?_;rcases mem_cons.mp t with rfl|t
  .exact(s1.trans s2).free hp
  .exact fr a t
end
def  RK(K:Frag)(B:Bs)(O:T6)(Y:Ev)(o:Option (Sl×Ev)):TE:=λσ H Q=>EnvOk K B O σ H Y/\∃s Y',o=!(s,Y')/\∀v H' O',Same (msk O H) (msk O' H')->EnvOk K B O' (σ++[!v]) H' (Y'++[!s])->Q v H'
def  tM(X:Cx)(e:Expr)(g:TQ):Prop:=∀B O Y,PU X e (RK X.K B O Y (g Y))
section
variable{X:Cx}{e:Expr}
def  c8(f:TL):TQ:=λY=>(f (vw Y)).bind λd=>!((.deep,d),Y)
def  km(f:TK):TQ:=λY=>(f (eg Y)).bind λds=>!((.top,.lst ds),Y)
def  ql(f:TL):TQ:=λY=>(f (eg Y)).bind λd=>!((.sh,d),Y)
def  xy(f:TL):TQ:=λY=>(f (vw Y)).bind λd=>!((.sh,d),eN Y)
def r0(h:oC X e f):tM X e (c8 f):=λB O Y=>(h (vw Y)).imp λσ H Q ⟨E,s,Y',q,k⟩=>by
 let⟨d,l,j⟩:=UD q;cases j;refine⟨E.view,d,l,λv H' A s i n f=>?_⟩;have p:=Deep.lists d v A i;have t:∀b,(O b||decide (b∈A))=true->Hid (H' b):=λb g=>by
  rcases(Bool.or_eq_true _ _).mp g with g|g
  .exact(E.lis b g).same s
  .exact p b (Uo g)
 have le:Same (msk O H) (msk (λb=>O b||decide (b∈A)) H'):=λb o q=>by
  let⟨l,j⟩:=bU q;have g:b ∉ A:=λz=>by rw[f b z]at j;cases j
  rw[aO (by simp[l,g])];exact s _ _ j
 refine k v H' _ le (E.more s le (λb g=>?_) (λb g=>by simp[g]) (λb g=>by simp[g]) p n f ?_)
 .rcases(Bool.or_eq_true _ _).mp g with g|g
  .exact .inl g
  .exact .inr (Uo g)
 .refine Deep.frame (λb o g r=>?_) d v A (λa _ o h=>h) i;cases z:(O b||decide (b∈A))with
  |false=>rw[aO z];exact g
  |true=>
   have e:=t b z;rw[g]at e;exact(r e).elim
def uv(h:PFu X e f):tM X e (km f):=λB O Y=>(h O _).imp λσ H Q ⟨E,s,Y',q,k⟩=>by
 let⟨ds,r,j⟩:=UD q;cases j;refine⟨E.viewS,ds,r,λp xs H' s t l=>?_⟩;have le:Same (msk O H') (msk (λb=>O b||decide (b=p)) (upd H' p (.lst xs))):=λb o q=>by
  let⟨r,j⟩:=bU q;have g:=aG j t;rw[aO (by simp[r,g]),al g];exact j
 refine k _ _ _ (s.msk.trans le) ((E.grow s).more (Same.new t) le (λb g=>?_) (λb g=>by simp[g]) (λb g=>by simp[mem_singleton.mp g]) (λa C=>?_) (by simp) (λa C=>by rw[mem_singleton.mp C];exact t) ⟨p,ds,xs,rfl,rfl,rfl,ak,IsL.mono le ds xs l⟩)
 .rcases(Bool.or_eq_true _ _).mp g with g|g
  .exact .inl g
  .exact .inr (by simp[of_decide_eq_true g])
 .rw[mem_singleton.mp C];exact .inl ⟨xs,ak⟩
def EnvOk.moreSh{K}(E:EnvOk K B O σ H Y)(h:Is K (msk O H) d v):EnvOk K B O (σ++[!v]) H (Y++[!(.sh,d)]):=
 E.more (A:=[]) (Same.refl _) (Same.refl _) (λ_ h=>.inl h) (λ_ h=>h) (λ_ h=>(nomatch h)) (λ_ h=>(nomatch h)) List.nodup_nil (λ_ h=>(nomatch h)) ⟨rfl,h⟩
def zD(h:PPu X e f):tM X e (ql f):=λB O Y=>(h O _).imp λσ H Q ⟨E,s,Y',q,k⟩=>by
 let⟨d,j,g⟩:=UD q;cases g;exact⟨E.viewS,d,j,λv H' s i=>k v H' O s.msk ((E.grow s).moreSh i)⟩
def FJ(h:PPu X e f):tM X e (xy f):=λB O Y=>(h B.O (vw Y)).imp λσ H Q ⟨E,s,Y',q,k⟩=>by
 let⟨d,j,g⟩:=UD q;cases g;let⟨l,le⟩:=E.frozen;exact⟨E.viewF,d,j,λv H' s i=>k v H' B.O (le.trans s.msk) ((l.grow s).moreSh i)⟩
def m7(h1:tM X e f)(h2:tM X e g):tM X e (aS f g):=λB O Y=>(h1 B O Y).by2 (h2 B O Y) λσ H Q ⟨E,s,Y',q,k⟩=>by
 rcases or_some q with q|q;all_goals grind
end
inductive Out where
 |nx (Y:Ev)
 |rt (s:Sl)
 |bk (Y:Ev)
 |ct (Y:Ev)
abbrev _root_.TM:=Ev->Option Out
def  RetOk(K:Frag)(B:Bs)(H':Hp)(s:Sl)(v:V):Prop:=∃(O':T6)(A:List Addr),Same B.H H'/\(∀b,B.O b=true->O' b=true)/\(∀b,O' b=true->Hid (H' b))/\A.Nodup/\(∀a∈A,O' a=true/\B.H a=none)/\OwnC K O' H' s.1 s.2 v A
def  post(K:Frag)(B:Bs)(O:T6)(H:Hp)(En:Ends):Out->Prop
 |.nx Y=>∀σ' H' O',Same (msk O H) (msk O' H')->EnvOk K B O' σ' H' Y->En.nx σ' H'
 |.bk Y=>∀σ' H' O',Same (msk O H) (msk O' H')->EnvOk K B O' σ' H' Y->En.bk σ' H'
 |.ct Y=>∀σ' H' O',Same (msk O H) (msk O' H')->EnvOk K B O' σ' H' Y->En.ct σ' H'
 |.rt s=>∀v H',RetOk K B H' s v->En.rt v H'
def post.mono{K}(s:Same (msk O H) (msk l H1)):∀{o:Out},post K B O H p o->post K B l H1 p o
 |.nx _,h=>λg H' j s' E=>h g H' j (s.trans s') E
 |.bk _,h=>λg H' j s' E=>h g H' j (s.trans s') E
 |.ct _,h=>λg H' j s' E=>h g H' j (s.trans s') E
 |.rt _,h=>h
def  tS(K:Frag)(B:Bs)(O:T6)(Y:Ev)(o:Option Out):TS:=λEn σ H=>EnvOk K B O σ H Y/\∃out,o=!out/\post K B O H En out
def  PR(X:Cx)(st:Stmt)(F:TM):Prop:=∀B O Y,PS X st (tS X.K B O Y (F Y))
def  r6(X:Cx)(st:List Stmt)(F:TM):Prop:=∀B O Y,PSs X st (tS X.K B O Y (F Y))
section
variable{X:Cx}{st:Stmt}{rest:List Stmt}{e:Expr}{pos:Pos}
def m8:r6 X [] (λY=>!(.nx Y)):=λB O Y=>pss_nil.imp λg σ H ⟨E,o,q,k⟩=>by
 cases q;exact k σ H O (Same.refl _) E
noncomputable def  af(F G:TM):TM:=λY=>(F Y).bind λo=>match o with|.nx Y'=>G Y'|o=>!o
def mv(h1:PR X st F)(h2:r6 X rest G):r6 X (st::rest) (af F G):=λB O Y=>
 (mG (h1 B O Y) (PSs.ex λz:(T6)×Ev=>h2 B z.1 z.2)).imp λC σ H ⟨E,o,q,k⟩=>by
 let⟨j,p,g⟩:=UD q;refine⟨E,j,p,?_⟩;cases j with
 |nx Y'=>exactλl H' r s' t=>⟨⟨r,Y'⟩,t,o,g,k.mono s'⟩
 |rt d=>cases g;exact k
 |bk Y'=>cases g;exact k
 |ct Y'=>cases g;exact k
def zE:r6 X rest (λ_=>none):=λB O Y=>pss_never.imp λg σ H ⟨E,o,q,k⟩=>by cases q
def zH:PR X st (λ_=>none):=λB O Y=>ps_never.imp λg σ H ⟨E,o,q,k⟩=>by cases q
def Dj:PR X (.Pass pos) (λY=>!(.nx Y)):=λB O Y=>ps_pass.imp λg σ H ⟨E,o,q,k⟩=>by
 cases q;exact k σ H O (Same.refl _) E
def zI:PR X (.Break pos) (λY=>!(.bk Y)):=λB O Y=>ps_break.imp λEn σ H ⟨E,o,q,k⟩=>by
 cases q;exact k σ H O (Same.refl _) E
def r9:PR X (.Continue pos) (λY=>!(.ct Y)):=λB O Y=>ps_continue.imp λEn σ H ⟨E,o,q,k⟩=>by
 cases q;exact k σ H O (Same.refl _) E
def Ib:PR X (.Expr (.Constant (.str x) j pos) pos') (λY=>!(.nx Y)):=λB O Y=>ps_doc.imp λg σ H ⟨E,o,q,k⟩=>by
 cases q;exact k σ H O (Same.refl _) E
noncomputable def  cG(g:TQ):TM:=λY=>(g Y).bind λz=>!(.rt z.1)
def EnvOk.ret{K}(E:EnvOk K B O σ H Y){i:Nat}(h:Y[i]?=!(!s))(g:σ[i]?=!(!v)):RetOk K B H s v:=by
 let⟨F,h1,h2,p,j⟩:=E.fp;let⟨l,e,o⟩:=h1 i s h;rw[g]at e;cases e;exact⟨O,F i,E.same,E.sub,E.lis,h2 i,j i,o⟩
def zJ(h:tM X e g):PR X (.Return (!e) pos) (cG g):=λB O Y=>(tR (h B O Y).1).imp λt σ H ⟨E,o,q,k⟩=>by
 let⟨⟨s,Y'⟩,p,l⟩:=UD q;cases l;refine⟨E,s,Y',p,λv H' r s' j=>k v H' ?_⟩;have len:σ.length=Y'.length:=by have:=j.len;simp at this;exact this
 exact j.ret (getElem?_last _ _) (by rw[<-len];exact getElem?_last _ _)
def Dk:PR X (.Return none pos) (λ_=>!(.rt (.deep,.non))):=λB O Y=>ps_retN.imp λg σ H ⟨E,o,q,k⟩=>by
 cases q;exact k .non H ⟨O,[],E.same,E.sub,E.lis,List.nodup_nil,λ_ h=>(nomatch h),rfl,rfl⟩
noncomputable def  oE(Y:Ev)(i:Nat):Option Sl:=match Y[i]? with
 |some (!s)=>!s
 |_=>none
def gb(h:oE Y i=!s):Y[i]?=!(!s):=by
 unfold oE at h;grind
def uw(i:Nat)(r:X.N[i]?=!x)(p:tO X.env.scope x)(hd:(!8)=false)(g:(x==("__classdict__":Str))=false):PR X (.Return (!(.Name x t)) pos) (λY=>(oE Y i).bind λs=>!(.rt s)):=λB O Y=>(tR (da r p hd g)).imp λJ σ H ⟨E,o,q,k⟩=>by
 let⟨s,j,l⟩:=UD q;cases l;let⟨F,h1,h2,I,C⟩:=E.fp;let⟨v,e,o⟩:=h1 i s (gb j);exact⟨v,e,k v H (E.ret (gb j) e)⟩
noncomputable def  aD(i:Nat)(g:TQ):TM:=λY=>(g Y).bind λz=>!(.nx (z.2.set i (!z.1)))
def vN{K}(h:tS K B O Y (aD i g Y) r σ H):yH (RK K B O Y (g Y)) (rE i) r σ H:=by
 let⟨E,o,q,k⟩:=h;let⟨⟨s,Y'⟩,l,j⟩:=UD q;cases j;exact⟨E,s,Y',l,λv H' p s' t=>k _ H' p s' (t.put i)⟩
def zK(l:X.N.Nodup)(hi:X.N[i]?=!x)(o:Co X.env.scope x)(h:tM X e g)(r:X.fn x=true\/X.env.scope.names.lookup x=some .local)(j:swapsWith e (!(.Name x pos')) pos.line X.env=pure false\/(swapsWith e (!(.Name x pos')) pos.line X.env=pure true/\X.env.scope.names.lookup x=some .local)):PR X (.Assign [.Name x pos'] e pos) (aD i g):=λB O Y=>by
 rcases j with j|⟨j,p⟩
 .exact(yI l hi o (h B O Y).1 j r).imp λt σ H h=>vN h
 .exact((h B O Y).2 i x pos' pos l hi p j).imp λt σ H h=>vN h
def  bz(f:TL):TM:=λY=>(f (vw Y)).bind λ_=>!(.nx Y)
def Dl(h:PP X e f)(l:swapsWith e none pos.line X.env=pure false):PR X (.Expr e pos) (bz f):=λB O Y=>(gu (h j3 (vw Y)) l).imp λr σ H ⟨E,o,q,k⟩=>by
 let⟨d,j,g⟩:=UD q;cases g;exact⟨E.view,d,j,λv H' s' p=>k σ H' O s'.msk (E.grow s')⟩
def  cu(fc:TN)(F G:TM):TM:=λY=>(fc (vw Y)).bind λc=>if c=true then F Y else G Y
def FK(l:PQ X c t)(r:r6 X a F)(p:r6 X b G):PR X (.If c a b pos) (cu t F G):=λB O Y=>(yE (l j3 (vw Y)) (r B O Y) (p B O Y)).imp λC σ H ⟨E,o,q,k⟩=>by
 let⟨c,j,g⟩:=UD q;refine⟨E.view,c,j,λH' s'=>?_⟩;cases c with
 |true=>rw[if_pos rfl]at g;exact CQ ⟨E.grow s',o,g,k.mono s'.msk⟩
 |false=>rw[if_neg Bool.false_ne_true]at g;exact CP ⟨E.grow s',o,g,k.mono s'.msk⟩
end
def  P2(K:Frag)(B:Bs)(O:T6)(Y:Ev)(d:D)(o:Option Ev):TG:=λv σ H Q=>EnvOk K B O σ H Y/\Is K (msk O H) d v/\∃Y',o=!Y'/\∀σ',EnvOk K B O σ' H Y'->Q σ' H
def  Dm(X:Cx)(tg:Expr)(g:D->Ev->Option Ev):Prop:=∀B O Y d,PG X tg (P2 X.K B O Y d (g d Y))
def  P3(K:Frag)(B:Bs)(O:T6)(Y:Ev)(ds:T9)(o:Option Ev):Ft:=λvs σ H Q=>EnvOk K B O σ H Y/\IsL K (msk O H) ds vs/\∃Y',o=!Y'/\∀σ',EnvOk K B O σ' H Y'->Q σ' H
def  xz(X:Cx)(ts:Ua)(g:T9->Ev->Option Ev):Prop:=∀B O Y ds,PGs X ts (P3 X.K B O Y ds (g ds Y))
def  gz(i:Nat):D->Ev->Option Ev:=λd Y=>!(Y.set i (!(.sh,d)))
noncomputable def  oF:T9->Ev->Option Ev:=λds Y=>match ds with|[]=>!Y|_=>none
noncomputable def  eh(g:D->Ev->Option Ev)(gs:T9->Ev->Option Ev):T9->Ev->Option Ev:=λds Y=>match ds with|d::r=>(g d Y).bind λY1=>gs r Y1|_=>none
noncomputable def  Cr(n:Nat)(gs:T9->Ev->Option Ev):D->Ev->Option Ev:=λd Y=>match d with|.tup ds=>if ds.length=n then gs ds Y else none|_=>none
section
variable{X:Cx}{e tg iter:Expr}{pos:Pos}
def Dn(o:X.N.Nodup)(hi:X.N[i]?=!x)(j:Co X.env.scope x)(l:X.fn x=true\/X.env.scope.names.lookup x=some .local):Dm X (.Name x pos) (gz i):=
 λB O Y d=>(vq o hi j l).imp λv σ H Q ⟨E,g,Y',e,k⟩=>by
 cases e
 exact k _ (E.setSh g)
def Do:xz X [] oF:=λB O Y ds=>pgs_nil.imp λj σ H Q ⟨E,g,Y',e,k⟩=>by
 cases ds with
 |nil=>cases e;exact⟨g,k σ E⟩
 |cons _ _=>cases e
def gse_cons(h1:Dm X e g)(h2:xz X o gs)(U:(assignEach (e::o) X.env).map (·.2)=assign e X.env::(assignEach o X.env).map (·.2)):xz X (e::o) (eh g gs):=λB O Y ds=>by
 cases ds with
 |nil=>exactλpins s σ H C us Q I r ⟨_,_,Y',e,_⟩=>by cases e
 |cons d r=>
  refine(rF (h1 B O Y d) (PGs.ex λz:Ev=>h2 B O z r) U).imp λC σ H Q ⟨E,⟨x,t,z,J,T⟩,Y',e,k⟩=>?_;let⟨j,e1,e2⟩:=UD (e);exact⟨x,t,z,E,J,j,e1,λp E1=>⟨j,E1,T,Y',e2,λl E2=>k l E2⟩⟩
def Ic(I:X.calm=true)(h:xz X g p)(C:(assignEach g X.env).length=n)(j:(assignEach g X.env).findIdx? (·.1)=none):Dm X (.Tuple g k pos) (Cr n p):=λB O Y d=>by
 refine(yG I (PGs.ex λz:T9=>h B O Y z) C j).imp λv σ H Q ⟨E,r,Y',e,k⟩=>?_;cases d with
 |tup ds=>
  let⟨a,xs,rfl,t,o⟩:=r;have l:(if ds.length=n then p ds Y else none)=!Y':=e;split at l
  .exact⟨a,xs,rfl,msk_le.seqT t,by rw[<-o.len];assumption,ds,E,o,Y',l,k⟩
  .cases l
 |_=>cases e
noncomputable def  jg(step:D->TM):T9->TM
 |[],Y=>!(.nx Y)
 |d::ds,Y=>(step d Y).bind λo=>match o with
  |.nx Y'=>jg step ds Y'
  |.ct Y'=>jg step ds Y'
  |.bk Y'=>!(.nx Y')
  |.rt v=>!(.rt v)
noncomputable def  ig(g:D->Ev->Option Ev)(F:TM):D->TM:=λd Y=>(g d Y).bind F
def  xA(fi:TK)(g:D->Ev->Option Ev)(F:TM):TM:=λY=>(fi (eg Y)).bind λds=>jg (ig g F) ds Y
def  zL(fi:TK)(g:D->Ev->Option Ev)(F:TM):TM:=λY=>(fi (vw Y)).bind λds=>jg (ig g F) ds (eN Y)
def vO{K}(E:EnvOk K B O σ H Y)(V:VE K O σ H Yv)(q:(o.bind λds=>jg (ig g F) ds Y)=!out)(k:post K B O H En out):
  GT (tJ K O Yv o) (λv σ H Q=>∃z:(T6)×Ev×D,P2 K B z.1 z.2.1 z.2.2 (g z.2.2 z.2.1) v σ H Q) (λEn σ H=>∃z:(T6)×Ev,tS K B z.1 z.2 (F z.2) En σ H) En σ H:=by
 let⟨ds,q1,q⟩:=UD q
 refine⟨V,ds,q1,λJ H1 s1 it=>⟨λi m j H'=>i<=ds.length/\m=ds.length-i/\∃O' Y',Same _ (msk O' H')/\EnvOk K B O' j H' Y'/\jg _ (ds.drop i) Y'=!out,
  ⟨ds.length,Nat.zero_le _,by simp,O,Y,Same.refl _,E.grow s1,by simpa using q⟩,?_⟩⟩
 rintro i m σ2 H2 ⟨hi,rfl,U,Y2,s2,E2,e2⟩
 have hit:=it i H2 U s2 E2.dom
 by_cases p:i<ds.length
 .refine .inr ?_;have hd:=getElem?_eq_getElem p;let⟨go,yl⟩:=hit.1 _ hd;refine⟨go,λj H'=>i+1<=ds.length/\∃O' Y',Same _ _/\EnvOk K B O' j H' Y'/\jg _ _ Y'=!out,λj H' ⟨a,b⟩=>⟨ds.length-(i+1),by omega,a,rfl,b⟩,λx H3 hy=>?_⟩;let⟨s3,ix⟩:=yl x H3 hy;rw[List.drop_eq_getElem_cons p]at e2;let⟨o1,e3,T⟩:=UD (e2);let⟨t,g3,f3⟩:=UD e3;refine⟨⟨U,Y2,ds[i]⟩,E2.grow s3,ix,t,g3,λσ4 E4=>⟨⟨U,t⟩,E4,o1,f3,?_⟩⟩;have s4:=s2.trans s3.msk;cases o1 with
  |nx l=>exactλr H5 C s5 I=>⟨p,C,l,s4.trans s5,I,T⟩
  |ct l=>exactλr H5 C s5 I=>⟨p,C,l,s4.trans s5,I,T⟩
  |bk l=>
   cases T;exactλr H5 C s5 I=>k r H5 C (s1.msk.trans (s4.trans s5)) I
  |rt d=>
   cases T;exact k
 .have hie:i=ds.length:=by omega
  subst hie;rw[List.drop_of_length_le (le_refl _)]at e2;cases e2;exact .inl ⟨hit.2 (UB _),k σ2 H2 U (s1.msk.trans s2) E2⟩
def Ie(l:PassesOwn (!5) X.A X.env X.xe)(p:X.calm=true)(hi:PJ X tg iter t)(o:Dm X tg g)(r:r6 X body F)(j:∀x,foldedSetIterable iter X.env x=pure x):PR X (.For tg iter body [] pos) (xA t g F):=λB O Y=>
 (pW l p (hi O _) (PG.ex λz:(T6)×Ev×D=>o B z.1 z.2.1 z.2.2) (PSs.ex λz:(T6)×Ev=>r B z.1 z.2) j).imp λC σ H ⟨E,out,q,k⟩=>vO E E.viewS q k
def Dp(l:PassesOwn (!5) X.A X.env X.xe)(p:X.calm=true)(hi:PJ X tg iter t)(o:Dm X tg g)(r:r6 X body F)(j:∀x,foldedSetIterable iter X.env x=pure x):PR X (.For tg iter body [] pos) (zL t g F):=λB O Y=>
 (pW l p (hi B.O (vw Y)) (PG.ex λz:(T6)×Ev×D=>o B z.1 z.2.1 z.2.2) (PSs.ex λz:(T6)×Ev=>r B z.1 z.2) j).imp λC σ H ⟨E,out,q,k⟩=>vO E.frozen.1 E.viewF q (k.mono E.frozen.2)
def FL{st}(h1:PR X st F)(h2:PR X st G):PR X st (aS F G):=λB O Y=>(h1 B O Y).by2 (h2 B O Y) λg σ H ⟨E,out,q,k⟩=>by
 rcases or_some q with q|q;all_goals grind
end
section
variable{K:Frag}{B:Bs}{O:T6}{σ:St}{H:Hp}{Y:Ev}
def EnvOk.ownAt(E:EnvOk K B O σ H Y){i:Nat}(h:Y[i]?=!(!(c,.lst ds)))(C:c≠.sh):
  ∃a xs,σ[i]?=!(!(.ref a))/\H a=!(.lst xs)/\ds.length=xs.length/\O a=true/\B.H a=none:=by
 let⟨F,h1,h2,J,r⟩:=E.fp
 let⟨v,e,o⟩:=h1 i _ h
 cases c with
 |sh=>exact absurd rfl C
 |top=>
  let⟨a,I,xs,p,j,g,t,l⟩:=o;cases p;refine⟨a,xs,by rw[e,j],t,l.len,?_⟩;exact r i a (by rw[g];exact Ul)
 |deep=>
  let⟨a,xs,T,p,j,g,l⟩:=o;refine⟨a,xs,by rw[e,p],j,DeepL.len l,?_⟩;exact r i a (by rw[g];exact Ul)
def  Om(f:{α:Type}->List α->α->List α):Prop:=∀{K:Frag}{M H:Hp}{ds:T9}{xs:List V}{A A1:List Addr}{d:D}{v:V},DeepL K M H ds xs A->Deep K M H d v A1->(A++A1).Nodup->
 ∃A',DeepL K M H (f ds d) (f xs v) A'/\A'.Nodup/\∀b∈A',b∈A\/b∈A1
def  On(f:{α:Type}->List α->α->List α):Prop:=∀{K:Frag}{M:Hp}{ds:T9}{xs:List V}{d:D}{v:V},IsL K M ds xs->Is K M d v->IsL K M (f ds d) (f xs v)
def  newCat(c:Cat)(s:Sl):Cat:=if c=.deep/\s.1=.deep then .deep else .top
def EnvOk.redo{v:V}{s:Sl}(E:EnvOk K B O (σ++[!v]) H (Y++[!s])){F:Nat->List Addr}(h1:∀j x,(Y++[!s])[j]?=!(!x)->∃w,(σ++[!v])[j]?=!(!w)/\OwnC K O H x.1 x.2 w (F j))(h2:∀j,(F j).Nodup)(h3:∀j k b,b∈F j->b∈F k->j=k)(h4:∀j b,b∈F j->O b=true/\B.H b=none)
  {i:Nat} {a:Addr} {o:HO} {c:Cat} {d:D} {A:List Addr} {r:T6} (hi:i<Y.length) (e:σ[i]?=!(!(.ref a))) (ha:a∈F i) (hr:∀b,r b=true->O b=true) (rk:∀b,O b=true->r b=true\/b∈F i\/b∈F Y.length) (nd:A.Nodup) (sub:∀b∈A,r b=true/\(b∈F i\/b∈F Y.length)) (aA:a∈A) (ho:Hid (!o)) (le:Same (msk O H) (msk r H))
  (own:Same (msk O H) (msk r (upd H a o))->OwnC K r (upd H a o) c d (.ref a) A):∃r,EnvOk K B r σ (upd H a o) (Y.set i (!(c,d)))/\Same (msk O H) (msk r (upd H a o)):=by
 have le:Same (msk O H) (msk r (upd H a o)):=by rw[iV (sub a aA).1];exact le
 have key:∀j b,b∈(if j=i then A else if j=Y.length then[]else F j)->∃j',b∈F j'/\r b=true/\(if j'=Y.length then i else j')=j:=λj b p=>by
  split at p
  .rename_i t;obtain⟨q,z|z⟩:=sub b p
   .exact⟨i,z,q,(if_neg (Us hi)).trans t.symm⟩
   .exact⟨_,z,q,(if_pos rfl).trans t.symm⟩
  .rename_i t;split at p
   .cases p
   .rename_i t';exact⟨j,p,(rk b (h4 _ b p).1).resolve_right λz=>z.elim (λz=>t (h3 _ _ b p z)) λz=>t' (h3 _ _ b p z),if_neg t'⟩
 refine⟨r,⟨λb u z=>?_,E.bdom,λb g=>?_,λb g=>?_,by simpa using E.len,λj=>if j=i then A else if j=Y.length then[]else F j,λj x q=>?_,λj=>?_,λj k b p q=>?_,λj b p=>?_⟩,le⟩
 .rw[al (aG z (h4 i a ha).2)];exact E.same b u z
 .exact(rk b (E.sub b g)).resolve_right λz=>E.bdom b g (z.elim (λz=>(h4 _ b z).2) λz=>(h4 _ b z).2)
 .by_cases t:b=a
  .subst t;rw[ak];exact ho
  .rw[al t];exact E.lis b (hr b g)
 .rcases get_set_some q with⟨t,q'⟩|⟨t,q'⟩
  .cases q';subst t;exact⟨_,e,by dsimp only;rw[if_pos rfl];exact own le⟩
  .have jl:=(Uk.mp q').1;let⟨w,e2,o2⟩:=h1 j x (by rw[getElem?_append_left jl];exact q');refine⟨w,cc (by have:=E.len;simp at this;omega) e2,?_⟩;dsimp only;rw[if_neg t,if_neg (Nat.ne_of_lt jl)];exact o2.frame le λb g u q=>(al λz:b=a=>t (h3 _ _ a (z▸g) ha)).trans q
 .dsimp only;split
  .exact nd
  .split
   .exact List.nodup_nil
   .exact h2 _
 .let⟨_,p',_,rfl⟩:=key _ _ p;let⟨_,q',_,rfl⟩:=key _ _ q;rw[h3 _ _ b p' q']
 .let⟨_,p,q,_⟩:=key _ _ p;exact⟨q,(h4 _ _ p).2⟩
def EnvOk.change{v:V}{s:Sl}(E:EnvOk K B O (σ++[!v]) H (Y++[!s]))(f:{α:Type}->List α->α->List α)(hw:Om f)(hi:On f){i:Nat}{c:Cat}{ds:T9}(h:Y[i]?=!(!(c,.lst ds)))(hc:c≠.sh):
  ∃a xs,σ[i]?=!(!(.ref a))/\H a=!(.lst xs)/\ds.length=xs.length/\∃O',EnvOk K B O' σ (upd H a (.lst (f xs v))) (Y.set i (!(newCat c s,.lst (f ds s.2))))/\Same (msk O H) (msk O' (upd H a (.lst (f xs v)))):=by
 let⟨F,h1,h2,h3,h4⟩:=E.fp
 have len:σ.length=Y.length:=by have:=E.len;simp at this;exact this
 have hil:=(Uk.mp h).1
 let⟨v',e1,o1⟩:=h1 Y.length s (getElem?_last _ _)
 rw[<-len,getElem?_last]at e1
 cases e1
 let⟨v0,e0,o0⟩:=h1 i _ (by rw[getElem?_append_left hil];exact h)
 have e0':=cc (!3) e0
 have at_:∃a xs U,v0=.ref a/\H a=!(.lst xs)/\F i=a::U/\ds.length=xs.length/\(c=.deep->DeepL K (msk O H) H ds xs U)/\(∀r,Same (msk O H) (msk r H)->(∀b∈U,r b=false)->IsL K (msk r H) ds xs):=by
  cases c with
  |sh=>exact absurd rfl hc
  |top=>
   let⟨a,_,xs,z1,z2,z3,z4,l⟩:=o0;cases z1;exact⟨a,xs,[],z2,z4,z3,l.len,nofun,λr le _=>IsL.mono le _ _ l⟩
  |deep=>
   let⟨a,xs,U,z1,z2,z3,l⟩:=o0;exact⟨a,xs,U,z1,z2,z3,DeepL.len l,λ_=>l,λr le hA=>DeepL.is (NL.of le) ds xs U (λb g o q=>by rw[aO (hA b g)];exact q) l⟩
 let⟨a,xs,U,rfl,ha,hF,hl,hdeep,htop⟩:=at_
 have J:a∈F i:=by rw[hF];exact Ul
 have nd:=h2 i
 rw[hF,List.nodup_cons]at nd
 have C:∀b∈U,b∈F i:=λb g=>by rw[hF];exact Um _ g
 have dj:∀b∈F i,b ∉ F Y.length:=λb g z=>Us hil (h3 _ _ b g z)
 refine⟨a,xs,e0',ha,hl,?_⟩
 by_cases hd:c=.deep/\s.1=.deep
 .let⟨rfl,hs⟩:=hd;let⟨sc,sd⟩:=s;cases hs;let⟨A2,l2,n2,sub⟩:=hw (hdeep rfl) o1 (List.nodup_append.mpr ⟨nd.2,h2 _,λx hx y hy z=>dj x (C x hx) (z▸hy)⟩);have na:a ∉ A2:=λz=>(sub a z).elim nd.1 (dj a J);exact E.redo h1 h2 h3 h4 hil e0' J (λ_ z=>z) (λ_ z=>.inl z) (List.nodup_cons.mpr ⟨na,n2⟩) (λb z=>by
   have z:b∈F i\/b∈F Y.length:=(mem_cons.mp z).elim (λz=>.inl (z▸J)) λz=>(sub b z).imp_left (C b);exact⟨z.elim (λz=>(h4 _ b z).1) λz=>(h4 _ b z).1,z⟩) Ul (.inl ⟨_,rfl⟩) (Same.refl _) λle=>⟨a,_,A2,rfl,ak,rfl,DeepL.frame (NL.of le) _ _ A2 (λb g o q=>(al λz:b=a=>na (z▸g)).trans q) l2⟩
 .rw[show newCat c s=.top from if_neg hd];have le:Same (msk O H) (msk (λb=>O b&&not (decide (b∈U))&&not (decide (b∈F Y.length))) H):=λb o q=>by
   let⟨q1,q2⟩:=bU q;rw[aO (by simp[q1])];exact q2
  have ra:(O a&&not (decide (a∈U))&&not (decide (a∈F Y.length)))=true:=by simp[(h4 i a J).1,nd.1,dj a J]
  refine E.redo h1 h2 h3 h4 hil e0' J (λb z=>by simp at z;exact z.1.1) (λb z=>?_) (List.nodup_cons.mpr ⟨List.not_mem_nil,List.nodup_nil⟩) (λb z=>by cases mem_singleton.mp z;exact⟨ra,.inl J⟩) Ul (.inl ⟨_,rfl⟩) le λ_=>⟨a,_,_,rfl,rfl,rfl,ak,?_⟩
  .by_cases t:b∈U
   .exact .inr (.inl (C b t))
   .by_cases t':b∈F Y.length
    .exact .inr (.inr t')
    .exact .inl (by simp[z,t,t'])
  .rw[iV ra];exact hi (htop _ le λb g=>by simp[g]) (o1.is le λb g=>by simp[g])
end
end L2
namespace L2
open PySem PySem.Spec PyProof.Rows
noncomputable def  ii{α:Type}(l:List α)(x:α):List α:=l++[x]
def zM:Om ii:=λh q g=>⟨_,DeepL.snoc q h,g,λb j=>mem_append.mp j⟩
def zN:On ii:=λh q=>h.app ⟨_,[],rfl,q,rfl⟩
def DeepL.setAt{K}(h:Deep K M H d v A1):∀{ds:T9}{xs:List V}{A:List Addr}(j:Nat),DeepL K M H ds xs A->(A++A1).Nodup->
  ∃A',DeepL K M H (ds.set j d) (xs.set j v) A'/\A'.Nodup/\∀b∈A',b∈A\/b∈A1
 |[],_,_,_,l,nd=>by
  let⟨rfl,rfl⟩:=l;exact⟨[],⟨rfl,rfl⟩,List.nodup_nil,λ_ hb=>(nomatch hb)⟩
 |c::ds,_,_,0,⟨x,r,A0,A2,e,z,q,l⟩,nd=>by
  subst e;subst z;rw[List.append_assoc]at nd;let⟨n1,n2,n3⟩:=List.nodup_append.mp nd;let⟨m1,m2,m3⟩:=List.nodup_append.mp n2;refine⟨A1++A2,⟨v,r,A1,A2,rfl,rfl,h,l⟩,List.nodup_append.mpr ⟨m2,m1,λa ha b hb z=>m3 b hb a ha z.symm⟩,λb hb=>?_⟩;rcases mem_append.mp hb with hb|hb
  .exact .inr hb
  .exact .inl (Uw _ hb)
 |c::ds,_,_,j+1,⟨x,r,A0,A2,e,z,q,l⟩,nd=>by
  subst e;subst z;rw[List.append_assoc]at nd;let⟨n1,n2,n3⟩:=List.nodup_append.mp nd;let⟨A',l',nd',sub⟩:=DeepL.setAt h j l n2;refine⟨A0++A',⟨x,r.set j v,A0,A',rfl,rfl,q,l'⟩,List.nodup_append.mpr ⟨n1,nd',λa ha b hb z=>?_⟩,λb hb=>?_⟩
  .rcases sub b hb with hb|hb
   .exact n3 a ha b (Uv _ hb) z
   .exact n3 a ha b (Uw _ hb) z
  .rcases mem_append.mp hb with hb|hb
   .exact .inl (Uv _ hb)
   .rcases sub b hb with hb|hb
    .exact .inl (Uw _ hb)
    .exact .inr hb
noncomputable def  Ig(j:Nat){α:Type}(l:List α)(x:α):List α:=l.set j x
def Mh(j:Nat):Om (Ig j):=λh q g=>DeepL.setAt q j h g
def i_set(j:Nat):On (Ig j):=λh q=>.of (mX q j h.paired)
section
variable{X:Cx}{e:Expr}{pos:Pos}
def  jh(Y:Ev)(i:Nat):Option (Cat×List D):=(oE Y i).bind λs=>match s with
 |(.sh,_)=>none
 |(c,.lst ds)=>!(c,ds)
 |_=>none
def eG(h:jh Y i=!(c,ds)):Y[i]?=!(!(c,.lst ds))/\c≠.sh:=by
 let⟨⟨j,d⟩,e,q⟩:=UD h;have g:=gb e;grind
def  m9(i:Nat)(g:TQ):TM:=λY=>(jh Y i).bind λ_=>(g Y).bind λz=>(jh z.2 i).bind λw=>if w.2.length+1<big then !(.nx (z.2.set i (!(newCat w.1 z.1,.lst (w.2++[z.1.2])))))else none
def i7(i:Nat)(h:tM X e g)(hN:X.N[i]?=!x)(hv:tO X.env.scope x)(hd:(!8)=false)(p:(x==("__classdict__":Str))=false)(j:starEach [e] X.env=(false,eval e X.env)::starEach [] X.env)(l:(apos.endLine==cpos.line)=true):PR X (.Expr (.Call (.Attribute (.Name x px) "append" apos) [e] [] cpos) pos) (m9 i g):=λB O Y=>
 (gu (mQ PySem.F.plainAttrs_list PySem.F.slot_list_append PySem.F.type_list_append kO (da hN hv hd p) (bv (h B O Y).1 pa_nil j) rfl (by rw[j];rfl) l j rfl)).imp λEn σ H ⟨E,o,q,k⟩=>by
 let⟨⟨c0,ds0⟩,q1,q⟩:=UD q;let⟨⟨s,Y'⟩,q2,q⟩:=UD q;let⟨⟨c,ds⟩,q3,q⟩:=UD q;let⟨hz,q⟩:=az q;subst q;let⟨h0,t⟩:=eG q1;let⟨h1,r⟩:=eG q3;let⟨a,I,C,r3,_⟩:=E.ownAt h0 t;refine⟨.ref a,C,.inl ⟨rfl,_,SqL.of r3⟩,E,s,Y',q2,λv H1 O1 T E1=>?_⟩;let⟨a',xs,e2,U,hl,O2,E2,J⟩:=E1.change ii zM zN h1 r;rw[C]at e2;cases e2;exact⟨a,xs,v,rfl,rfl,U,by rw[jN,<-hl];exact Nat.lt_of_succ_lt hz,k σ _ O2 (T.trans J) E2⟩
def  cg(i:Nat)(fk:TL)(g:TQ):TM:=λY=>(g Y).bind λz=>(jh z.2 i).bind λw=>(fk (vw z.2)).bind λy=>match y with
 |.int k=>(re w.2.length k).bind λj=>!(.nx (z.2.set i (!(newCat w.1 z.1,.lst (w.2.set j z.1.2)))))
 |_=>none
def Ih(i:Nat)(h:tM X e g)(hk:PP X p fk)(hN:X.N[i]?=!x)(hv:tO X.env.scope x)(hd:(!8)=false)(J:(x==("__classdict__":Str))=false)(ha:∀v,assign (.Subscript (.Name x r) p l) X.env v=(do
   let C<-holding [v] (eval (.Name x r) X.env)
   let I<-holding [v,C] (eval p X.env)
   standAt l
   holding [v,C,I] (setItem C I v)
   release [v,C,I] [])) (hs:swapsWithSole [.Subscript (.Name x r) p l] e pos.line X.env=pure false) (hw:swappedStores [.Subscript (.Name x r) p l] e X.env=pure none) (h1:(assignEach [.Subscript (.Name x r) p l] X.env).map (·.2)=[assign (.Subscript (.Name x r) p l) X.env]):PR X (.Assign [.Subscript (.Name x r) p l] e pos) (cg i fk g):=λB O Y=>
 (GS (h B O Y).1 (GR (da hN hv hd J) (PE.ex λz:Vv=>hk j3 z) yX ha) hs hw h1).imp λEn σ H ⟨E,o,q,k⟩=>by
 let⟨⟨s,Y'⟩,q1,q⟩:=UD q
 let⟨⟨c,ds⟩,q2,q⟩:=UD q
 let⟨y,q3,q⟩:=UD q
 let⟨h0,t⟩:=eG q2
 refine⟨E,s,Y',q1,λv H1 O1 s1 T=>?_⟩
 let⟨a,xs0,e1,_⟩:=T.drop.ownAt h0 t
 refine⟨.ref a,e1,vw Y',T.drop.view,y,q3,λyv H2 U iy=>?_⟩
 cases y with
 |int n=>
  let⟨j,j1,q⟩:=UD q;cases q;cases(iy);let⟨a',xs,e2,r4,hl,O2,E2,s3⟩:=(T.grow U).change (Ig j) (Mh j) (i_set j) h0 t;rw[e1]at e2;cases e2;exact⟨a,xs,n,j,rfl,rfl,r4,by rw[<-hl];exact j1,k σ _ O2 (s1.trans (U.msk.trans s3)) E2⟩
 |_=>cases q
end
def  Ii(K:Frag)(f:TJ):Sp:=λvs H Q _=>∃O ds s,(∀b,O b=true->Hid (H b))/\IsL K (msk O H) ds vs/\f ds=!s/\∀v H',RetOk K ⟨H,O⟩ H' s v->Q v H'
def  ar(n:Nat)(ds:T9):Ev:=ds.map (λd=>!(.sh,d))++List.replicate (n-ds.length) none
noncomputable def  Mi(o:Option Out):Option Sl:=o.bind λo=>match o with
 |.rt d=>!d
 |.nx _=>!(.deep,.non)
 |_=>none
def  aR(n m:Nat)(F:TM)(ds:T9):Option Sl:=if ds.length=n then Mi (F (ar m ds))else none
def pz(h:aR n m F ds=!d):ds.length=n/\Mi (F (ar m ds))=!d:=by
 unfold aR at h;grind
section
variable{P:Program}{w:World}{K:Frag}{mg:Str->TZ}{base:Heap}
def ux{i:Nat}(q:(ar n ds)[i]?=!(!s)):∃d,ds[i]?=!d/\s=(.sh,d):=by
 unfold ar at q;grind
def nb{O:T6}{H:Hp}{N:T3}{g:List V}{ds:T9}(hd:∀b,O b=true->Hid (H b))(j:IsL K (msk O H) ds g):EnvOk K ⟨H,O⟩ O (gZ N g) H (ar N.length ds) where
 same:=Same.refl _
 bdom:=λb h=>(hd b h).ne
 sub:=λ_ h=>h
 lis:=hd
 len:=by
  unfold gZ ar;rw[length_append,length_append,length_map,length_map,List.length_replicate,List.length_replicate,j.len]
 fp:=by
  refine⟨λ_=>[],λi s q=>?_,λ_=>List.nodup_nil,λ_ _ _ h=>(nomatch h),λ_ _ h=>(nomatch h)⟩;let⟨d,e,rfl⟩:=ux q;let⟨x,l,o⟩:=j.get e;refine⟨x,?_,rfl,o⟩;have hi:=(Uk.mp l).1;unfold gZ;rw[getElem?_append_left (by rw[length_map];exact hi),getElem?_map,l];rfl
def Dq{st}(Fn:Fun K x l st f fd)(S:FnScope N ps (aj st))(T:∀(j:Value)(A:Around)(g:List Env)(s:Shared)(H:Hp)(E:XK),Room k (A.deeper (envOfC l (aj st) s.heap.objs.size f j))->r6 (jK rg P w K mg base N l (aj st) f j A g s H E).nox (aU st) F):
  FnOk P w K mg base rg (k+1) f fd ps (Ii K (aR ps.length N.length F)):=by
 refine Fn.ok S (λI H Q E ⟨O,ds,d,_,p,e,_⟩=>by rw[<-p.len];exact(pz e).1) (λj A g s H I Q E J ⟨O,ds,d,hd,p,e,t⟩=>?_)
 refine⟨_,T j A g s H E J ⟨H,O⟩ O _,nb hd p,?_⟩
 let⟨o,U,e2⟩:=UD (pz e).2
 refine⟨o,U,?_⟩
 cases o with
 |rt d'=>cases e2;exact t
 |nx Y=>cases e2;exactλC H' O' s' r=>t .non H' ⟨O',[],r.same,r.sub,r.lis,List.nodup_nil,λ_ h=>(nomatch h),rfl,rfl⟩
 |bk Y=>cases e2
 |ct Y=>cases e2
structure Df(P:Program)(w:World)(K:Frag)(mg:Str->TZ)(base:Heap)(x:Str)(k:Nat)(f:TJ):Prop where
 ex:∃(a:Addr)(fd:FuncData)(ps:T3),mg x=!(.ref a)/\PySem.W.keepIn K (.ref a)=true/\Binds K fd ps []/\FnOk P w K mg base rg k a fd ps (Ii K f)
def RetOk.is(hd:∀b,O b=true->Hid (H b))(r:RetOk K ⟨H,O⟩ H' s v):Same H H'/\Is K (msk O H') s.2 v:=by
 let⟨J,A,h1,h2,I,C,t,p⟩:=r;refine⟨h1,p.is (λb o q=>?_) λa l=>?_⟩
 .let⟨g,j⟩:=bU q;rw[aO];exact j;cases z:O b with
  |false=>rfl
  |true=>rw[h2 b z]at g;cases g
 .cases z:O a with
  |false=>rfl
  |true=>exact absurd (t a l).2 (hd a z).ne
end
section
variable{X:Cx}{x:Str}{p pos apos:Pos}{e o:Expr}{es:Ua}{k:Nat}{f:TJ}{fa:TK}
noncomputable def  gT(o:Option Sl):Ub:=o.bind λs=>!s.2
noncomputable def  se(o:Option Sl):Ub:=o.bind λs=>match s with
 |(.deep,d)=>!d
 |_=>none
def Dr(F:Df X.prog X.w X.K X.mg X.base x k f)(hr:Room k X.A)(hg:Gl X x)(ha:PX X (e::es) fa)(l:(!8)=false)(he:starEach (e::es) X.env=(false,eval e X.env)::starEach es X.env)(j:(!18).any (·.1)=false):
  PP X (.Call (.Name x p) (e::es) [] pos) (λY=>(fa Y).bind λds=>gT (f ds)):=λO Y=>by
 let⟨a,fd,ps,hm,hk,hb,G⟩:=F.ex
 refine(vy G hr hg hm hk hb .nil vC (ha O Y) l he j).imp λσ H Q ⟨E,d,q,U⟩=>?_
 let⟨ds,T,J⟩:=UD q
 let⟨s,I,C⟩:=UD J
 cases C
 refine⟨E,ds,T,λo H1 g il=>?_⟩
 show Ii X.K f (o++[]) H1 Q E0
 rw[List.append_nil]
 refine⟨O,ds,s,(E.grow g).lis,il,I,λv H2 r=>?_⟩
 let⟨t,iv⟩:=r.is (E.grow g).lis
 exact U v H2 (g.trans t) iv
def Ds(F:Df X.prog X.w X.K X.mg X.base x k f)(hr:Room k X.A)(hg:Gl X x)(t:PX X (e::es) fa)(o:(!8)=false)(he:starEach (e::es) X.env=(false,eval e X.env)::starEach es X.env)(l:(!18).any (·.1)=false):
  oC X (.Call (.Name x p) (e::es) [] pos) (λY=>(fa Y).bind λds=>se (f ds)):=λY=>by
 let⟨a,fd,ps,hm,hk,hb,G⟩:=F.ex
 refine PE.pu ((vy G hr hg hm hk hb .nil vC (t j3 Y) o he l).imp λσ H Q ⟨E,d,q,U⟩=>?_) rfl
 let⟨ds,T,J⟩:=UD q
 let⟨⟨c,d'⟩,I,j⟩:=UD J
 cases c with
 |sh=>cases j
 |top=>cases j
 |deep=>
  cases j;refine⟨E,ds,T,λC H1 g il=>?_⟩;show Ii X.K f (C++[]) H1 Q E0;rw[List.append_nil];refine⟨j3,ds,_,(E.grow g).lis,il,I,λv H2 r=>?_⟩;let⟨O',A,h1,h2,h3,h4,h5,h6⟩:=r;exact U v H2 A (g.trans h1) (Deep.frame (NL.of msk_le) _ v A (λ_ _ _ h=>h) h6) h4 λa t=>g.free (h5 a t).2
end
noncomputable def  qm:T3->Str->Option Nat
 |[],_=>none
 |y::r,x=>if y=x then some 0 else(qm r x).map (·+1)
def gc:∀{l:T3}{x:Str}{i:Nat},qm l x=!i->l[i]?=!x
 |[],_,_,h=>by cases h
 |y::r,x,i,h=>by
  unfold qm at h;split at h
  .rename_i e;cases h;simp[e]
  .cases e:qm r x with
   |none=>rw[e]at h;cases h
   |some j=>
    rw[e]at h;cases h;have:=gc e;simpa using this
structure Glob where
 fn:Str->Option (Nat×(TJ))
 cn:Str->Ub
 no:Str->Bool
 fl:Str->Str->Bool
structure SE where
 N:T3
 nm:List (Str×NameKind)
 k:Nat
 G:Glob
noncomputable def  fO(x:Str):Bool:=not (!8)&&not (x==("__classdict__":Str))&&not (decide (x=("__name__":Str)))
noncomputable def  vP:Option NameKind->Bool
 |some .local=>true
 |some .cell=>true
 |some .free=>true
 |_=>false
def  slot(S:SE)(x:Str):Option Nat:=if fO x&&vP (S.nm.lookup x)then qm S.N x else none
noncomputable def  qo(x:Str):Option String:=if x=("int":Str)then some "int"else if x=("bool":Str)then some "bool"else if x=("str":Str)then some "str"else if x=("list":Str)then some "list"else if x=("tuple":Str)then some "tuple"else if x=("dict":Str)then some "dict"else none
def uy(h:qo x=!n):bootBuiltins x=!(.type n):=by
 unfold qo at h;split at h
 .rename_i e;cases h;subst e;decide+kernel
 .split at h
  .rename_i e;cases h;subst e;decide+kernel
  .split at h
   .rename_i e;cases h;subst e;decide+kernel
   .split at h
    .rename_i e;cases h;subst e;decide+kernel
    .split at h
     .rename_i e;cases h;subst e;decide+kernel
     .split at h
      .rename_i e;cases h;subst e;decide+kernel
      .cases h
def bZ(h:fO x=true):(!8)=false/\(x==("__classdict__":Str))=false/\x≠("__name__":Str):=by grind [fO]
section
variable{X:Cx}{e o:Expr}{es:Ua}{p pos apos:Pos}
def  ji(fl:Str->Str->Bool)(m:Str):D->Ub
 |.obj C ns ds=>if fl C m then(ns.zip ds).lookup m else none
 |_=>none
def ng{K}:∀{fs:List (Str×V)}{ds:T9},IsL K H ds (fs.map (·.2))->((fs.map (·.1)).zip ds).lookup f=!d->∃v,fs.lookup f=!v/\Is K H d v
 |[],ds,_,e=>by simp at e
 |(n,v)::fs,[],l,e=>by simp at e
 |(n,v)::fs,d'::ds,⟨x,r,z,h,l⟩,e=>by
  have z':v::fs.map (·.2)=x::r:=z;cases z';simp only[List.map_cons,List.zip_cons_cons,List.lookup_cons]at e⊢;cases hf:f==n with
  |true=>rw[hf]at e;cases e;exact⟨v,rfl,h⟩
  |false=>rw[hf]at e;exact ng l e
def pp_fld(ho:PP X o fo)(l:∀C Ca,r C m=true->nsIn X.K mainGlobals C=!(!(.ref Ca))->Cls X.K Ca/\NoAttr X.K Ca m)(g:attributeBase o m X.env (eval o X.env)=eval o X.env):PP X (.Attribute o m pos) (λY=>(fo Y).bind (ji r m)):=λO Y=>by
 refine(He (ho O Y) g).imp λσ H Q ⟨E,d,q,k⟩=>?_;let⟨t,J,q⟩:=UD q;refine⟨E,t,J,λv H1 I iv=>?_⟩;cases t with
 |obj C T ds=>
  have j:(if r C m=true then(T.zip ds).lookup m else none)=!d:=q;split at j
  .rename_i hC;let⟨a,Ca,dx,fs,rfl,h0,h1,h2,h3⟩:=iv;subst h2;let⟨p,e1,e2⟩:=ng h3 j;let⟨c,U⟩:=l C Ca hC h0;exact⟨a,Ca,dx,fs,p,rfl,msk_le _ _ h1,c,U,e1,k p H1 I e2⟩
  .cases j
 |_=>cases q
structure Mf(P:Program)(w:World)(K:Frag)(mg:Str->TZ)(base:Heap)(C m:Str)(k:Nat)(f:TJ):Prop where
 ex:∃(Ca fa:Addr)(fd:FuncData)(ps:T3),nsIn K mainGlobals C=!(!(.ref Ca))/\Cls K Ca/\Meth K Ca m fa/\Binds K fd ps []/\FnOk P w K mg base rg k fa fd ps (Ii K f)
abbrev MT:=Str->Option (Nat×(TJ))
def  pA(mt:MT)(k0:Nat)(m:Str)(d:D)(as:T9):Option Sl:=match d with
 |.obj C ns _=>(mt C).bind λz=>if z.1<=k0/\m ∉ ns then z.2 (d::as)else none
 |_=>none
def uz{mt}(h:pA mt j m d as=!s):∃C g ds k f,d=.obj C g ds/\mt C=!(k,f)/\k<=j/\m ∉ g/\f (d::as)=!s:=by
 cases d with
 |obj C g ds=>
  let⟨⟨k,f⟩,e,q⟩:=UD (h);split at q
  .rename_i c;exact⟨C,g,ds,k,f,rfl,e,c.1,c.2,q⟩
  .cases q
 |_=>cases h
structure Pick(X:Cx)(mt:MT)(k0:Nat)(m:Str) where
 C:Str
 Ca:Addr
 fa:Addr
 fd:FuncData
 ps:T3
 k:Nat
 f:TJ
 h:mt C=!(k,f)/\k<=k0/\nsIn X.K mainGlobals C=!(!(.ref Ca))/\Cls X.K Ca/\Meth X.K Ca m fa/\Binds X.K fd ps []/\FnOk X.prog X.w X.K X.mg X.base rg k fa fd ps (Ii X.K f)
def Dt{mt}(g:∀C k f,mt C=!(k,f)->Mf X.prog X.w X.K X.mg X.base C m k f)(h:mt C=!(k,f))(l:k<=j):∃z:Pick X mt j m,z.C=C/\z.k=k/\z.f=f:=by
 let⟨Ca,fa,fd,ps,h1,h2,r,p,o⟩:=(g C k f h).ex;exact⟨⟨C,Ca,fa,fd,ps,k,f,h,l,h1,h2,r,p,o⟩,rfl,rfl,rfl⟩
def  sf(fo:TL)(fa:TK)(mt:MT)(k0:Nat)(m:Str):Vv->Option Sl:=λY=>(fo Y).bind λd=>(fa Y).bind λas=>pA mt k0 m d as
def Ij{K}(h:Is K H (.obj C g ds) v)(l:nsIn K mainGlobals C=!(!(.ref Ca)))(j:m ∉ g):∃a dx fs,v=.ref a/\H a=!(.ins Ca dx fs)/\fs.lookup m=none:=by
 let⟨a,p,dx,fs,rfl,h0,h1,h2,o⟩:=h;grind
def xB(hfew:methodCallForm args.length (backTo pos (starEach args env)) (backToKw pos (keywordEach [] env)) = true)(hline:(apos.endLine == pos.line) = true) :
  eval (.Call (.Attribute (.Name x px) m apos) args [] pos) env = (do
   let ov <- eval (.Name x px) env
   standAt apos.atName
   let (f,first) <- holding [ov] (getMethod ov m (do return (<- importBound (.Name x px) env).getD true))
   callWith pos f first (backTo pos (starEach args env)) (backToKw pos (keywordEach [] env))):=by
 show (do
  let ov <- eval _ env
  standAt apos.atName
  methodCall _ m apos pos env ov (args.length + 0) _ _) = _
 have hm:∀ ov,methodCall (.Name x px) m apos pos env ov (args.length + 0) (backTo pos (starEach args env)) (backToKw pos (keywordEach [] env)) = (do
   let (f,first) <- holding [ov] (getMethod ov m (do return (<- importBound (.Name x px) env).getD true))
   callWith pos f first (backTo pos (starEach args env)) (backToKw pos (keywordEach [] env))):=fun ov=>by
  unfold methodCall
  rw [Nat.add_zero,hfew]
  simp only [calleeOf,methodCallPos,hline,Bool.not_true,Bool.false_or,if_true,pure_bind]
 simp only [hm]
def xC{mt}(ho:PP X (.Name x px) fo)(hmt:∀C k f,mt C=!(k,f)->Mf X.prog X.w X.K X.mg X.base C m k f)(hr:Room k0 X.A)(hline:(apos.endLine==pos.line)=true)(O:T6)(Y:Vv):
  PE X (.Call (.Attribute (.Name x px) m apos) [] [] pos) (λσ H Q=>VE X.K O σ H Y/\∃s,sf fo (λ_=>![]) mt k0 m Y=!s/\∀v H1 H',Same H H1->RetOk X.K ⟨H1,O⟩ H' s v->Q v H'):=by
 refine(PE.ex λz:Pick X mt k0 m=>yQ (ho O Y) z.h.2.2.2.1 z.h.2.2.2.2.1 z.h.2.2.2.2.2.2 (hr.mono z.h.2.1) z.h.2.2.2.2.2.1 .nil vC (xB rfl hline)).imp λσ H Q ⟨E,s,q,kk⟩=>?_
 let⟨d,q1,q⟩:=UD q
 let⟨C,ns,ds,k,f,hd,hm,hk,hn,hf⟩:=uz (q)
 let⟨z,rfl,rfl,rfl⟩:=Dt hmt hm hk
 refine⟨z,E,d,q1,λv H1 s1 iv=>?_⟩
 subst hd
 let⟨a,dx,fs,ev,ea,el⟩:=Ij iv z.h.2.2.1 hn
 refine⟨a,dx,fs,ev,msk_le _ _ ea,el,?_⟩
 exact⟨O,[_],s,(E.grow s1).lis,⟨v,[],rfl,iv,rfl⟩,hf,λw' H3 r=>kk w' H1 H3 s1 r⟩
def Ik{f:Vv->Option Sl}(h:PE X e (λσ H Q=>VE X.K O σ H Y/\∃s,f Y=!s/\∀v H1 H',Same H H1->RetOk X.K ⟨H1,O⟩ H' s v->Q v H')):PE X e (tP X.K O Y (gT (f Y))):=h.imp λσ H Q ⟨E,d,q,k⟩=>by
 let⟨s,o,l⟩:=UD q;cases l;refine⟨E,s,o,λv H1 H' g r=>?_⟩;let⟨j,p⟩:=r.is (E.grow g).lis;exact k v H' (g.trans j) p
def  RL(K:Frag)(Ca:Addr)(g:T9->Option (List (Str×D))):Sp:=λvs H Q _=>∃x vs' dx O ds fd,vs=.ref x::vs'/\H x=!(.ins Ca dx [])/\(∀b,O b=true->Hid (H b))/\O x=true/\IsL K (msk O H) ds vs'/\g ds=!fd/\
 ∀H' fs,(∀b o,b≠x->H b=!o->H' b=!o)->H' x=!(.ins Ca dx fs)->fs.map (·.1)=fd.map (·.1)->IsL K (msk O H') (fd.map (·.2)) (fs.map (·.2))->Q .non H'
structure Mkf(P:Program)(w:World)(K:Frag)(mg:Str->TZ)(base:Heap)(C:Str)(k:Nat)(g:T9->Option (List (Str×D))):Prop where
 ex:∃(Ca fa:Addr)(fd:FuncData)(ps:T3),mg C=!(.ref Ca)/\nsIn K mainGlobals C=!(!(.ref Ca))/\Mk K Ca fa/\Binds K fd ps []/\FnOk P w K mg base rg k fa fd ps (RL K Ca g)
def  uA(C:Str)(o:Option (List (Str×D))):Ub:=o.bind λfd=>!(.obj C (fd.map (·.1)) (fd.map (·.2)))
def Du(F:Mkf X.prog X.w X.K X.mg X.base C k g)(hr:Room (k+1) X.A)(hg:Gl X C)(ha:PX X (e::es) fa)(hdb:(C==("__debug__":Str))=false)(he:starEach (e::es) X.env=(false,eval e X.env)::starEach es X.env)(U:(!18).any (·.1)=false):
  PP X (.Call (.Name C p) (e::es) [] pos) (λY=>(fa Y).bind λds=>uA C (g ds)):=λO Y=>by
 let⟨Ca,f,fd,ps,hm,hns,M,j,G⟩:=F.ex
 refine(CI M G hr hg hm j .nil vC (ha O Y) hdb he U).imp λσ H Q ⟨E,d,q,kk⟩=>?_
 let⟨ds,r,l⟩:=UD q
 let⟨fl,q3,q4⟩:=UD l
 cases q4
 refine⟨E,ds,r,λvs H1 s1 il x dx I hdx hne=>?_⟩
 have E1:=E.grow s1
 have hOx:=E1.fresh I
 have J:Same H1 (upd (upd H1 dx (.own x)) x (.ins Ca dx [])):=λb o q=>by
  rw[al (aG q I),al (aG q hdx)];exact q
 have le:Same (msk O H1) (msk (λb=>O b||decide (b=x)) (upd _ x _)):=λb o q=>by
  let⟨r,l⟩:=bU q;have j:=aG l I;rw[aO (by simp[r,j])];exact J _ _ l
 rw[List.append_nil]
 refine⟨x,vs,dx,λb=>O b||decide (b=x),ds,fl,rfl,ak,λb j=>?_,by simp,IsL.mono le _ _ il,q3,λH' fs keep T t hl=>⟨rfl,?_⟩⟩
 .rcases(Bool.or_eq_true _ _).mp j with j|j
  .exact(E1.lis b j).same J
  .rw[of_decide_eq_true j,ak];exact .inr (.inl ⟨_,_,_,rfl⟩)
 .have s3:Same H1 H':=λb o q=>keep b o (aG q I) (J _ _ q);refine kk _ H' (s1.trans s3) ⟨x,Ca,dx,fs,rfl,hns,by rw[aO hOx];exact T,t,IsL.mono (λb o q=>?_) _ _ hl⟩;let⟨r,l⟩:=bU q;have:O b=false:=by
   cases z:O b with
   |false=>rfl
   |true=>simp[z]at r
  rw[aO this];exact l
end
section
variable{K:Frag}{B:Bs}{O:T6}{σ:St}{H:Hp}{Y:Ev}
def EnvOk.thaw(E:EnvOk K B O (σ++[!v]) H (Y++[!s])):∃g,EnvOk K B g σ H Y/\Same (msk O H) (msk g H)/\Is K (msk g H) s.2 v:=by
 let⟨F,h1,h2,h3,h4⟩:=E.fp;have len:σ.length=Y.length:=by have:=E.len;simp at this;exact this
 let⟨v',t,T⟩:=h1 Y.length s (getElem?_last _ _);rw[<-len,getElem?_last]at t;cases t;let g:T6:=λb=>O b&&not (decide (b∈F Y.length));have le:Same (msk O H) (msk g H):=λb o q=>by
  let⟨I,C⟩:=bU q;rw[aO (by simp[g,I])];exact C
 refine⟨g,⟨E.same,E.bdom,λb l=>?_,λb l=>E.lis b (by simp[g]at l;exact l.1),len,λj=>if j=Y.length then[]else F j,λj x q=>?_,λj=>?_,λj k a r hk=>?_,λj a r=>?_⟩,le,T.is le λa U=>by simp[g,U]⟩
 .have h6:b ∉ F Y.length:=λz=>E.bdom b l (h4 _ b z).2;simp[g,E.sub b l,h6]
 .have p:=(Uk.mp q).1;have r:j≠Y.length:=by omega
  let⟨w,e2,J⟩:=h1 j x (by rw[getElem?_append_left p];exact q);exact⟨w,cc (!3) e2,by simp only[if_neg r];exact J.frame le λ_ _ _ h=>h⟩
 all_goals grind
def EnvOk.store(E:EnvOk K B O σ H Y)(r:B.O x=true)(C:B.H x=!(.ins Ca dx fs)):EnvOk K ⟨upd B.H x (.ins Ca dx fs'),B.O⟩ O σ (upd H x (.ins Ca dx fs')) Y/\msk O (upd H x (.ins Ca dx fs'))=msk O H:=by
 have p:msk O (upd H x (.ins Ca dx fs'))=msk O H:=iV (E.sub x r);let⟨F,h1,h2,I,l⟩:=E.fp;have no:∀i,x ∉ F i:=λi z=>by have:=(l i x z).2;rw[C]at this;cases this
 refine⟨⟨λb o q=>?_,λb q=>?_,E.sub,λb q=>?_,E.len,F,λi s q=>?_,h2,I,λi a g=>⟨(l i a g).1,?_⟩⟩,p⟩
 .have j:upd B.H x (.ins Ca dx fs') b=!o:=q;by_cases h:b=x
  .subst h;rw[ak]at j⊢;exact j
  .rw[al h]at j⊢;exact E.same b o j
 .by_cases h:b=x
  .subst h;show upd B.H b _ b≠none;rw[ak];simp
  .show upd B.H x _ b≠none;rw[al h];exact E.bdom b q
 .by_cases h:b=x
  .subst h;rw[ak];exact .inr (.inl ⟨_,_,_,rfl⟩)
  .rw[al h];exact E.lis b q
 .let⟨v,e,o⟩:=h1 i s q;refine⟨v,e,o.frame (by rw[p];exact Same.refl _) λa g u t=>?_⟩;have:a≠x:=λz=>no i (z▸g);rw[al this];exact t
 .have:a≠x:=λz=>no i (z▸g);show upd B.H x _ a=none;rw[al this];exact(l i a g).2
end
noncomputable def  uB(f:Str)(d:D):List (Str×D)->List (Str×D)
 |[]=>[(f,d)]
 |(g,e)::r=>if g=f then(g,d)::r else(g,e)::uB f d r
def vQ{K}(h:Is K M d v):∀{fd:List (Str×D)}{fs:List (Str×V)},fs.map (·.1)=fd.map (·.1)->IsL K M (fd.map (·.2)) (fs.map (·.2))->
  (gw f v fs).map (·.1)=(uB f d fd).map (·.1)/\IsL K M ((uB f d fd).map (·.2)) ((gw f v fs).map (·.2))
 |[],[],_,_=>⟨rfl,v,[],rfl,h,rfl⟩
 |[],_::_,e,_=>by simp at e
 |_::_,[],e,_=>by simp at e
 |(g,c)::fd,(g',u)::fs,e,⟨x,r,z,q,l⟩=>by
  have e1:g'=g:=by simp at e;exact e.1
  have e2:fs.map (·.1)=fd.map (·.1):=by simp at e;simpa using e.2
  subst e1;have z':u::fs.map (·.2)=x::r:=z;cases z';unfold gw uB;by_cases hg:g'=f
  .rw[if_pos hg,if_pos hg];exact⟨by simp[e2],v,_,rfl,h,l⟩
  .rw[if_neg hg,if_neg hg];let⟨a,b⟩:=vQ h e2 l;exact⟨by simp[a],u,_,rfl,q,b⟩
abbrev Dv:=Ev->List (Str×D)->Option (List (Str×D))
def  Tf(K:Frag)(Ca:Addr)(B:Bs)(O:T6)(Y:Ev)(x dx:Addr)(fd:List (Str×D))(o:Option (List (Str×D))):TS:=λEn σ H=>EnvOk K B O σ H Y/\B.O x=true/\
 (∃fs,B.H x=!(.ins Ca dx fs)/\fs.map (·.1)=fd.map (·.1)/\IsL K (msk O H) (fd.map (·.2)) (fs.map (·.2)))/\∃fd',o=!fd'/\
 ∀σ' H' O' fs',(∀b o,b≠x->B.H b=!o->H' b=!o)->(∀b,B.O b=true->O' b=true)->H' x=!(.ins Ca dx fs')->fs'.map (·.1)=fd'.map (·.1)->IsL K (msk O' H') (fd'.map (·.2)) (fs'.map (·.2))->En.nx σ' H'
def  FM(X:Cx)(Ca x:Addr)(st:List Stmt)(I:Dv):Prop:=∀B O Y dx fd,PSs X st (Tf X.K Ca B O Y x dx fd (I Y fd))
def  Dw:Dv:=λ_ fs=>!fs
def  Oo(F:TM)(G:Dv):Dv:=λY fs=>(F Y).bind λo=>match o with
 |.nx Y'=>G Y' fs
 |_=>none
def  Dy(x:Addr)(i:Nat)(f:Str)(g:TQ)(G:Dv):Dv:=λY fs=>(g Y).bind λz=>match oE z.2 i with
 |some (.sh,.adr a)=>if a=x/\fs.length<900 then G z.2 (uB f z.1.2 fs)else none
 |_=>none
section
variable{X:Cx}{Ca x:Addr}{st:Stmt}{rest:List Stmt}{e:Expr}{pos:Pos}
def Il:FM X Ca x [] Dw:=λB O Y dx fd=>pss_nil.imp λp σ H ⟨E,l,⟨fs,h1,h2,g⟩,j,q,k⟩=>by
 cases q;exact k σ H O fs (λb o _ h=>E.same b o h) E.sub (E.same x _ h1) h2 g
def Dz(h1:PR X st F)(h2:FM X Ca x rest G):FM X Ca x (st::rest) (Oo F G):=λB O Y dx fd=>
 (mG (h1 B O Y) (PSs.ex λz:(T6)×Ev=>h2 B z.1 z.2 dx fd)).imp λU σ H ⟨E,r,⟨fs,I,C,t⟩,j,q,k⟩=>by
 let⟨l,p,g⟩:=UD q;refine⟨E,l,p,?_⟩;cases l with
 |nx Y'=>exactλo H' J s' T=>⟨⟨J,Y'⟩,T,r,⟨fs,I,C,IsL.mono s' _ _ t⟩,j,g,k⟩
 |rt d=>cases g
 |bk Y'=>cases g
 |ct Y'=>cases g
def Im(i:Nat)(hv:tM X e g)(h2:FM X Ca x rest G)(hN:X.N[i]?=!self)(l:tO X.env.scope self)(hd:(self==("__debug__":Str))=false)(t:(self==("__classdict__":Str))=false)(hs:swapsWith e (!(.Attribute (.Name self px) f pos')) pos.line X.env=pure false)(c:Cls X.K Ca)(na:NoAttr X.K Ca f):FM X Ca x (.Assign [.Attribute (.Name self px) f pos'] e pos::rest) (Dy x i f g G):=λB O Y dx fd=>
 (mG (Hf (da hN l hd t) (hv B O Y).1 hs) (PSs.ex λz:Bs×(T6)×Ev×List _=>h2 z.1 z.2.1 z.2.2.1 dx z.2.2.2)).imp λEn σ H ⟨E,T,⟨fs,a1,a2,a3⟩,C,q,k⟩=>by
 let⟨⟨s,Y'⟩,q1,q⟩:=UD q;refine⟨E,s,Y',q1,λy H1 O1 s1 E1=>?_⟩;let⟨O2,J,s2,iy⟩:=E1.thaw;have j:=q;split at j
 .rename_i a ha;split at j
  .rename_i hc;let⟨rfl,hl⟩:=hc;let⟨F,f1,_⟩:=J.fp;let⟨w,ew,ow⟩:=f1 i _ (gb ha);cases(ow.2);have p:=J.same a _ a1;have U:fs.length=fd.length:=by have:=congrArg List.length a2;simpa using this
   refine⟨.ref a,ew,a,Ca,dx,fs,rfl,p,c,na,by omega,?_⟩;let⟨E3,me⟩:=J.store T a1;have I:=IsL.mono (s1.trans s2) _ _ a3;let⟨b1,b2⟩:=vQ iy a2 I;refine⟨⟨⟨upd B.H a _,B.O⟩,O2,Y',uB f s.2 fd⟩,E3,T,⟨_,ak,b1,by rw[me];exact b2⟩,C,j,λr H' O' fs' k1 k2 k3 k4 k5=>k r H' O' fs' (λb o p h=>k1 b o p (by show upd B.H a _ b=!o;rw[al p];exact h)) k2 k3 k4 k5⟩
  .cases j
 .cases j
end
def  uC(n:Nat)(x:Addr)(ds:T9):Ev:=ar n (.adr x::ds)
def  zO(n m:Nat)(I:Addr->Dv)(x:Addr)(ds:T9):Option (List (Str×D)):=if ds.length+1=n then I x (uC m x ds) []else none
def P4{K}{st}(Fn:Fun K x p st f fd)(S:FnScope N ps (aj st))(hg:∀ds r,g ds=!r->∀y,zO ps.length N.length I y ds=!r)(hb:∀(y:Addr)(l:Value)(A:Around)(j:List Env)(s:Shared)(H:Hp)(E:XK),Room k (A.deeper (envOfC p (aj st) s.heap.objs.size f l))->FM (jK rg P w K mg base N p (aj st) f l A j s H E).nox Ca y (aU st) (I y)):
  FnOk P w K mg base rg (k+1) f fd ps (RL K Ca g):=by
 refine Fn.ok S (λvs H Q E ⟨y,t,dx,O,ds,r,U,_,_,_,J,e,_⟩=>?_) (λl A j s H vs Q E hr ⟨y,t,dx,O,ds,r,U,hy,hO,T,J,e,kk⟩=>?_)
 .have:=hg ds r e 0;unfold zO at this;split at this
  .rename_i h;rw[U,length_cons,<-J.len];exact h
  .cases this
 .have q:=hg ds r e y;unfold zO at q;split at q
  .subst U;have C:IsL K (msk O H) (.adr y::ds) (.ref y::t):=⟨_,_,rfl,rfl,J⟩;refine⟨_,hb y l A j s H E hr ⟨H,O⟩ O _ dx [],nb hO C,T,⟨[],hy,rfl,rfl⟩,r,q,λσ' H' O' fs' k1 k2 k3 k4 k5=>?_⟩;refine kk H' fs' k1 k3 k4 (IsL.mono (λb o z=>?_) _ _ k5);let⟨z1,z2⟩:=bU z;rw[aO];exact z2;cases zz:O b with
   |false=>rfl
   |true=>rw[k2 b zz]at z1;cases z1
  .cases q
structure NSt(b:Bool)(z j l:Addr)(k:Nat)(h:Heap):Prop where
 ne:z≠j
 hz:∃old,IsEnum h z j k old
 h1:ItK b h j l k
section
variable{prog:Program}{w:World}{A:Around}{E:TX}{s:Shared}
def zP{k:Nat}{Q:TX}(Z:IsEnum s.heap z j k old)(J:ItK b s.heap j l k)(C:CoK b s.heap l xs)(hx:xs[k]?=!x)(ne:z≠j)(hQ:∀g,IsEnumOut g z j ((k:Int)+1) x s.heap.objs.size->ItK b g j l (k+1)->g.get? s.heap.objs.size=some {cls:=.type "tuple",data:=.seq #[.int k s.toks,x]}->g.objs.size=s.heap.objs.size+1->
   (∀d o,d≠z->d≠j->s.heap.get? d=!o->g.get? d=!o)->Q (.ref s.heap.objs.size) {s with heap:=g,toks:=s.toks+1}):
  wpAny (!7) A (Builtin.«enumerate.__next__» ⟨[.ref z],[]⟩) (λfin s'=>∃v,fin=.done (.ret v)/\Q v s') E s:=by
 cases s with
 |mk p gn dr tk os=>
 show wpAny _ _ (field (.ref z) 2>>=_) _ _ _
 refine Ud (wpAny_field Z rfl rfl (Ud (vI J C hx λg1 J1 I=>?_)))
 replace I:Heap.SameBut j p g1:=I
 have Z1:=(I.2 z ne).trans Z
 refine Ud (wpAny_field Z1 rfl rfl ?_)
 refine Ud (wpAny_field Z1 rfl rfl ?_)
 refine Ud (wpAny_mkInt ?_)
 show wpAny _ _ (setField (.ref z) 3 (rawInt ((k:Int)+1))>>=_) _ _ ⟨g1,gn,dr,tk+1,os⟩
 refine Ud (wpAny_setField_rec Z1 (by simp) λg2 Z2 t=>?_)
 replace t:Heap.SameBut z g1 g2:=t
 replace Z2:IsEnum g2 z j ((k:Int)+1) old:=Z2
 refine Ud (wpAny_setField_rec Z2 (by simp) λg3 Z3 r=>?_)
 replace r:Heap.SameBut z g2 g3:=r
 replace Z3:IsEnum g3 z j ((k:Int)+1) old:=Z3
 refine Ud (wpAny_newTuple ?_)
 have Z4:IsEnum (g3.push {cls:=.type "tuple",data:=.seq #[.int k tk,x]}) z j ((k:Int)+1) old:=Ue _ Z3
 have sz:g3.objs.size=p.objs.size:=by rw[r.1,t.1,I.1]
 have zl:=Uh Z
 have T4:(g3.push {cls:=.type "tuple",data:=.seq #[.int k tk,x]}).get? p.objs.size=some {cls:=.type "tuple",data:=.seq #[.int k tk,x]}:=by rw[<-sz];exact Ui _ rfl
 have z4:(g3.push {cls:=.type "tuple",data:=.seq #[.int k tk,x]}).objs.size=p.objs.size+1:=by rw[Heap.size_push,sz]
 have k4:∀d o,d≠z->d≠j->p.get? d=!o->(g3.push {cls:=.type "tuple",data:=.seq #[.int k tk,x]}).get? d=!o:=λd o T n2 e=>
  Ue _ (r.extBut d o T (t.extBut d o T (I.extBut d o n2 e)))
 have J4:ItK b (g3.push {cls:=.type "tuple",data:=.seq #[.int k tk,x]}) j l (k+1):=((J1.ext t ne.symm).ext r ne.symm).at λo e=>Ue _ e
 generalize g3.push {cls:=.type "tuple",data:=.seq #[.int k tk,x]}=g4 at Z4 T4 z4 k4 J4
 rw[sz]
 refine Ud ?_
 refine Ud (wpAny_field Z4 rfl rfl (Ug ?_))
 refine Ud (wpAny_rule (Ud (wpAny_field Z4 rfl (x:=old) rfl (Ud (wpAny_setField_rec Z4 (by simp) λg5 Z5 s5=>?_)))))
 replace s5:Heap.SameBut z g4 g5:=s5
 replace Z5:IsEnum g5 z j ((k:Int)+1) x:=Z5
 show wpAny _ _ (Builtin.SmallTypes.ownedTupleHandOut (.ref z) (.ref p.objs.size)>>=_) _ _ ⟨g5,gn,dr,tk+1,os⟩
 refine Ud ?_
 refine Ud (wpAny_setField_rec Z5 (by simp) λg6 Z6 s6=>?_)
 replace s6:Heap.SameBut z g5 g6:=s6
 replace Z6:IsEnumOut g6 z j ((k:Int)+1) x p.objs.size:=Z6
 refine wpAny_setField_rec Z6 (by simp) λg7 Z7 U=>?_
 replace U:Heap.SameBut z g6 g7:=U
 replace Z7:IsEnumOut g7 z j ((k:Int)+1) x p.objs.size:=Z7
 have up:∀d o,d≠z->g4.get? d=!o->g7.get? d=!o:=λd o n e=>U.extBut d o n (s6.extBut d o n (s5.extBut d o n e))
 exact Ud (wpAny_letGo (Ug ⟨_,rfl,hQ g7 Z7 (J4.at λo e=>up _ o ne.symm e) (up _ _ (Nat.ne_of_gt zl) T4) (by rw[U.1,s6.1,s5.1,z4]) λd o T n2 e=>up d o T (k4 d o T n2 e)⟩))
def zQ(Z:NSt b z j l k s.heap)(C:CoK b s.heap l xs)(hx:xs[k]?=!x)(hQ:∀g,IsEnumOut g z j ((k:Int)+1) x s.heap.objs.size->ItK b g j l (k+1)->g.get? s.heap.objs.size=some {cls:=.type "tuple",data:=.seq #[.int k s.toks,x]}->g.objs.size=s.heap.objs.size+1->
   (∀d o,d≠z->d≠j->s.heap.get? d=!o->g.get? d=!o)->Q (!(.ref s.heap.objs.size)) {s with heap:=g,toks:=s.toks+1}):wpAny (!7) A (pyNext (.ref z)) Q E s:=by
 let⟨ne,⟨old,hz⟩,h1⟩:=Z
 have T:s.TypeIs (.ref z) "enumerate":=⟨_,hz,rfl⟩
 exact Ud (wpAny_attempt (wpAny_callSpecial?_slot T F.slot_enumerate_next (wpAny_call_entry F.slot_enumerate_next T F.entry_enumerate_next
  (zP hz h1 C hx ne λg a c d e f=>Ug (hQ g a c d e f)) (F.args_enumerate_next_1 _))))
def zR(hh:A.handled=none)(Z:NSt b z j l k s.heap)(C:CoK b s.heap l xs)(hx:xs[k]?=none)(hQ:∀g,Heap.ExtBut j s.heap g->Q none {s with heap:=g}):wpAny (!7) A (pyNext (.ref z)) Q E s:=by
 let⟨ne,⟨old,hz⟩,h1⟩:=Z;have T:s.TypeIs (.ref z) "enumerate":=⟨_,hz,rfl⟩;refine Ud (wpAny_attempt (wpAny_callSpecial?_slot T F.slot_enumerate_next (wpAny_call_entry F.slot_enumerate_next T F.entry_enumerate_next ?_ (F.args_enumerate_next_1 _))));show wpAny _ _ (field (.ref z) 2>>=_) _ _ _;refine Ud (wpAny_field hz rfl rfl (Ud (kX hh h1 C hx λg e q he=>?_)));let⟨o,ho,hc⟩:=he;exact Ud (wpAny_isInstance ⟨o,ho,hc⟩ isSubtype_stop (Ug (hQ _ q)))
abbrev nG(h:Heap)(b:Bool)(l:Addr):Heap:=(h.push (aN b l)).push {cls:=.type "enumerate",data:=.fields #[.none,.bool false,.ref h.objs.size,rawInt 0,.none,.none]}
def DA(b:Bool)(l:Addr)(xs:T7):Meets (Builtin.«enumerate.__new__» ⟨[.type "enumerate",.ref l],[]⟩) (λ_ R s=>CoK b s.heap l xs/\
   R (.ok (.ret (.ref (s.heap.push (aN b l)).objs.size))) {s with heap:=nG s.heap b l}):=
 .of_wp λprog w A R s h=>by
  cases s with
  |mk hp gn dr tk os=>
  let⟨c0,h⟩:=h;have hsub:=sub_enumerate;have C:CoK b (Shared.heap ⟨hp,gn,dr,tk,os⟩) l xs:=c0;wp_walk using rY C;refine wpAny_stack_any λst=>Ug ?_;split
  .rename_i c _ _ _ _ _;cases(c==Value.type "enumerate")<;>(wp_walk using rY C;exact⟨_,rfl,h⟩)
  .wp_walk using rY C;exact⟨_,rfl,h⟩
def zS(C:CoK b s.heap l xs)(h:∀g,NSt b (s.heap.objs.size+1) s.heap.objs.size l 0 g->g.objs.size=s.heap.objs.size+2->(∀d o,s.heap.get? d=!o->g.get? d=!o)->Q (.ref (s.heap.objs.size+1)) {s with heap:=g}):
  wpAny (!7) A (call (.type "enumerate") [.ref l]) Q E s:=by
 refine callType_new F.called_enumerate (!4) (F.typeCall_enumerate_1 _) (F.newCall_enumerate_1 _) (λobj=>F.args_object_init_2 obj _) F.entry_enumerate_new (DA b l xs) ⟨C,?_⟩
 have z1:(s.heap.push (aN b l)).objs.size=s.heap.objs.size+1:=Heap.size_push ..
 have g2:IsEnum (nG s.heap b l) (s.heap.objs.size+1) s.heap.objs.size 0 .none:=by
  have:=Ui (s.heap.push (aN b l)) (o:={cls:=.type "enumerate",data:=.fields #[.none,.bool false,.ref s.heap.objs.size,rawInt 0,.none,.none]}) rfl;rw[z1]at this;exact this
 have fb:(aN b l).isFreed=false:=by cases b<;>rfl
 have g1:(nG s.heap b l).get? s.heap.objs.size=!_:=Ue _ (Ui _ fb)
 have i1:ItK b (nG s.heap b l) s.heap.objs.size l 0:=by cases b<;>exact⟨_,g1,rfl,rfl⟩
 rw[z1]
 exact⟨⟨_,g2,rfl⟩,h _ ⟨Nat.succ_ne_self _,⟨_,g2⟩,i1⟩ (by rw[Heap.size_push,z1]) λd o x=>Ue _ (Ue _ x)⟩
end
def  P5(K:Frag)(b:Bool)(l:Addr):It:=
 ⟨λi H=>∃xs x,SqK b K H l xs/\xs[i]?=!x,
  λi H v H'=>∃p x,v=.ref p/\H p=none/\H'=upd H p (.tup [.int i,x])/\∀xs,SqK b K H l xs->xs[i]?=!x,
  λi H=>∃xs,SqK b K H l xs/\xs.length<=i⟩
def NSt.live(Z:NSt b z j l k h)(hd:d∈[z,j]):∃o,h.get? d=!o/\∀v,o.data≠.cell v:=by
 simp at hd;rcases hd with rfl|rfl
 .let⟨old,e⟩:=Z.hz;exact⟨_,e,λv q=>by cases q⟩
 .let⟨o,n,p,e,_,g,_⟩:=Z.h1.live;exact⟨o,e,λv q=>by rw[g]at q;cases q⟩
def zT{P:Program}{w:World}{K:Frag}{g:Ua}{x1:Nat}{tpos:Pos}(b:Bool)(l z j:Addr):
  Turn P w K (.Tuple g x1 tpos) (P5 K b l) [z,j] z (λi h=>NSt b z j l i h) where
 mem:=by simp
 obj:=λi h Z d hd=>Z.live hd
 keep:=λi h h' Z k=>by
  let⟨old,e⟩:=Z.hz;exact⟨Z.ne,⟨old,k z (by simp) _ e⟩,Z.h1.at λo q=>k j (by simp) o q⟩
 item:=by
  intro X hP hw hK hc i pins s σ H E I r Z hg;subst hP hw hK;let⟨xs,x,p,ex⟩:=hg;let⟨U,rv,J,_⟩:=I.coK p;let⟨u,hu,ru⟩:=rv.get ex;refine zQ Z J (by simpa using hu) λh' Z' J' T' sz T=>⟨_,rfl,?_⟩;refine wpAny_letOwnedTupleGo_enum Z' λh2 hz2 C=>?_;let⟨old,hz⟩:=Z.hz;have t:=Uh hz;have Z2:NSt b z j l (i+1) h2:=⟨Z.ne,⟨_,by rw[show((i+1:Nat):Int)=(i:Int)+1 from rfl];exact hz2⟩,J'.at λo q=>C.extBut _ _ Z.ne.symm q⟩;have T2:=C.extBut _ _ (Nat.ne_of_gt t) T';have kk:∀d o,d ∉ [z,j]->s.heap.get? d=!o->h2.get? d=!o:=λd o hd e=>by
   simp at hd;exact C.extBut _ _ hd.1 (T d o hd.1 hd.2 e)
  have fr:=I.hok.fresh (UB _);refine⟨.ref s.heap.objs.size,_,I.turnedNew r kk (UB _) ?_,rfl,⟨s.heap.objs.size,x,rfl,fr,rfl,λzs hzs=>by rw[I.coK_inj hzs p];exact ex⟩,Z2,λd hd=>?_⟩
  .exact⟨by show 2<=sizeLine;decide,[.int i s.toks,u],.cons ⟨_,rfl⟩ (.cons ru .nil),⟨_,T2,rfl,_,rfl⟩⟩
  .let⟨o,eo,_⟩:=Z.live hd;rw[al (Nat.ne_of_lt (Heap.lt_size eo))];exact(r d hd).1
 done:=by
  intro X hP hw hK hc i pins s σ H E I r Z hg;subst hP hw hK;let⟨xs,p,hl⟩:=hg;let⟨U,rv,J,_⟩:=I.coK p;have e1:=rv.length;refine zR (I.ok.hd hc) Z J (by simp;omega) λh' T=>⟨rfl,I.turnedL r λd o hd e=>?_⟩;simp at hd;exact T d o hd.2 e
 self:=λ_ _ _ _ _ Z h=>by
  let⟨old,e⟩:=Z.hz;exact wpAny_pyIter_enum e h
section
variable{X:Cx}{tg a b e:Expr}{es:Ua}{p pos:Pos}
def Io:bootBuiltins "enumerate"=!(.type "enumerate"):=by decide+kernel
def  P6(K:Frag)(ta:TA):TI:=λσ H R=>ta σ H λvs H1=>∃b l xs,vs=[.ref l]/\SqK b K H1 l xs/\R (P5 K b l) H1
def Ip{x1}(hg:Gl X "enumerate")(hm:X.mg "enumerate"=none)(ha:PA X [a] ta)(hs:starEach [a] X.env=[(false,eval a X.env)]):
  PI X (.Tuple elts x1 tpos) (.Call (.Name "enumerate" p) [a] [] pos) (P6 X.K ta):=by
 intro pins s σ H R I h
 refine Call_ (db I hg hm Io (PyProof.Rows.callWith_type1 (bu (ha pos pins s σ H _ I h) λus s1 ⟨vs,H1,I1,r1,q1⟩=>?_) (by rw[hs];rfl) (by rfl)))
 let⟨b,l,xs,e,hx,q⟩:=q1
 subst e
 let⟨u,rfl,ru⟩:=fY r1
 cases ru
 let⟨its,rx,p1,_⟩:=I1.coK hx
 refine zS p1 λh' Z sz k=>?_
 let⟨old,hz⟩:=Z.hz
 refine wpAny_pyIter_enum hz ?_
 have I2:Inv X pins σ H1 {s1 with heap:=h'}:=I1.kept k
 refine⟨s1.heap.objs.size+1,[s1.heap.objs.size+1,s1.heap.objs.size],_,_,H1,rfl,I2,zT b l _ _,Z,λd hd=>?_,q⟩
 have hge:s1.heap.objs.size<=d:=by
  simp at hd;rcases hd with rfl|rfl<;>first|exact Nat.le_add_right _ _|exact UB _
 exact I1.fpOk hge (I1.hok.fresh hge)
noncomputable def  lP(xs:T9):T9:=xs.zipIdx.map λp=>.tup [.int (p.2:Nat),p.1]
def zU{K}{b}(I:SqK b K r l xs)(p:IsL K r ds xs):m5 K r (P5 K b l) (lP ds):=λi H O s hd=>by
 have g:=I.mono (s.trans msk_le);refine⟨λd hi=>?_,λhi=>⟨xs,g,?_⟩⟩
 .unfold lP at hi;rw[getElem?_map,List.getElem?_zipIdx]at hi;cases e:ds[i]? with
  |none=>rw[e]at hi;cases hi
  |some d1=>
   rw[e]at hi;cases hi;let⟨x,ex,C⟩:=p.get e;refine⟨⟨xs,x,g,ex⟩,?_⟩;rintro v U ⟨q,T,rfl,j,rfl,t⟩;have o:=t xs g;rw[ex]at o;cases o;have J:=fZ hd j;refine⟨Same.new j,q,[.int i,x],rfl,.of (by rw[aO J,ak]),?_⟩;have le:Same (msk O H) (msk O (upd H q (.tup [.int i,x]))):=(Same.new j).msk;exact⟨.int i,[x],rfl,by show V.int _=V.int _;simp,x,[],rfl,Is.mono (s.trans le) _ _ C,rfl⟩
 .have h1:=p.len;unfold lP at hi;rw[length_map,List.length_zipIdx]at hi;omega
def  vR:T9->TV:=rh λc=>(seqD c).bind λxs=>!(lP xs)
def Iq{x1}(hg:Gl X "enumerate")(hm:X.mg "enumerate"=none)(ha:PX X [a] fa)(hs:starEach [a] X.env=[(false,eval a X.env)]):
  PJ X (.Tuple j x1 tpos) (.Call (.Name "enumerate" p) [a] [] pos) (λY=>(fa Y).bind vR):=λO Y=>(Ip hg hm (ha O Y) hs).imp λσ H R ⟨E,ds,q,k⟩=>by
 let⟨as,e1,q⟩:=UD q
 refine⟨E,as,e1,λvs H1 o U=>?_⟩
 let⟨c,rfl,C⟩:=bx q
 let⟨xs,t,r⟩:=UD C
 cases r
 let⟨u,rfl,T⟩:=uk U
 let⟨J,l,rfl,g,I⟩:=gx t T
 let⟨b1,g⟩:=uq g
 exact⟨b1,J,l,rfl,g.mono msk_le,k _ H1 o (zU g I)⟩
end
section
variable{X:Cx}{a b:Expr}{pos:Pos}
def  Mj(K:Frag):R2:=λx y H Q=>∃l m xs zs,x=.ref l/\y=.ref m/\SqL K H l xs/\SqL K H m zs/\xs.length+zs.length<=sizeLine/\∀p,H p=none->Q (.ref p) (upd H p (.lst (xs++zs)))
def DB:OpR X (binaryOp .Add) (Mj X.K):=by
 intro pins s σ H x y v u Q I rx U h;let⟨l,m,xs,zs,rfl,rfl,h1,h2,hz,q⟩:=h;cases rx;cases U;let⟨j,p,⟨⟨c1,d1,t1,T⟩,n1,r,k1,_,C⟩,_⟩:=I.list h1;let⟨g,o,⟨⟨c2,d2,t2,J⟩,n2,e2,k2,_,t⟩,_⟩:=I.list h2;subst k1 C k2 t;have hl1:=p.length;have hl2:=o.length;refine concat_meets ⟨_,r,rfl⟩ ⟨_,e2,rfl⟩ noFill_list_add seq_list_add PySem.F.slot_list_add PySem.F.entry_list_add (PySem.F.args_list_add_2 _ _) (list_addW l m j.toArray g.toArray n1 n2 d1 d2 T J (by rw[size_toArray,size_toArray];omega)) ⟨r,e2,?_⟩;rw[show j.toArray++g.toArray=(j++g).toArray by simp];exact⟨.ref _,_,I.lnew (p.append o) (by rw[length_append];omega),rfl,q _ I.fresh⟩
def  Ir(d e:D):TV:=(gS d).bind λxs=>(gS e).bind λys=>bw (!(xs++ys))
def  catF(fa fb:TL):TK:=λY=>(fa Y).bind λx=>(fb Y).bind λy=>Ir x y
def Iu(ha:PP X a fa)(hb:PP X b fb):PF X (.BinOp a .Add b pos) (catF fa fb):=λO Y=>(yK DB (ha O Y) (hb O Y)).imp λσ H Q ⟨E,ds,q,k⟩=>by
 let⟨dx,e1,q⟩:=UD q;let⟨dy,e2,q⟩:=UD q;let⟨xs,f1,q⟩:=UD q;let⟨ys,f2,q⟩:=UD q;let⟨g1,g2⟩:=dB q;cases g1;refine⟨E,dx,e1,λx H1 j U=>⟨E.grow j,dy,e2,λy H2 g T=>?_⟩⟩;let⟨l,C,rfl,J,r⟩:=eB f1 (Is.mono g.msk dx x U);let⟨m,t,rfl,I,o⟩:=eB f2 T;refine⟨l,m,C,t,rfl,rfl,msk_le.seq J,msk_le.seq I,?_,λp hp=>k p _ H2 (j.trans g) hp (r.app o)⟩;rw[length_append]at g2;rw[<-r.len,<-o.len];exact Uy g2
end
def DC:typeLookup (.type "list_reverseiterator") "__len__"=pure none:=by constructor<;>grind
def zV:typeLookup (.type "list_reverseiterator") "__length_hint__"=pure (!(.builtin "list_reverseiterator.__length_hint__")):=by constructor<;>grind
section
variable{prog:Program}{w:World}{A:Around}{E:TX}{s:Shared}
def zW(J:s.heap.IsRevIter j l i)(h:Q false s):wpAny (!7) A (Builtin.List.listLengthHint (.ref j)) Q E s:=by
 refine Ud (wpAny_specialOf J.typeIs DC ?_);refine Ud (wpAny_specialOf J.typeIs zV ?_);generalize o:("list_reverseiterator.__length_hint__":String)=id0;wp_delta;rw[show splitId id0=some ("list_reverseiterator","__length_hint__")from by subst o;decide+kernel];subst o;refine Ud (wpAny_isInstance (b:=true) J.typeIs (by rw[isSubtype_type];kernel_rfl) ?_);refine wpAny_ite_split (λg=>absurd g (!4)) (λ_=>?_);refine wpAny_ite_split (λ_=>?_) (λg=>absurd (!20) g);refine wpAny_ite_split (λg=>absurd g (!20)) (λ_=>?_);exact Ug h
def vS(hh:A.handled=none)(J:s.heap.IsRevIter j l ((xs.size:Int)-1))(C:s.heap.IsList l xs)(ne:l≠j)(hS:s.heap.get? S=some {cls:=.type "list",data:=.seq #[] t})(U:S≠j)(nl:S≠l)(hn:xs.size<=sizeLine)(hR:∀g tk p c,(∀d o,d≠S->d≠j->s.heap.get? d=!o->g.get? d=!o)->g.get? S=some {cls:=.type "list",dict:=none,data:=.seq p c,slots:=#[]}->
   ItemsOf (λi v=>xs[xs.size-1-i]?=!v) p xs.size->R (.ok (.ret res)) {s with heap:=g,toks:=tk}):
  wpAny (!7) A.in1 (Builtin.List.listExtendWith (.ref S) (.ref j) res)
   (λfin s'=>match fin with|.done f=>R (.ok f) s'|.again c'=>c'.quiet=true/\codeAny (!7) A c' R s') (λe s'=>R (.error e) s') s:=by
 have W:=(Walks.listRev (prog:=prog) (w:=w) (A:=A.in1) hh j l ne xs).toS
 refine Ud (wpAny_typeOf J.typeIs ?_)
 have h1:Builtin.List.listSameRef (.ref S) (.ref j)=false:=by simp[Builtin.List.listSameRef,U]
 have h2:(Value.type "list_reverseiterator"==Value.type "list")=false:=by decide
 have h3:(Value.type "list_reverseiterator"==Value.type "tuple")=false:=by decide
 simp only[h1,h2,h3,Bool.or_false,Bool.false_eq_true,if_false]
 refine Ud (wpAny_pyIter_revIter J (Ud (wpAny_holding (zW J ?_))))
 refine wpAny_ite_split (λI=>absurd I (!20)) (λ_=>Ug ⟨plainId_quiet F.plain_extend_loop _,?_⟩)
 refine codeAny_extend_loopS W hn S (by simp[U,nl]) res xs.size 0 _ #[] t rfl (Nat.zero_le _) ⟨Nat.zero_le _,by simpa using J,C⟩ hS (ItemsOf.nil _) λs' p c hm T r=>?_
 rw[Moved.eq_with hm]
 exact hR s'.heap s'.toks p c (λd o n1 n2 e=>hm.heap d o (by simp[n1,n2]) e) T r
def zX{j l:Addr}{xs:T7}{Q:TX}(hh:A.handled=none)(J:s.heap.IsRevIter j l ((xs.size:Int)-1))(C:s.heap.IsList l xs)(ne:l≠j)(hn:xs.size<=sizeLine)
  (hQ:∀g tk acc c,(∀d o,d≠j->s.heap.get? d=!o->g.get? d=!o)->g.get? s.heap.objs.size=some {cls:=.type "list",dict:=none,data:=.seq acc c,slots:=#[]}->
   ItemsOf (λi v=>xs[xs.size-1-i]?=!v) acc xs.size->Q (.ref s.heap.objs.size) {s with heap:=g,toks:=tk}):wpAny (!7) A (call (.type "list") [.ref j]) Q E s:=by
 have jl:j<s.heap.objs.size:=by let⟨o,e,_⟩:=J;exact Uh e
 have ll:l<s.heap.objs.size:=by let⟨o,e,_⟩:=C;exact Uh e
 refine callType_codes (Q₁:=λobj z=>obj=.ref s.heap.objs.size/\z={s with heap:=s.heap.push {cls:=.type "list",data:=.seq #[]}}) F.called_list (F.typeCall_list_1 _) F.entry_list_init (code_list_new _ ⟨rfl,rfl⟩) λobj z hz=>?_
 let⟨rfl,rfl⟩:=hz
 have hS:(s.heap.push {cls:=.type "list",data:=.seq #[]}).get? s.heap.objs.size=some {cls:=.type "list",data:=.seq #[]}:=Ui _ rfl
 refine⟨⟨_,hS,rfl⟩,F.args_list_init_2 _ _,?_⟩
 refine Ud ?_
 refine Ud (wpAny_seqItems hS rfl (Ug ?_))
 refine Ud (wpAny_updateSeq hS rfl (Ud (wpAny_letGo ?_)))
 have hS2:=Heap.get?_update_self (Obj.mapSeq (λ_=>(#[]:T7))) hS rfl
 have up:∀d o,d≠s.heap.objs.size->s.heap.get? d=!o->((s.heap.push {cls:=.type "list",data:=.seq #[]}).update s.heap.objs.size (Obj.mapSeq (λ_=>(#[]:T7)))).get? d=!o:=
  λd o n e=>(Heap.get?_update_other _ _ (Ne.symm n)).trans (Ue _ e)
 refine vS hh (J.at λo e=>up _ o (Us jl) e) (C.at λo e=>up _ o (Us ll) e) ne hS2 (Nat.ne_of_gt jl) (Nat.ne_of_gt ll) hn λg tk acc c k hg hi=>?_
 exact⟨rfl,hQ g tk acc c (λd o n e=>k d o (Us (Uh e)) n (up d o (Us (Uh e)) e)) hg hi⟩
def pB{xs g:T7}(h:ItemsOf (λi v=>xs[xs.size-1-i]?=!v) g xs.size):g.toList=xs.toList.reverse:=by
 apply List.ext_getElem?;intro i;by_cases hi:i<xs.size
 .have h1:i<g.size:=by rw[h.1];exact hi
  have e:=h.2 i _ (Array.getElem?_eq_getElem h1);rw[List.getElem?_reverse (by simpa using hi),Array.getElem?_toList,Array.getElem?_toList,Array.getElem?_eq_getElem h1,<-e];simp
 .rw[List.getElem?_eq_none (by rw[Array.length_toList,h.1];omega),List.getElem?_eq_none (by rw[List.length_reverse,Array.length_toList];omega)]
end
section
variable{X:Cx}{a:Expr}{p p2 pos pos2:Pos}
def zY:bootBuiltins "reversed"=!(.type "reversed"):=by decide+kernel
def FN:bootBuiltins "list"=!(.type "list"):=by decide+kernel
def  P7(K:Frag)(ta:TA):TE:=λσ H Q=>ta σ H λvs H1=>∃l xs,vs=[.ref l]/\SqL K H1 l xs/\∀q,H1 q=none->Q (.ref q) (upd H1 q (.lst xs.reverse))
def Iv{ta:TA}(hc:X.calm=true)(hg:Gl X "list")(hm:X.mg "list"=none)(hg2:Gl X "reversed")(hm2:X.mg "reversed"=none)(ha:PA X [a] ta)(hs:starEach [a] X.env=[(false,eval a X.env)]):
  PE X (.Call (.Name "list" p) [.Call (.Name "reversed" p2) [a] [] pos2] [] pos) (P7 X.K ta):=by
 intro pins s σ H Q I h
 refine wpAny_Call_Name_kw (db I hg hm FN (PyProof.Rows.callWith_type1 ?_ rfl rfl))
 show wpAny _ _ (spliced ((false,eval (.Call (.Name "reversed" p2) [a] [] pos2) X.env)::[])) _ _ s
 refine Calls.spliced_cons ?_
 refine wpAny_Call_Name_kw (db I hg2 hm2 zY (PyProof.Rows.callWith_type1 (bu (ha pos2 pins s σ H _ I h) λus s1 ⟨vs,H1,I1,r1,q1⟩=>?_) (by rw[hs];rfl) rfl))
 let⟨l,xs,rfl,hx,q⟩:=q1
 let⟨u,rfl,ru⟩:=fY r1
 cases ru
 let⟨its,rv,pl,hz⟩:=I1.list hx
 have C:=pl.isList
 have ll:l<s1.heap.objs.size:=by let⟨o,e,_⟩:=C;exact Uh e
 refine call_reversed_list C (Calls.spliced_nil ?_)
 have up:∀d o,s1.heap.get? d=!o->(s1.heap.push (revObj l ((its.toArray.size:Int)-1))).get? d=!o:=λd o e=>Ue _ e
 have I2:Inv X pins σ H1 {s1 with heap:=s1.heap.push (revObj l ((its.toArray.size:Int)-1))}:=I1.kept up
 have hl:=rv.length
 refine zX (I1.ok.hd hc) ⟨_,Ui _ rfl,rfl,rfl⟩ (C.at λo e=>up _ o e) (Us ll) (by rw[size_toArray];omega) λg tk acc c k hgS hi=>?_
 have e:=pB hi
 have fr:=I2.hok.fresh (UB _)
 refine⟨.ref _,_,I2.turnedNew (ch:=[s1.heap.objs.size]) (λb hb=>?_) (λb o hb e=>k b o (by simpa using hb) e) (UB _) ?_,rfl,q _ fr⟩
 .rw[mem_singleton.mp hb];exact I1.fpOk (UB _) (I1.hok.fresh (UB _))
 .refine⟨by rw[List.length_reverse];exact hz,its.reverse,c,rv.reverse,?_⟩;have e2:acc=its.reverse.toArray:=by
   apply Array.toList_inj.mp;rw[e]
  rw[<-e2];exact hgS
def  DD:T9->TV:=rh λd=>(gS d).bind λds=>!ds.reverse
def IsL.rev{K}:∀{ds:T9}{xs:List V},IsL K H ds xs->IsL K H ds.reverse xs.reverse
 |[],xs,h=>by cases h;rfl
 |d::ds,xs,⟨x,r,e,h,l⟩=>by
  subst e;rw[List.reverse_cons,List.reverse_cons];exact(IsL.rev l).app ⟨_,_,rfl,h,rfl⟩
def Iw{fa}(hc:X.calm=true)(hg:Gl X "list")(hm:X.mg "list"=none)(hg2:Gl X "reversed")(hm2:X.mg "reversed"=none)(ha:PX X [a] fa)(hs:starEach [a] X.env=[(false,eval a X.env)]):
  PF X (.Call (.Name "list" p) [.Call (.Name "reversed" p2) [a] [] pos2] [] pos) (λY=>(fa Y).bind DD):=λO Y=>(Iv hc hg hm hg2 hm2 (ha O Y) hs).imp λσ H Q ⟨E,ds,q,k⟩=>by
 let⟨as,e1,q⟩:=UD q
 refine⟨E,as,e1,λvs H1 s1 il=>?_⟩
 let⟨c,rfl,q2⟩:=bx q
 let⟨xs,q3,q4⟩:=UD q2
 cases q4
 let⟨v,rfl,h⟩:=uk il
 let⟨l,ys,rfl,t,l2⟩:=eB q3 h
 exact⟨l,ys,rfl,msk_le.seq t,λb hb=>k b _ H1 s1 hb l2.rev⟩
end
def xD(l:Addr)(xs:T7)(n:Nat)(m:Addr)(ys:T7)(k:Nat)(dd:Option Addr)(sl:Array (TZ))(hc0:¬(not xs.isEmpty&&Builtin.List.listTooLong (xs.size+ys.size))=true)(hc1:xs.size<=sizeLine)(hs2:xs.size+ys.size<=sizeLine+1):
  Meets (Builtin.«list.extend» ⟨[.ref l,.ref m],[]⟩) (λ_ R s=>s.heap.get? l=some {cls:=.type "list",dict:=none,data:=.seq xs n,slots:=#[]}/\s.heap.get? m=some {cls:=.type "list",dict:=dd,data:=.seq ys k,slots:=sl}/\R (.ok (.ret Value.none)) {s with heap:=s.heap.update l (Obj.mapSeq λx=>x++ys),toks:=s.toks}):=
 .of_wp λprog w A R s h=>by
  let⟨hl,hb,h⟩:=h;wp_walk using (wpAny_updateSeq hl rfl),AutoSeq1.wpAny_loadPart' hl,AutoSeq1.wpAny_loadPart' hb;exact⟨_,rfl,h⟩
def  Ml(K:Frag):V->List V->Hp->VK->Prop:=λx vs H Q=>∃l m xs zs,x=.ref l/\vs=[.ref m]/\H l=!(.lst xs)/\SqL K H m zs/\xs.length+zs.length<=sizeLine/\Q .non (upd H l (.lst (xs++zs)))
def DE:Hi X "list.extend" (Ml X.K):=by
 intro pins s σ H x vs v us Q I rx rv h;let⟨l,m,xs,zs,rfl,rfl,hH,hB,hz,q⟩:=h;cases rx;let⟨u,rfl,ru⟩:=rv.one;cases ru;let⟨z,its,n,r,hl,e⟩:=I.lstM hH;let⟨jts,r2,⟨⟨c2,d2,t2,s2⟩,n2,e2,k2,_,w2⟩,_⟩:=I.list hB;subst k2 w2;have hl2:=r2.length;have hsz:its.toArray.size+jts.toArray.size<=sizeLine:=by rw[size_toArray,size_toArray];omega
 have hlong:¬ (not its.toArray.isEmpty&&Builtin.List.listTooLong (its.toArray.size+jts.toArray.size))=true:=by
  rw[rM hsz,Bool.and_false];exact Uj
 refine call_meets F.slot_list_extend ⟨_,e,rfl⟩ F.entry_list_extend (F.args_list_extend_2 _ _) (xD l its.toArray n m jts.toArray n2 d2 s2 hlong (by rw[size_toArray];omega) (!3)) ⟨e,e2,?_⟩;refine⟨.non,_,I.lset hH e (by simp) (r.append r2) ?_,rfl,q⟩;grind
def  extS(d:D):Sl:=if gq d then(.deep,d)else(.sh,d)
def  extC:Cat->T9->Cat
 |c,[]=>c
 |c,d::ds=>extC (newCat c (extS d)) ds
section
variable{K:Frag}{B:Bs}
def EnvOk.moreS(E:EnvOk K B O σ H Y)(h:Is K (msk O H) d v):EnvOk K B O (σ++[!v]) H (Y++[!(extS d)]):=by
 unfold extS;split
 .rename_i f;exact E.more (A:=[]) (Same.refl _) (Same.refl _) (λ_ h=>.inl h) (λ_ h=>h) (λ_ h=>(nomatch h)) (λ_ h=>(nomatch h)) List.nodup_nil (λ_ h=>(nomatch h)) (Is.deep d v f h)
 .exact E.moreSh h
def xF(c:Cat)(s:Sl):newCat c s≠.sh:=by unfold newCat;split<;>intro z<;>cases z
def zZ(h:H a=!o):upd H a o=H:=by
 funext b;simp_all [Hp,upd]
def EnvOk.extend{i:Nat}:∀{es:T9}{zs:List V}{O:T6}{H:Hp}{Y:Ev}{c:Cat}{ds:T9},EnvOk K B O σ H Y->Y[i]?=!(!(c,.lst ds))->c≠.sh->IsL K (msk O H) es zs->
  ∃a xs,σ[i]?=!(!(.ref a))/\H a=!(.lst xs)/\ds.length=xs.length/\∃O',EnvOk K B O' σ (upd H a (.lst (xs++zs))) (Y.set i (!(extC c es,.lst (ds++es))))/\Same (msk O H) (msk O' (upd H a (.lst (xs++zs))))
 |[],zs,O,H,Y,c,ds,E,h,hc,l=>by
  have l':zs=[]:=l;subst l';let⟨a,xs,e1,e2,e3,_⟩:=E.ownAt h hc;refine⟨a,xs,e1,e2,e3,O,?_,?_⟩
  .rw[List.append_nil,List.append_nil,zZ e2];show EnvOk K B O σ H (Y.set i (!(c,.lst ds)));rw[show Y.set i (!(c,D.lst ds))=Y from by
    let⟨hi,e⟩:=List.getElem?_eq_some_iff.mp h;rw[<-e];exact List.set_getElem_self hi]
   exact E
  .rw[List.append_nil,zZ e2];exact Same.refl _
 |d::es,zs,O,H,Y,c,ds,E,h,hc,l=>by
  let⟨z,r,rfl,hz,l⟩:=l;let⟨a,xs,e1,e2,e3,O1,E1,s1⟩:=(E.moreS hz).change ii zM zN h hc;have hi:=(Uk.mp h).1;have h2:(Y.set i (!(newCat c (extS d),.lst (ii ds (extS d).2))))[i]?=!(!(newCat c (extS d),.lst (ii ds (extS d).2))):=by rw[List.getElem?_set_self hi]
  let⟨a',xs',f1,f2,f3,O2,E2,s2⟩:=EnvOk.extend E1 h2 (xF _ _) (IsL.mono s1 _ _ l);rw[e1]at f1;cases f1;rw[ak]at f2;cases f2;rw[Cw]at E2 s2;rw[List.set_set]at E2;have ed:(extS d).2=d:=by unfold extS;split<;>rfl
  rw[ed]at E2;unfold ii at E2 s1 s2;rw[List.append_assoc,List.append_assoc]at E2;rw[List.append_assoc]at s2;exact⟨a,xs,e1,e2,e3,O2,E2,s1.trans s2⟩
end
def  xH(i:Nat)(R:TL):TM:=λY=>(jh Y i).bind λw=>(R (eg Y)).bind λd=>(gS d).bind λes=>if w.2.length+es.length<big then !(.nx (Y.set i (!(extC w.1 es,.lst (w.2++es)))))else none
def xI{X:Cx}{e:Expr}{pos:Pos}(i:Nat){x:Str}{px apos cpos:Pos}{R}(h:PP X e R)(hN:X.N[i]?=!x)(hv:tO X.env.scope x)(hd:(!8)=false)
  (hcd:(x==("__classdict__":Str))=false) (hst:starEach [e] X.env=(false,eval e X.env)::starEach [] X.env) (hline:(apos.endLine==cpos.line)=true):PR X (.Expr (.Call (.Attribute (.Name x px) "extend" apos) [e] [] cpos) pos) (xH i R):=λB O Y=>
 (gu (mQ PySem.F.plainAttrs_list PySem.F.slot_list_extend PySem.F.type_list_extend DE (da hN hv hd hcd) (bv (h O (eg Y)) pa_nil hst) rfl (by rw[hst];rfl) hline hst rfl)).imp λEn σ H ⟨E,o,q,k⟩=>by
 let⟨⟨c,ds⟩,q1,q⟩:=UD q
 let⟨d,q2,q⟩:=UD q
 let⟨es,q3,q⟩:=UD q
 let⟨hz,q⟩:=az q
 subst q
 let⟨h0,hc0⟩:=eG q1
 let⟨a,xs0,e1,r3,_⟩:=E.ownAt h0 hc0
 refine⟨.ref a,e1,.inl ⟨rfl,_,SqL.of r3⟩,E.viewS,d,q2,λv H1 s1 i1=>?_⟩
 let⟨m,zs,rfl,t,l⟩:=eB q3 i1
 let⟨a',xs,e2,r4,hl,O2,E2,s2⟩:=(E.grow s1).extend h0 hc0 l
 rw[e1]at e2
 cases e2
 exact⟨a,m,xs,zs,rfl,rfl,r4,msk_le.seq t,by rw[<-hl,<-l.len,jN];exact Uy hz,k σ _ O2 (s1.msk.trans s2) E2⟩
def slot_rt_next:Slot "reversed" "__next__" "reversed.__next__":=
 .of (owner:="reversed") (n:="__next__") (by rw[typeLookup_type,builtinLookup_eq_fast];kernel_rfl) (!20) (!20) (!20)
  (by first|exact .inl (!20)|exact .inr (!20)) (by rw[isSubtype_type];kernel_rfl)
def jy:entryFor table "reversed.__next__"=some Builtin.«reversed.__next__»:=entryFor_of_tree (!1)
def kn(a:Value):argsOk "reversed.__next__" ⟨[a],[]⟩:=by unfold argsOk;kernel_rfl
def ko:Slot "reversed" "__iter__" "reversed.__iter__":=
 .of (owner:="reversed") (n:="__iter__") (by rw[typeLookup_type,builtinLookup_eq_fast];kernel_rfl) (!20) (!20) (!20)
  (by first|exact .inl (!20)|exact .inr (!20)) (by rw[isSubtype_type];kernel_rfl)
def qp(a:Value):argsOk "reversed.__iter__" ⟨[a],[]⟩:=by unfold argsOk;kernel_rfl
def oG:entryFor table "reversed.__iter__"=some Builtin.«dict_keyiterator.__iter__»:=
 entryFor_alias (id':="dict_keyiterator.__iter__") (!1) (by first|rfl|decide+kernel|(unfold String.splitOn;simp+decide [String.splitOnAux])) (!20) (!1)
def qq:Slot "reversed" "__init__" "object.__init__":=
 .of (owner:="object") (n:="__init__") (by rw[typeLookup_type,builtinLookup_eq_fast];kernel_rfl) (!20) (!20) (!20)
  (by first|exact .inl (!20)|exact .inr (!20)) (by rw[isSubtype_type];kernel_rfl)
def called_rt:TypeCalled "reversed" "reversed.__new__" "object.__init__":=
 ⟨by decide+kernel,by decide+kernel,⟨_,_,F.mro_reversed⟩,F.made_reversed,by decide+kernel,by rw[isSubtype_type];kernel_rfl,qq⟩
def xJ:typeLookup (.type "tuple") "__reversed__"=pure none:=by constructor<;>grind
def uD:isSubtype (.type "tuple") (.type "dict")=pure false:=by rw[isSubtype_type];kernel_rfl
def  P8(t:Addr)(i:Int):Obj:={cls:=.type "reversed",data:=.fields #[.ref t,rawInt i]}
def  IsRT(h:Heap)(a t:Addr)(i:Int):Prop:=∃o,h.get? a=!o/\o.cls=.type "reversed"/\o.data=.fields #[.ref t,rawInt i]
section
variable{prog:Program}{w:World}{A:Around}{E:TX}{s:Shared}
def IsRT.typeIs(x:IsRT s.heap a t i):s.TypeIs (.ref a) "reversed":=let⟨o,g,j,_⟩:=x;⟨o,g,j⟩
def IsRT.at(x:IsRT h a t i)(e:∀o,h.get? a=!o->h'.get? a=!o):IsRT h' a t i:=let⟨o,g,r⟩:=x;⟨o,e _ g,r⟩
def DF(g:IsTup s.heap t items):s.TypeIs (.ref t) "tuple":=let⟨o,j,l,_⟩:=g;⟨o,j,l⟩
def sg(ht:IsTup s.heap t items)(hz:items.size<=sizeLine)(h:∀tk,Q₁ (.ref s.heap.objs.size) {s with heap:=s.heap.push (P8 t ((items.size:Int)-1)),toks:=tk}):
  codeAny (!7) A (.call (.builtin "reversed.__new__") ⟨[.type "reversed",.ref t],[]⟩) (wants Q₁ E) s:=by
 refine codeAny_of_tree ?_
 refine Ud (Uu (F.newCall_reversed_1 _) (Ug ⟨plainId_quiet F.plain_reversed_new _,codeAny_builtin F.entry_reversed_new ?_⟩))
 refine Ud (Uu (newClass_reversed _) ?_)
 refine Ud (Uu (by first|rfl|kernel_rfl) ?_)
 refine Ud (Uu (by first|rfl|kernel_rfl) ?_)
 refine Ud (wpAny_specialOf (DF ht) xJ ?_)
 refine Ud ?_
 wp_delta
 refine Ud (wpAny_isInstance (DF ht) uD ?_)
 refine Ud (wpAny_specialOf (DF ht) slot_tuple_getitem.lookup ?_)
 refine Ug ?_
 refine Ud (len_tuple ht (by have:=jJ;omega) ?_)
 refine Ud (Uu rfl ?_)
 refine Ud ?_
 show wpAny _ _ (newObj (.type "reversed") (.fields #[.ref t,rawInt ((items.size:Int)-1)])) _ _ _
 exact wpAny_newObj_type (Ug (h _))
def DG(ht:IsTup s.heap t items)(hz:items.size<=sizeLine)(h:∀tk,Q (.ref s.heap.objs.size) {s with heap:=s.heap.push (P8 t ((items.size:Int)-1)),toks:=tk}):wpAny (!7) A (call (.type "reversed") [.ref t]) Q E s:=by
 refine callType_codes (Q₁:=λobj s₁=>s₁.TypeIs obj "reversed"/\Q obj s₁) called_rt (F.typeCall_reversed_1 _) F.entry_object_init
  (sg ht hz λtk=>⟨⟨_,Ui _ rfl,rfl⟩,h tk⟩) λobj s₁ h₁=>?_
 exact⟨h₁.1,F.args_object_init_2 obj _,object_init_meets called_rt.init.lookup called_rt.made (!4) prog w A.in1 _ s₁ ⟨h₁.1,rfl,h₁.2⟩⟩
def vT(hit:IsRT s.heap g t i)(h:Q (.ref g) s):wpAny (!7) A (pyIter (.ref g)) Q E s:=by
 refine wpAny_pyIter_slot hit.typeIs ko (wpAny_call_entry ko hit.typeIs oG ?_ (qp _));exact Ug ⟨_,rfl,"reversed",_,hit.typeIs,slot_rt_next.lookup,h⟩
def DH{i:Nat}(hit:IsRT s.heap it t (i:Int))(ht:IsTup s.heap t items)(hz:items.size<=sizeLine)(hx:items[i]?=!x)(hQ:∀h' tk,IsRT h' it t ((i:Int)-1)->Heap.SameBut it s.heap h'->Q (!x) {s with heap:=h',toks:=tk}):wpAny (!7) A (pyNext (.ref it)) Q E s:=by
 let⟨o,ho,hc,hd⟩:=id hit;have hi:=(Array.getElem?_eq_some_iff.mp hx).1;have h63:=jJ;refine Ud (wpAny_attempt (wpAny_callSpecial?_slot hit.typeIs slot_rt_next
  (wpAny_call_entry slot_rt_next hit.typeIs jy ?_ (kn _))))
 refine Ud (Uu rfl ?_);refine Ud (wpAny_field ho hd (x:=.ref t) rfl ?_);refine Ud (wpAny_field ho hd rfl ?_);refine Ud (wpAny_specialOf (DF ht) slot_tuple_getitem.lookup ?_);refine Ud (wpAny_mkInt ?_);refine Ud (wpAny_attempt (getItem_tuple ht (!3) (!3) (by
  simp only[seqIndex?];rw[if_neg (show¬ ((i:Nat):Int)<0 by omega),if_pos (by rw[and_eq_true];exact⟨decide_eq_true (!3),decide_eq_true (!3)⟩)];rfl) hx ?_))
 refine Ud (wpAny_field ho hd rfl ?_);refine Ud (wpAny_setField ho hd (by simp) ?_);refine Ug ⟨x,rfl,Ug (hQ _ _ ?_ (Heap.SameBut.update ..))⟩;exact⟨_,Heap.get?_update_self _ ho (Obj.isFreed_of_fields (Obj.data_mapFields hd _)),(Obj.cls_mapFields ..).trans hc,by
  rw[Obj.data_mapFields hd];simp⟩
def Ix(hh:A.handled=none)(hit:IsRT s.heap it t (-1))(hQ:∀h',Heap.ExtBut it s.heap h'->Q none {s with heap:=h'}):wpAny (!7) A (pyNext (.ref it)) Q E s:=by
 let⟨o,ho,hc,hd⟩:=id hit
 refine Ud (wpAny_attempt (wpAny_callSpecial?_slot hit.typeIs slot_rt_next
  (wpAny_call_entry slot_rt_next hit.typeIs jy ?_ (kn _))))
 refine Ud (Uu rfl ?_)
 refine Ud (wpAny_field ho hd (x:=.ref t) rfl ?_)
 refine Ud (wpAny_field ho hd rfl ?_)
 refine Ud (wpAny_rule ?_)
 refine Ud ?_
 wp_delta
 refine Ud (wpAny_setField ho hd (by simp) ?_)
 refine wpAny_setField (Heap.get?_update_self _ ho (Obj.isFreed_of_fields (Obj.data_mapFields hd _))) (Obj.data_mapFields hd _) (by simp) ?_
 obtain⟨H2,hH⟩:∃H2,H2=(s.heap.update it (Obj.mapFields λx=>x.setIfInBounds 1 (rawInt (-1)))).update it (Obj.mapFields λx=>x.setIfInBounds 0 Value.none):=⟨_,rfl⟩
 have hE:Heap.ExtBut it s.heap H2:=by
  rw[hH]
  exact(Heap.SameBut.update ..).extBut.trans (Heap.SameBut.update ..).extBut
 rw[<-hH]
 first
 |show wpAny _ _ (newExc (.type "StopIteration") []>>=_) _ _ _
 |(refine Ud ?_;show wpAny _ _ (newExc (.type "StopIteration") []>>=_) _ _ _)
 refine Ud ?_
 refine Ud (wpAny_newObj_type ?_ (by size_fits))
 refine Ud (Uu (by first|rfl|(simp only[firstArgMember];rfl)) ?_)
 refine wpAny_newObj_type ?_ (by size_fits)
 refine Ud (wpAny_handled ?_)
 first|rw[show A.in1.handled=none from hh]|rw[hh]
 refine Ud (Ug (wpAny_throw ?_))
 refine Ud (wpAny_isInstance ⟨_,Ui _ rfl,rfl⟩ isSubtype_stop ?_)
 exact Ug (hQ _ ((hE.push _).push _))
noncomputable def  P9(K:Frag)(a:Addr)(n:Nat):It:=
 ⟨λi H=>∃xs x,SqT K H a xs/\xs.length=n/\xs.reverse[i]?=!x,λi H x H'=>H'=H/\∀xs,SqT K H a xs->xs.reverse[i]?=!x,λi _=>n<=i⟩
def DI{P:Program}{w:World}{K:Frag}{tg:Expr}(a g:Addr)(n:Nat):Turn P w K tg (P9 K a n) [g] g (λi h=>IsRT h g a ((n:Int)-1-(min i n:Nat))) where
 mem:=by simp
 obj:=λi h st b j=>by
  have e:b=g:=by simpa using j
  subst e;let⟨o,e,c,d⟩:=st;exact⟨o,e,λv z=>by rw[d]at z;cases z⟩
 keep:=λi h h' st k=>st.at λo e=>k g (by simp) o e
 item:=by
  intro X hP hw hK hc i pins s σ H E I C st t;subst hP hw hK;let⟨xs,x,hq,hn,r⟩:=t;subst hn;let⟨its,rv,p,hz⟩:=I.tuple hq;have hi:i<xs.length:=by
   have:=(Uk.mp r).1;rwa [List.length_reverse]at this
  have hl:=rv.length;rw[List.getElem?_reverse hi]at r;let⟨u,hu,ru⟩:=rv.get r;let⟨f0,f1,f2,U,T,J⟩:=C g (by simp);have ei:((xs.length:Nat):Int)-1-((min i xs.length:Nat):Int)=((xs.length-1-i:Nat):Int):=by omega
  have st:=ei▸st;refine DH st p (by rw[size_toArray];omega) (by simpa using hu) λh' tk l sb=>?_;have I1:Inv X pins σ H {s with heap:=h',toks:=tk}:=I.turned (λb o j e=>(sb.2 b j).trans e) f0 f1 U T J;let⟨o,e,c,d⟩:=id l;refine⟨u,rfl,vr e c d (!4) ⟨x,H,I1,ru,⟨rfl,λys hy=>by rw[I.tuple_inj hy hq,List.getElem?_reverse hi];exact r⟩,?_,λb j=>(C b j).1⟩⟩;have ej:((xs.length-1-i:Nat):Int)-1=((xs.length:Nat):Int)-1-((min (i+1) xs.length:Nat):Int):=by omega
  exact ej▸l
 done:=by
  intro X hP hw hK hc i pins s σ H E I C st t;have t:n<=i:=t;let⟨f0,f1,f2,U,T,J⟩:=C g (by simp);have ei:((n:Nat):Int)-1-((min i n:Nat):Int)= -1:=by omega
  exact Ix (I.ok.hd hc) (ei▸st) λh' eb=>⟨rfl,I.turned (λb o j e=>eb b o j e) f0 f1 U T J⟩
 self:=λ_ _ _ _ _ st h=>vT st h
def DJ{K}(q:SqT K o a xs)(j:IsL K o ds xs):m5 K o (P9 K a xs.length) ds.reverse:=λi H O s hd=>by
 have g:=(s.trans msk_le).seqT q;have r:=j.rev;refine⟨λd hi=>?_,λhi=>?_⟩
 .let⟨x,l,p⟩:=r.get hi;refine⟨⟨xs,x,g,rfl,l⟩,λy C ⟨e,t⟩=>?_⟩;subst e;have:=t xs g;rw[l]at this;cases this;exact⟨Same.refl _,Is.mono s d x p⟩
 .show xs.length<=i;rw[<-j.len,<-List.length_reverse];exact hi
end
section
variable{X:Cx}{tg a:Expr}{p pos:Pos}
def  Tg(K:Frag)(ta:TA):TI:=λσ H R=>ta σ H λvs H1=>∃t xs,vs=[.ref t]/\SqT K H1 t xs/\R (P9 K t xs.length) H1
def Mm(hg:Gl X "reversed")(hm:X.mg "reversed"=none)(ha:PA X [a] ta)(hs:starEach [a] X.env=[(false,eval a X.env)]):PI X tg (.Call (.Name "reversed" p) [a] [] pos) (Tg X.K ta):=by
 intro pins s σ H R I h;refine wpAny_Call_Name_kw (db I hg hm zY (PyProof.Rows.callWith_type1 (bu (ha pos pins s σ H _ I h) λus j ⟨vs,H1,l,C,T⟩=>?_) (by rw[hs];rfl) rfl));let⟨t,xs,rfl,U,q⟩:=T;let⟨u,rfl,r⟩:=fY C;cases r;let⟨g,rv,pl,hz⟩:=l.tuple U;have hl:=rv.length;refine DG pl (by rw[size_toArray];omega) λtk=>?_;have J:IsRT (j.heap.push (P8 t ((g.toArray.size:Int)-1))) j.heap.objs.size t ((g.toArray.size:Int)-1):=⟨_,Ui _ rfl,rfl,rfl⟩;refine vT J ?_;refine⟨j.heap.objs.size,[j.heap.objs.size],_,_,H1,rfl,l.kept λb o e=>Ue _ e,DI t _ xs.length,?_,λb hb=>?_,q⟩
 .have e:((xs.length:Nat):Int)-1-((min 0 xs.length:Nat):Int)=(g.toArray.size:Int)-1:=by rw[size_toArray,<-hl];omega
  rw[e];exact J
 .have e:b=j.heap.objs.size:=by simpa using hb
  subst e;exact l.fpOk (UB _) (l.hok.fresh (UB _))
def  Mn:T9->TV:=rh λd=>(HG d).bind λds=>!ds.reverse
def Mo(U:Gl X "reversed")(T:X.mg "reversed"=none)(ha:PX X [a] fa)(J:starEach [a] X.env=[(false,eval a X.env)]):PJ X tg (.Call (.Name "reversed" p) [a] [] pos) (λY=>(fa Y).bind Mn):=
 λO Y=>(Mm U T (ha O Y) J).imp λσ H R ⟨E,ds,q,k⟩=>by
 let⟨as,e1,q⟩:=UD q
 refine⟨E,as,e1,λvs H1 j I=>?_⟩
 let⟨c,rfl,o⟩:=bx q
 let⟨es,g,l⟩:=UD o
 cases l
 let⟨v,rfl,C⟩:=uk I
 cases c with
 |tup fs=>
  cases g;let⟨t,xs,rfl,h2,r⟩:=C;exact⟨t,xs,rfl,msk_le.seqT h2,k _ H1 j (DJ h2 r)⟩
 |_=>cases g
end
open PySem.AutoSeq1 (wpAny_loadPart')
def sj(hh:A.handled=none)(J:s.heap.IsRevIter j l ((xs.size:Int)-1))(C:s.heap.IsList l xs)(ne:l≠j)(hn:xs.size<=sizeLine)(hQ:∀(g:Heap) tk acc,(∀d o,d≠j->s.heap.get? d=!o->g.get? d=!o)->s.heap.objs.size<=g.objs.size->ItemsOf (λi v=>xs[xs.size-1-i]?=!v) acc xs.size->Q acc.toList {s with heap:=g,toks:=tk}):wpAny (!7) A (collect (.ref j)) Q E s:=by
 have jl:j<s.heap.objs.size:=by let⟨o,e,_⟩:=J;exact Uh e
 have ll:l<s.heap.objs.size:=by let⟨o,e,_⟩:=C;exact Uh e
 have up:∀d o,s.heap.get? d=!o->(s.heap.push {cls:=.type "list",data:=.seq ([]:TY).toArray}).get? d=!o:=λd o e=>Ue _ e;have key:∀R:Result->Shared->Prop,(∀g tk acc c,(∀d o,d≠s.heap.objs.size->d≠j->(s.heap.push {cls:=.type "list",data:=.seq ([]:TY).toArray}).get? d=!o->g.get? d=!o)->g.get? s.heap.objs.size=some {cls:=.type "list",dict:=none,data:=.seq acc c,slots:=#[]}->
   ItemsOf (λi v=>xs[xs.size-1-i]?=!v) acc xs.size->R (.ok _) {s with heap:=g,toks:=tk})->codeAny (!7) A (.builtin "proto.collect" ⟨[.ref j],[]⟩) R s:=λR hR=>by
  refine codeAny_builtin F.entry_proto_collect ?_
  refine Ud (wpAny_newObj_type ?_)
  refine Ug ⟨plainId_quiet F.plain_list_iadd _,codeAny_builtin F.entry_list_iadd ?_⟩
  exact vS hh (J.at λo e=>up _ o e) (C.at λo e=>up _ o e) ne (Ui s.heap rfl) (Nat.ne_of_gt jl) (Nat.ne_of_gt ll) hn λg tk acc c k hg hi=>hR g tk acc c k hg hi
 refine Ud (wpAny_runValue (key _ λg tk acc c k hg hi=>?_));refine Ud (wpAny_load hg ?_);exact Ug (hQ g tk acc (λd o n e=>k d o (Us (Uh e)) n (up d o e)) (Uy (Uh hg)) hi)
def xK{prog:Program}{w:World}{A:Around}{E:TX}{s:Shared}(hh:A.handled=none)(J:s.heap.IsRevIter j l ((xs.size:Int)-1))(C:s.heap.IsList l xs)(ne:l≠j)(hn:xs.size<=sizeLine)(hQ:∀(g:Heap) tk acc,(∀d o,d≠j->s.heap.get? d=!o->g.get? d=!o)->s.heap.objs.size<=g.objs.size->ItemsOf (λi v=>xs[xs.size-1-i]?=!v) acc xs.size->Q (.ref g.objs.size) {s with heap:=g.push {cls:=.type "tuple",data:=.seq acc},toks:=tk}):
  wpAny (!7) A (call (.type "tuple") [.ref j]) Q E s:=by
 refine callType_codes (Q₁:=λobj s₁=>s₁.TypeIs obj "tuple"/\Q obj s₁) F.called_tuple (F.typeCall_tuple_1 _) F.entry_object_init ?_ λobj s₁ h₁=>?_
 .refine codeAny_of_tree ?_;show wpAny _ A.in1.in1 (do checkBuiltinCall "tuple.__new__" ⟨[.type "tuple",.ref j],[]⟩;again (.builtin "tuple.__new__" ⟨[.type "tuple",.ref j],[]⟩)) _ _ s;refine Ud (Uu (F.newCall_tuple_1 _) (Ug ⟨plainId_quiet F.plain_tuple_new _,codeAny_builtin F.entry_tuple_new ?_⟩));rw[Around.under_plainId F.plain_tuple_new _];have hsub:=sub_tuple_self;have hinit:=init_tuple_lookup;have hmh:=madeHere_tuple;have hTI:=J.typeIs;have cr:∀{Q:TY->Shared->Prop}{E:TX},(∀(g:Heap) tk acc,(∀d o,d≠j->s.heap.get? d=!o->g.get? d=!o)->s.heap.objs.size<=g.objs.size->ItemsOf (λi v=>xs[xs.size-1-i]?=!v) acc xs.size->Q acc.toList {s with heap:=g,toks:=tk})->wpAny (!7) A.in1.in1 (collect (.ref j)) Q E s:=λhq=>sj (A:=A.in1.in1) hh J C ne hn hq;wp_walk using wpAny_typeOf hTI,cr;intro g tk acc k hle hacc;show wpAny _ _ (Builtin.Tuple.tupleExact acc.toList.toArray>>=λv=>ret v) _ _ _;unfold Builtin.Tuple.tupleExact;refine Ud (wpAny_newObj_type ?_ (by show acc.toList.toArray.size<=sizeLine;simp only[Array.toArray_toList];rw[hacc.1];exact hn));refine Ug ?_;have e:acc.toList.toArray=acc:=by simp
  rw[e];exact⟨⟨_,Ui _ rfl,rfl⟩,hQ g tk acc k hle hacc⟩
 .exact⟨h₁.1,F.args_object_init_2 obj _,object_init_meets F.called_tuple.init.lookup F.called_tuple.made (!4) prog w A.in1 _ s₁ ⟨h₁.1,rfl,h₁.2⟩⟩
section
variable{X:Cx}{a:Expr}{p p2 pos pos2:Pos}
def  Qa(K:Frag)(ta:TA):TE:=λσ H Q=>ta σ H λvs H1=>∃l xs,vs=[.ref l]/\SqL K H1 l xs/\∀q,H1 q=none->Q (.ref q) (upd H1 q (.tup xs.reverse))
def Mp:bootBuiltins "tuple"=!(.type "tuple"):=by decide+kernel
def Iy(hc:X.calm=true)(hg:Gl X "tuple")(hm:X.mg "tuple"=none)(U:Gl X "reversed")(T:X.mg "reversed"=none)(ha:PA X [a] ta)(hs:starEach [a] X.env=[(false,eval a X.env)]):
  PE X (.Call (.Name "tuple" p) [.Call (.Name "reversed" p2) [a] [] pos2] [] pos) (Qa X.K ta):=by
 intro pins s σ H Q I h
 refine wpAny_Call_Name_kw (db I hg hm Mp (PyProof.Rows.callWith_type1 ?_ rfl rfl))
 show wpAny _ _ (spliced ((false,eval (.Call (.Name "reversed" p2) [a] [] pos2) X.env)::[])) _ _ s
 refine Calls.spliced_cons ?_
 refine wpAny_Call_Name_kw (db I U T zY (PyProof.Rows.callWith_type1 (bu (ha pos2 pins s σ H _ I h) λus r ⟨vs,H1,J,r1,q1⟩=>?_) (by rw[hs];rfl) rfl))
 let⟨l,xs,rfl,hx,q⟩:=q1
 let⟨u,rfl,ru⟩:=fY r1
 cases ru
 let⟨j,rv,pl,hz⟩:=J.list hx
 have C:=pl.isList
 have ll:l<r.heap.objs.size:=by let⟨o,e,_⟩:=C;exact Uh e
 refine call_reversed_list C (Calls.spliced_nil ?_)
 have up:∀d o,r.heap.get? d=!o->(r.heap.push (revObj l ((j.toArray.size:Int)-1))).get? d=!o:=λd o e=>Ue _ e
 have I2:Inv X pins σ H1 {r with heap:=r.heap.push (revObj l ((j.toArray.size:Int)-1))}:=J.kept up
 have hl:=rv.length
 refine xK (J.ok.hd hc) ⟨_,Ui _ rfl,rfl,rfl⟩ (C.at λo e=>up _ o e) (Us ll) (by rw[size_toArray];omega) λg tk acc k t hi=>?_
 have e:=pB hi
 have e2:acc=j.reverse.toArray:=by
  apply Array.toList_inj.mp;rw[e]
 have fr:=I2.hok.fresh t
 refine⟨.ref _,_,I2.turnedNew (ch:=[r.heap.objs.size]) (λb hb=>?_) (λb o hb e=>Ue _ (k b o (by simpa using hb) e)) t ?_,rfl,q _ fr⟩
 .rw[mem_singleton.mp hb];exact J.fpOk (UB _) (J.hok.fresh (UB _))
 .rw[e2];exact⟨by rw[List.length_reverse];exact hz,j.reverse,rv.reverse,IsTup.new _ _⟩
def  Iz:T9->Ub:=rh λd=>(gS d).bind λds=>!(.tup ds.reverse)
def IA(hc:X.calm=true)(hg:Gl X "tuple")(hm:X.mg "tuple"=none)(j:Gl X "reversed")(g:X.mg "reversed"=none)(ha:PX X [a] fa)(hs:starEach [a] X.env=[(false,eval a X.env)]):
  PP X (.Call (.Name "tuple" p) [.Call (.Name "reversed" p2) [a] [] pos2] [] pos) (λY=>(fa Y).bind Iz):=λO Y=>(Iy hc hg hm j g (ha O Y) hs).imp λσ H Q ⟨E,d,q,k⟩=>by
 let⟨as,e1,q⟩:=UD q
 refine⟨E,as,e1,λvs H1 C il=>?_⟩
 let⟨c,rfl,T⟩:=bx q
 let⟨xs,J,I⟩:=UD T
 cases I
 let⟨v,rfl,h⟩:=uk il
 let⟨l,ys,rfl,t,U⟩:=eB J h
 refine⟨l,ys,rfl,msk_le.seq t,λb o=>?_⟩
 have r:=(E.grow C).fresh o
 have le:Same (msk O H1) (msk O (upd H1 b (.tup ys.reverse))):=by rw[ke r];exact Same.new (by rw[aO r];exact o)
 exact k _ _ (C.trans (Same.new o)) ⟨b,ys.reverse,rfl,.of (by rw[aO r,ak]),IsL.mono le _ _ U.rev⟩
end
def  shO:Option Sl->Option Sl
 |some (_,d)=>!(.sh,d)
 |none=>none
def  frz1(i:Nat)(Y:Ev):Ev:=match Y[i]? with
 |some x=>Y.set i (shO x)
 |none=>Y
def  frzS:T1->Ev->Ev
 |[],Y=>Y
 |i::is,Y=>frzS is (frz1 i Y)
section
variable{K:Frag}{B:Bs}{O:T6}{σ:St}{H:Hp}{Y:Ev}
def EnvOk.frz1(E:EnvOk K B O σ H Y)(i:Nat):∃T,EnvOk K B T σ H (frz1 i Y)/\Same (msk O H) (msk T H):=by
 unfold L2.frz1;cases hx:Y[i]? with
 |none=>exact⟨O,E,Same.refl _⟩
 |some x=>
  let⟨F,h1,h2,J,I⟩:=E.fp;have le:Same (msk O H) (msk (λb=>O b&&not (decide (b∈F i))) H):=λb o q=>by
   let⟨q1,U⟩:=bU q;rw[aO (by simp[q1])];exact U
  refine⟨λb=>O b&&not (decide _),⟨E.same,E.bdom,λb p=>?_,λb p=>E.lis b (by simp at p;exact p.1),by rw[List.length_set];exact E.len,λj=>if j=i then[]else F j,λj s q=>?_,λj=>?_,λj k a g t=>?_,λj a g=>?_⟩,le⟩
  .have n:b ∉ F i:=λz=>E.bdom b p (I i b z).2;simp[E.sub b p,n]
  .rcases get_set_some q with⟨e,r⟩|⟨e,r⟩
   .subst e;cases x with
    |none=>cases r
    |some z=>
     cases r;let⟨v,C,l⟩:=h1 j _ hx;refine⟨v,C,?_⟩;simp only[if_true];exact⟨rfl,l.is le λa ha=>by simp[ha]⟩
   .let⟨v,C,l⟩:=h1 j s r;refine⟨v,C,?_⟩;simp only[if_neg e];exact l.frame le λ_ _ _ z=>z
  .dsimp only;split
   .exact List.nodup_nil
   .exact h2 _
  .by_cases e:j=i
   .simp[e]at g
   .by_cases e2:k=i
    .simp[e2]at t
    .simp only[if_neg e]at g;simp only[if_neg e2]at t;exact J j k a g t
  .by_cases e:j=i
   .simp[e]at g
   .simp only[if_neg e]at g;let⟨l,o2⟩:=I j a g;have n:a ∉ F i:=λz=>e (J j i a g z);exact⟨by simp[l,n],o2⟩
def EnvOk.frzS:∀(is:T1){O:T6}{Y:Ev},EnvOk K B O σ H Y->∃O',EnvOk K B O' σ H (frzS is Y)/\Same (msk O H) (msk O' H)
 |[],O,Y,E=>⟨O,E,Same.refl _⟩
 |i::is,O,Y,E=>by
  let⟨O1,E1,s1⟩:=E.frz1 i;let⟨O2,E2,s2⟩:=EnvOk.frzS is E1;exact⟨O2,E2,s1.trans s2⟩
end
def z0(is:T1)(h:tM X e g):tM X e (λY=>g (frzS is Y)):=λB O Y=>(PU.ex λj=>h B j _).imp λσ H Q ⟨E,s,Y',q,k⟩=>by
 let⟨j,r,le⟩:=E.frzS is;exact⟨j,r,s,Y',q,λv H' o l p=>k v H' o (le.trans l) p⟩
def  Op(f:{α:Type}->List α->α->List α):Prop:=∀{K:Frag}{M H:Hp}{ds:T9}{xs:List V}{A:List Addr}{d:D}{v:V},DeepL K M H ds xs A->Deep K M H d v []->DeepL K M H (f ds d) (f xs v) A
def Aa:Op ii:=λ{K M H ds xs A d v} h q=>by
 have:=DeepL.snoc q h;grind [Op,ii]
def DeepL.sub{K:Frag}{M H:Hp}{ds2:T9}(f:{α:Type}->List α->α->List α)(hf:Op f){d:D}{v:V}(lf:gq d=true)(hi:Is K M d v):∀{ds:T9}{xs:List V}{A:List Addr}{j:Nat},DeepL K M H ds xs A->A.Nodup->ds[j]?=!(.lst ds2)->
  ∃a ys,xs[j]?=!(.ref a)/\a∈A/\H a=!(.lst ys)/\ds2.length=ys.length/\DeepL K M (upd H a (.lst (f ys v))) (ds.set j (.lst (f ds2 d))) xs A
 |[],xs,A,j,h,nd,e=>by simp at e
 |d0::ds,xs,A,0,⟨x,r,A1,A2,e1,e2,h1,h2⟩,nd,e=>by
  simp at e;subst e;let⟨a,ys,A',z1,z2,z3,l⟩:=h1;subst z1 e1 e2 z3;have n1:a ∉ A'/\a ∉ A2:=by
   have:=(List.nodup_cons.mp (show(a::(A'++A2)).Nodup from nd)).1;simp at this;exact this
  have fr:∀(L:List Addr),a ∉ L->∀b∈L,∀o,H b=!o->upd H a (.lst (f ys v)) b=!o:=λL n b hb o q=>by rw[al (show b≠a fromλz=>n (z▸hb))];exact q
  refine⟨a,ys,rfl,by simp,z2,DeepL.len l,_,_,a::A',A2,rfl,rfl,⟨a,f ys v,A',rfl,ak,rfl,?_⟩,DeepL.frame (NL.of (Same.refl _)) _ _ _ (fr A2 n1.2) h2⟩;exact hf (DeepL.frame (NL.of (Same.refl _)) _ _ _ (fr A' n1.1) l) (Is.deep d v lf hi)
 |d0::ds,xs,A,j+1,⟨x,r,A1,A2,e1,e2,h1,h2⟩,nd,e=>by
  subst e1 e2;let⟨n1,n2,n3⟩:=List.nodup_append.mp nd;let⟨a,ys,f1,f2,f3,f4,f5⟩:=DeepL.sub f hf lf hi h2 n2 (show ds[j]?=some (.lst ds2)by simpa using e);have na:a ∉ A1:=λz=>n3 a z a f2 rfl;refine⟨a,ys,by simpa using f1,Uw _ f2,f3,f4,x,r,A1,A2,rfl,rfl,Deep.frame (NL.of (Same.refl _)) _ _ _ (λb hb o q=>?_) h1,f5⟩;rw[al (show b≠a fromλz=>na (z▸hb))];exact q
def EnvOk.changeIn{K:Frag}{B:Bs}{O:T6}{σ:St}{H:Hp}{Y:Ev}(E:EnvOk K B O σ H Y)(f:{α:Type}->List α->α->List α)(hf:Op f){i j:Nat}{ds ds2:T9}(h:Y[i]?=!(!(.deep,.lst ds)))(hj:ds[j]?=!(.lst ds2)){d:D}{v:V}(lf:gq d=true)(hi:Is K (msk O H) d v):
  ∃a xs a2 ys,σ[i]?=!(!(.ref a))/\H a=!(.lst xs)/\ds.length=xs.length/\xs[j]?=!(.ref a2)/\H a2=!(.lst ys)/\ds2.length=ys.length/\
   EnvOk K B O σ (upd H a2 (.lst (f ys v))) (Y.set i (!(.deep,.lst (ds.set j (.lst (f ds2 d))))))/\Same (msk O H) (msk O (upd H a2 (.lst (f ys v)))):=by
 let⟨F,h1,h2,h3,h4⟩:=E.fp
 let⟨v0,e0,o0⟩:=h1 i _ h
 let⟨a,xs,A',z1,z2,z3,l⟩:=o0
 subst z1
 have nd:=h2 i
 rw[z3]at nd
 let⟨nA,ndA⟩:=List.nodup_cons.mp nd
 let⟨a2,ys,f1,f2,f3,f4,f5⟩:=DeepL.sub f hf lf hi l ndA hj
 have ha2:a2∈F i:=by rw[z3];exact Um _ f2
 let⟨o2,b2⟩:=h4 i a2 ha2
 have me:msk O (upd H a2 (.lst (f ys v)))=msk O H:=iV o2
 have le:Same (msk O H) (msk O (upd H a2 (.lst (f ys v)))):=by rw[me];exact Same.refl _
 have ne:a≠a2:=λz=>nA (z▸f2)
 refine⟨a,xs,a2,ys,e0,z2,DeepL.len l,f1,f3,f4,⟨λb o q=>?_,E.bdom,E.sub,λb hb=>?_,by rw[List.length_set];exact E.len,F,λk s q=>?_,h2,h3,h4⟩,le⟩
 .rw[al (aG q b2)];exact E.same b o q
 .by_cases e:b=a2
  .subst e;exact .inl ⟨_,ak⟩
  .rw[al e];exact E.lis b hb
 .rcases get_set_some q with⟨e,q'⟩|⟨e,q'⟩
  .cases q';subst e;refine⟨.ref a,e0,a,xs,A',rfl,by rw[al ne];exact z2,z3,?_⟩;rw[me];exact f5
  .let⟨w,e1,o1⟩:=h1 k s q';refine⟨w,e1,o1.frame le λb hb o z=>?_⟩;have:b≠a2:=λz2=>e (h3 k i a2 (z2▸hb) ha2);rw[al this];exact z
def  FO(Y:Ev)(i:Nat):TV:=(jh Y i).bind λw=>if w.1=.deep then !w.2 else none
def  xL(i:Nat)(fk:TL)(R:TL):TM:=λY=>(FO Y i).bind λds=>(fk (vw Y)).bind λy=>(kS y).bind λk=>(re ds.length k).bind λj=>(ds[j]?).bind λz=>(gS z).bind λds2=>
 (kj (R (eg Y))).bind λd=>if ds2.length+1<big then !(.nx (Y.set i (!(.deep,.lst (ds.set j (.lst (ds2++[d])))))))else none
def lstD_some{d:D}{ds:T9}(h:gS d=!ds):d=.lst ds:=by
 cases d<;>first|(cases h;rfl)|cases h
def IB{X:Cx}{e:Expr}{pos:Pos}(i:Nat){x:Str}{px spos apos cpos:Pos}{ik:Expr}{fk R}(hk:PP X ik fk)(h:PP X e R)(hN:X.N[i]?=!x)(hv:tO X.env.scope x)(hd:(!8)=false)
  (hcd:(x==("__classdict__":Str))=false) (hix:j7 ik) (hst:starEach [e] X.env=(false,eval e X.env)::starEach [] X.env) (hline:(apos.endLine==cpos.line)=true):
  PR X (.Expr (.Call (.Attribute (.Subscript (.Name x px) ik spos) "append" apos) [e] [] cpos) pos) (xL i fk R):=λB O Y=>
 (gu (mQ PySem.F.plainAttrs_list PySem.F.slot_list_append PySem.F.type_list_append kO (yW ix_list (da hN hv hd hcd) (hk j3 (vw Y)) hix) (bv (h O _) pa_nil hst) rfl (by rw[hst];rfl) hline hst rfl)).imp λEn σ H ⟨E,o,q,k⟩=>by
 let⟨ds,q1,q⟩:=UD q
 let⟨y,q2,q⟩:=UD q
 let⟨n,q3,q⟩:=UD q
 let⟨j,q4,q⟩:=UD q
 let⟨z,q5,q⟩:=UD q
 let⟨ds2,q6,q⟩:=UD q
 let⟨d,q7,q⟩:=UD q
 let⟨hz,q⟩:=az q
 subst q
 let⟨⟨c,ds'⟩,p1,p2⟩:=UD q1
 let⟨p3,p4⟩:=az p2
 subst p3 p4
 let⟨h0,hc0⟩:=eG p1
 cases intD_some q3
 cases lstD_some q6
 let⟨d',p5,p6⟩:=UD q7
 let⟨lf,p7⟩:=az p6
 subst p7
 let⟨a,xs0,e1,r3,hl0,oa,_⟩:=E.ownAt h0 hc0
 refine⟨.ref a,e1,E.view,_,q2,λyv H1 s1 iy=>?_⟩
 cases(iy)
 have E1:=E.grow s1
 let⟨a',xs,a2,ys,g1,g2,g3,g4,g5,g6,_⟩:=E1.changeIn ii Aa (d:=.non) h0 q5 rfl rfl
 rw[e1]at g1
 cases g1
 refine⟨a,xs,n,.ref a2,rfl,rfl,SqL.of g2,?_,.inl ⟨rfl,_,SqL.of g5⟩,E1.viewS,d',p5,λv H2 s2 iv=>?_⟩
 .unfold mP;rw[<-g3,q4];exact g4
 let⟨b',zs,b2,ws,k1,k2,k3,k4,k5,k6,k7,k8⟩:=(E1.grow s2).changeIn ii Aa h0 q5 lf iv;rw[e1]at k1;cases k1;have w1:=s2 _ _ g2;rw[w1]at k2;cases k2;rw[g4]at k4;cases k4;exact⟨a2,ws,v,rfl,rfl,k5,by rw[jN,<-k6];exact Nat.lt_of_succ_lt hz,k σ _ O (s1.msk.trans (s2.msk.trans k8)) k7⟩
def IC:oC X (.Dict [] [] pos) (λ_=>!(.dct [] [])):=λY=>PE.pu (pe_dnewK.imp λσ H Q ⟨E,d,q,k⟩=>by
 cases q;exactλp g=>k _ _ [p] (Same.new g) ⟨p,[],[],rfl,ak,rfl,rfl,rfl,rfl⟩ (by simp) λa j=>by rw[mem_singleton.mp j];exact g) rfl
def  Mq(Y:Ev)(i:Nat):Option (List gO×List D):=(oE Y i).bind λs=>match s with
 |(.deep,.dct ks ds)=>!(ks,ds)
 |_=>none
def xM(h:Mq Y i=!w):Y[i]?=!(!(.deep,.dct w.1 w.2)):=by
 let⟨⟨c,d⟩,h1,h2⟩:=UD h;have g:=h2;split at g
 .rename_i ks ds e;cases g;cases e;exact gb h1
 .cases g
def EnvOk.dctAt{K:Frag}{B:Bs}{O:T6}{σ:St}{H:Hp}{Y:Ev}(E:EnvOk K B O σ H Y){i:Nat}(h:Y[i]?=!(!(.deep,.dct ks ds))):∃a kvs,σ[i]?=!(!(.ref a))/\H a=!(.dK kvs)/\kvs.map (·.1)=ks/\O a=true/\B.H a=none:=by
 let⟨F,h1,h2,h3,h4⟩:=E.fp;let⟨v,e,a,kvs,A',z1,z2,z3,z4,l⟩:=h1 i _ h;grind
section
variable{X:Cx}{a:Expr}{p pos:Pos}
def Ab:bootBuiltins "sorted"=!(.builtin "sorted"):=by decide+kernel
noncomputable def  fP(ns:T5):T5:=ns.mergeSort (λa b=>decide (a<=b))
def uE(h1:ms.Perm ns)(h2:ms.Pairwise (·<=·)):ms=fP ns:=by
 refine List.Perm.eq_of_pairwise (λa b _ _ h h'=>Int.le_antisymm h h') h2 ?_ (h1.trans (List.mergeSort_perm _ _).symm);have:=List.pairwise_mergeSort (le:=λa b:Int=>decide (a<=b)) (λa b c h1 h2=>decide_eq_true (Int.le_trans (Uo h1) (Uo h2))) (λa b=>by simp;omega) ns;simp_all [fP]
def FP:∀{ns:T5}{us:TY},Vals (ns.map V.int) us->IntsAre us ns
 |[],_,.nil=>.nil
 |n::ns,_,.cons ⟨t,e⟩ r=>by subst e;exact .cons n t (FP r)
def kZ:∀{us:TY}{ns:T5},IntsAre us ns->Vals (ns.map V.int) us
 |_,_,.nil=>.nil
 |_,_,.cons n t r=>.cons ⟨t,rfl⟩ (kZ r)
def  Mr(K:Frag):List V->Hp->VK->Prop:=λvs H Q=>∃l ns,vs=[.ref l]/\SqL K H l (ns.map V.int)/\ns.length<64/\∀q,H q=none->Q (.ref q) (upd H q (.lst ((fP ns).map V.int)))
def xN:dI X (.builtin "sorted") (Mr X.K):=by
 intro pins s σ H xs U Q I r h;let⟨l,ns,rfl,p,J,q⟩:=h;let⟨u,rfl,j⟩:=fY r;cases j;let⟨g,rv,pl,hz⟩:=I.list p;have t:=rv.length;rw[length_map]at t;refine PyProof.Rows.sorted_ints pl.isList (FP rv) (!3) λout ms h1 h2 T=>?_;let⟨e,C⟩:=sortedAll_at s.heap g out;have z:=uE h2 T;subst z;have fr:=I.hok.fresh (Nat.le_succ _);refine⟨.ref _,_,I.laid (λb o q=>sortedAll_old q) (Nat.le_succ _) (o:=.lst _) ⟨?_,out.toList,e,kZ h1,by simpa using C⟩,rfl,q _ fr⟩;rw[length_map,h2.length_eq];have:(64:Nat)<=sizeLine:=by decide
 omega
def  sk:T9->TV:=rh λd=>(gS d).bind λds=>(dX ds).bind λns=>if ns.length<64 then !((fP ns).map D.int)else none
def kq{K}:∀(ns:T5),IsL K H (ns.map D.int) (ns.map V.int)
 |[]=>rfl
 |n::ns=>⟨_,_,rfl,rfl,kq ns⟩
def DK(hg:Gl X "sorted")(hm:X.mg "sorted"=none)(ha:PX X [a] fa)(hs:starEach [a] X.env=[(false,eval a X.env)]):
  PF X (.Call (.Name "sorted" p) [a] [] pos) (λY=>(fa Y).bind sk):=λO Y=>(g9 xN hg hm Ab (ha O Y) (!4) (!4) (by rw[hs];rfl) rfl).imp λσ H Q ⟨E,ds,q,k⟩=>by
 let⟨as,e1,q⟩:=UD q
 refine⟨E,as,e1,λvs H1 j il=>?_⟩
 let⟨c,rfl,T⟩:=bx q
 let⟨xs,J,I⟩:=UD T
 let⟨U,C,r⟩:=UD I
 let⟨g,o⟩:=az r
 subst o
 let⟨v,rfl,h⟩:=uk il
 let⟨l,ys,rfl,t,l2⟩:=eB J h
 rw[iX C l2]at t
 exact⟨l,U,rfl,msk_le.seq t,g,λb hb=>k b _ H1 j hb (kq _)⟩
end
section
variable{X:Cx}{a:Expr}{p p2 pos pos2:Pos}
def nh:∀(l:TY)(k:Int),(∀(i:Nat)(v:Value),l[i]?=!v->∃t,v=Value.int (k+(i:Int)) t)->Vals ((List.range l.length).map λ(i:Nat)=>V.int (k+(i:Int))) l
 |[],_,_=>.nil
 |v::l,k,h=>by
  rw[length_cons,List.range_succ_eq_map,List.map_cons,List.map_map];let⟨t,e⟩:=h 0 v rfl;refine .cons ⟨t,by simpa using e⟩ ?_;have:=nh l (k+1) λi w q=>by
   let⟨t,e⟩:=h (i+1) w (by simpa using q);exact⟨t,by rw[e];congr 1;omega⟩
  have e2:((List.range l.length).map λ(i:Nat)=>V.int (k+1+(i:Int)))=(List.range l.length).map ((λ(i:Nat)=>V.int (k+(i:Int)))∘Nat.succ):=by
   apply List.map_congr_left;intro i _;show V.int _=V.int _;congr 1;simp;omega
  rw[<-e2];exact this
def  Th(ta:TA):TE:=λσ H Q=>ta σ H λvs H1=>∃j:Int,vs=[.int j]/\C7 j/\j<1000000/\∀q,H1 q=none->Q (.ref q) (upd H1 q (.lst ((List.range j.toNat).map λ(i:Nat)=>V.int (i:Int))))
def DL(hc:X.calm=true)(hg:Gl X "list")(hm:X.mg "list"=none)(U:Gl X "range")(J:X.mg "range"=none)(ha:PA X [a] ta)(hs:starEach [a] X.env=[(false,eval a X.env)]):
  PE X (.Call (.Name "list" p) [.Call (.Name "range" p2) [a] [] pos2] [] pos) (Th ta):=by
 intro pins s σ H Q I h
 refine wpAny_Call_Name_kw (db I hg hm FN (PyProof.Rows.callWith_type1 ?_ rfl rfl))
 show wpAny _ _ (spliced ((false,eval (.Call (.Name "range" p2) [a] [] pos2) X.env)::[])) _ _ s
 refine Calls.spliced_cons ?_
 refine wpAny_Call_Name_kw (db I U J boot_range (PyProof.Rows.callWith_type1 (bu (ha pos2 pins s σ H _ I h) λus l ⟨vs,H1,I1,r1,q1⟩=>?_) (by rw[hs];rfl) rfl))
 let⟨j,rfl,hj,hj2,q⟩:=q1
 let⟨u,rfl,ru⟩:=fY r1
 let⟨t,rfl⟩:=ru
 have r:=hj
 refine call_range_1 (Calls.spliced_nil ?_)
 have up:∀d o,l.heap.get? d=!o->(l.heap.push {cls:=.type "range",data:=.fields #[.int 0 l.toks,.int j t,.int 1 (l.toks+1)]}).get? d=!o:=λd o e=>Ue _ e
 have I2:Inv X pins σ H1 {l with heap:=l.heap.push {cls:=.type "range",data:=.fields #[.int 0 l.toks,.int j t,.int 1 _]},toks:=l.toks+1+1}:=I1.kept up
 have hn:Builtin.Range.rangeSize 0 j 1=(j.toNat:Nat):=by rw[rangeSize_one];split<;>omega
 refine call_list_range (I1.ok.hd hc) (IsRange.new ..) (small_one (!3) (!3) r.1 r.2) hn (!3) λg tk C c k T hi=>?_
 have fr:H1 (l.heap.push {cls:=.type "range",data:=.fields #[.int 0 l.toks,.int j t,.int 1 _]}).objs.size=none:=I2.hok.fresh (UB _)
 refine⟨.ref _,_,I2.laid (o:=.lst ((List.range j.toNat).map λ(i:Nat)=>V.int (i:Int))) k (UB _) ⟨?_,C.toList,c,?_,by simpa using T⟩,rfl,q _ fr⟩
 .rw[length_map,length_range,sizeLine_eq];omega
 .have:=nh C.toList 0 λi v e=>by
   let⟨t,z⟩:=hi.2 i v (by rw[<-Array.getElem?_toList];exact e);exact⟨t,by rw[z];congr 1;omega⟩
  rw[Array.length_toList,hi.1]at this;simpa using this
def  Ms:T9->TV:=rh λd=>(kS d).bind λj=>if C7 j/\j<1000000 then !(kR 0 j.toNat)else none
def DM(hc:X.calm=true)(U:Gl X "list")(T:X.mg "list"=none)(l:Gl X "range")(g:X.mg "range"=none)(ha:PX X [a] fa)(J:starEach [a] X.env=[(false,eval a X.env)]):
  PF X (.Call (.Name "list" p) [.Call (.Name "range" p2) [a] [] pos2] [] pos) (λY=>(fa Y).bind Ms):=λO Y=>(DL hc U T l g (ha O Y) J).imp λσ H Q ⟨E,ds,q,k⟩=>by
 let⟨as,e1,q⟩:=UD q
 refine⟨E,as,e1,λvs H1 o I=>?_⟩
 let⟨c,rfl,C⟩:=bx q
 let⟨j,t,r⟩:=UD C
 let⟨h1,h2⟩:=az r
 subst h2
 let⟨v,rfl,h⟩:=uk I
 cases intD_some t
 refine⟨j,by rw[show v=.int j from h],h1.1,h1.2,λb hb=>k b _ H1 o hb ?_⟩
 have e:kR 0 j.toNat=((List.range j.toNat).map λ(i:Nat)=>(i:Int)).map D.int:=by unfold kR;rw[List.map_map];apply List.map_congr_left;intro i _;simp
 have e2:((List.range j.toNat).map λ(i:Nat)=>V.int (i:Int))=((List.range j.toNat).map λ(i:Nat)=>(i:Int)).map V.int:=by rw[List.map_map];rfl
 rw[e,e2]
 exact kq _
end
section
variable{X:Cx}{e:Expr}
def pC:∀(bs:List Bool),((List.range bs.length).any λi=>bs.getD i false)=bs.any (λz=>z)
 |[]=>rfl
 |b::bs=>by
  rw[length_cons,List.range_succ_eq_map,List.any_cons,List.any_map,List.any_cons,<-pC bs];rfl
def call_any(hc:X.calm=true):dI X (.builtin "any") (λxs H Q=>∃(p:Addr)(bs:List Bool),xs=[.ref p]/\SqL X.K H p (bs.map V.bl)/\Q (.bl (bs.any (λz=>z))) H):=by
 intro pins s σ H xs us Q I r h;let⟨l,bs,rfl,hl,q⟩:=h;let⟨u,rfl,ru⟩:=fY r;cases ru;let⟨its,rv,pl,hz⟩:=I.list hl;have eb:=mZ rv;subst eb;have hL:=pl.isList;have hlt:l<s.heap.objs.size:=by let⟨_,e,_⟩:=hL;exact Uh e
 refine call_any_walk (wpAny_pyIter_list hL ?_);refine⟨s.heap.objs.size,[s.heap.objs.size,l],[s.heap.objs.size],_,_,_,λi=>bs.getD i false,rfl,Walks.list (A:=X.A.in1) (I.ok.hd hc) _ l (Us hlt) (bs.map Value.bool).toArray,
  ⟨⟨_,Ui _ rfl,rfl,rfl⟩,hL.push _⟩,λi v s' Q' E' hP hQ=>?_,λh' tk hk=>?_⟩
 .have hP':(bs.map Value.bool)[i]?=!v:=by simpa using hP
  rw[getElem?_map]at hP';cases e:bs[i]? with
  |none=>rw[e]at hP';cases hP'
  |some b=>
   rw[e]at hP';cases hP';have e':bs.getD i false=b:=by rw[List.getD_eq_getElem?_getD,e];rfl
   dsimp only at hQ;rw[e']at hQ;exact wpAny_truthy_bool hQ
 .have e:((List.range (bs.map Value.bool).toArray.size).any λi=>bs.getD i false)=bs.any (λz=>z):=by
   rw[size_toArray,length_map];exact pC bs
  rw[e];exact⟨.bl _,H,I.kept λb o ho=>hk b o (λhm=>by rw[mem_singleton.mp hm]at ho;exact Ux _ (Uh ho)) (Ue _ ho),rfl,q⟩
def  l8:T9->Ub:=rh λd=>(gS d).bind λds=>(ul ds).bind λbs=>!(.bl (bs.any (λz=>z)))
def rn_any:Cq X.K (λxs H Q=>∃(p:Addr)(bs:List Bool),xs=[.ref p]/\SqL X.K H p (bs.map V.bl)/\Q (.bl (bs.any (λz=>z))) H) l8:=λO H xs ds d Q hd l e k=>by
 let⟨c,rfl,e⟩:=bx e;let⟨es,e1,e2⟩:=UD e;let⟨bs,e3,e4⟩:=UD e2;cases e4;let⟨v,rfl,h⟩:=uk l;let⟨p,ys,rfl,q,l2⟩:=eB e1 h;rw[asBs_is e3 l2]at q;exact⟨p,bs,rfl,msk_le.seq q,k _ H (Same.refl _) rfl⟩
def  FQ:List V->Hp->VK->Prop:=λxs H Q=>∃b:Bool,xs=[.bl b]/\Q (.int (if b then 1 else 0)) H
def call_intB:dI X (.type "int") FQ:=by
 intro pins s σ H xs us Q I r h;let⟨b,rfl,q⟩:=h;let⟨u,rfl,ru⟩:=fY r;cases(ru);refine call_int_bool ?_;exact⟨.int _,H,I.kept λb o ho=>ho,⟨_,rfl⟩,q⟩
def  FR:T9->Ub:=rh λd=>d.asB.bind λb=>!(.int (if b then 1 else 0))
def rn_intB:Cq X.K FQ FR:=λO H xs ds d Q hd l e k=>by
 let⟨c,rfl,e⟩:=bx e;let⟨b,e1,e2⟩:=UD e;cases e2;cases asB_some e1;let⟨v,rfl,h⟩:=uk l;cases(h);exact⟨b,rfl,k _ H (Same.refl _) rfl⟩
end
noncomputable def  im(k:Nat){α:Type}(l:List α)(x:α):List α:=l.take k++x::l.drop k
def DeepL.appR{K}(h2:DeepL K M H es ys C):∀{ds:T9}{xs:List V}{A:List Addr},DeepL K M H ds xs A->DeepL K M H (ds++es) (xs++ys) (A++C)
 |[],xs,A,h=>by let⟨rfl,rfl⟩:=h;exact h2
 |d::ds,xs,A,⟨x,r,A1,A2,e1,e2,g1,g2⟩=>by
  subst e1 e2;exact⟨x,r++ys,A1,A2++C,rfl,List.append_assoc ..,g1,DeepL.appR h2 g2⟩
def DeepL.cutAt{K}:∀{ds:T9}{xs:List V}{A:List Addr}(k:Nat),DeepL K M H ds xs A->∃A1 A2,A=A1++A2/\DeepL K M H (ds.take k) (xs.take k) A1/\DeepL K M H (ds.drop k) (xs.drop k) A2
 |ds,xs,A,0,h=>⟨[],A,rfl,⟨rfl,rfl⟩,h⟩
 |[],xs,A,k+1,h=>by let⟨rfl,rfl⟩:=h;exact⟨[],[],rfl,⟨rfl,rfl⟩,⟨rfl,rfl⟩⟩
 |d::ds,xs,A,k+1,⟨x,r,A1,A2,e1,e2,g1,g2⟩=>by
  subst e1 e2;let⟨B1,B2,e,q1,q2⟩:=DeepL.cutAt k g2;subst e;exact⟨A1++B1,B2,(List.append_assoc ..).symm,⟨x,_,A1,B1,rfl,rfl,g1,q1⟩,q2⟩
def Mt(k:Nat):Om (im k):=λ{K M H ds xs A j d v} h q t=>by
 let⟨r,g,rfl,p,o⟩:=DeepL.cutAt k h;have l:DeepL K M H (d::ds.drop k) (v::xs.drop k) (j++g):=⟨v,_,j,g,rfl,rfl,q,o⟩;refine⟨r++(j++g),DeepL.appR l p,?_,λb C=>?_⟩;all_goals grind
def IsL.takeD{K}:∀{ds:T9}{xs:List V}(k:Nat),IsL K M ds xs->IsL K M (ds.take k) (xs.take k)/\IsL K M (ds.drop k) (xs.drop k)
 |ds,xs,0,h=>⟨rfl,h⟩
 |[],xs,k+1,h=>by cases(show xs=[]from h);exact⟨rfl,rfl⟩
 |d::ds,xs,k+1,⟨x,r,e,g1,g2⟩=>by
  subst e;let⟨q1,q2⟩:=IsL.takeD k g2;exact⟨⟨x,_,rfl,g1,q1⟩,q2⟩
def Mu(k:Nat):On (im k):=λh q=>(IsL.takeD k h).1.app ⟨_,_,rfl,q,(IsL.takeD k h).2⟩
def Vals.ins(k:Nat)(r:Vals xs g)(j:RelV y u):Vals (im k xs y) (im k g u):=(r.take k).append (.cons j (r.drop k))
def  DN:V->List V->Hp->VK->Prop:=λx vs H Q=>∃(l:Addr)(xs:List V)(i:Int)(k:Nat)(y:V),x=.ref l/\vs=[.int i,y]/\i=(k:Int)/\H l=!(.lst xs)/\k<=xs.length/\xs.length<sizeLine/\Q .non (upd H l (.lst (im k xs y)))
def DO(g:TY)(x:Int)(k:Nat)(u:Value)(j:x=(k:Int))(l:k<=g.length):(g.toArray.extract 0 (if x<0 then(x+((g.toArray.size:Nat):Int)).toNat else min x.toNat g.toArray.size)).push u++g.toArray.extract (if x<0 then(x+((g.toArray.size:Nat):Int)).toNat else min x.toNat g.toArray.size)=(im k g u).toArray:=by grind [im]
def xO:Hi X "list.insert" DN:=by
 intro pins s σ H x T v U Q I rx rv h;let⟨l,xs,i,k,y,rfl,rfl,hi,j,hk,hz,q⟩:=h;cases rx;cases rv with
 |cons C p=>
 let⟨u,rfl,o⟩:=(show Vals [y] _ from p).one;let⟨t,rfl⟩:=C;let⟨z,g,n,r,hl,e⟩:=I.lstM j;have J:Builtin.List.listFitsIndex i=true:=by
  have:sizeLine<2^63:=by decide
  unfold Builtin.List.listFitsIndex;simp only[and_eq_true,decide_eq_true_eq];omega
 refine call_meets F.slot_list_insert ⟨_,e,rfl⟩ F.entry_list_insert (F.args_list_insert_3 _ _ _) (AutoSeq1.list_insert_list_int_val_1 l g.toArray n i t u (by simp[J]) (by rw[size_toArray];omega)) ⟨e,?_⟩;refine⟨.non,_,I.lset j e ?_ (r.ins k o) ?_,rfl,q⟩
 .exact DO g i k u hi (!3)
 .unfold im;rw[length_append,length_cons,List.length_take,List.length_drop];omega
noncomputable def  DP(n:Nat)(d:D):Option Nat:=match d with
 |.int i=>if 0<=i/\i<=(n:Int)then !i.toNat else none
 |_=>none
def xP(h:DP n d=!k):d=.int (k:Int)/\k<=n:=by
 unfold DP at h;grind
def  xQ(i:Nat)(fk R:TL):TM:=λY=>(jh Y i).bind λw=>(fk (eg Y)).bind λy=>(DP w.2.length y).bind λk=>(kj (R (eg Y))).bind λd=>
 if w.2.length+1<big then !(.nx (Y.set i (!(newCat w.1 (.deep,d),.lst (im k w.2 d)))))else none
def xR{X:Cx}{e:Expr}{pos:Pos}(i:Nat)(hk:PP X C fk)(h:PP X e R)(hN:X.N[i]?=!x)(hv:tO X.env.scope x)(hd:(!8)=false)(t:(x==("__classdict__":Str))=false)(l:starEach [C,e] X.env=(false,eval C X.env)::starEach [e] X.env)(g:starEach [e] X.env=(false,eval e X.env)::starEach [] X.env)(p:(apos.endLine==cpos.line)=true):
  PR X (.Expr (.Call (.Attribute (.Name x px) "insert" apos) [C,e] [] cpos) pos) (xQ i fk R):=λB O Y=>
 (gu (mQ PySem.F.plainAttrs_list PySem.F.slot_list_insert PySem.F.type_list_insert xO (da hN hv hd t) (bv (hk O _) (bv (h O _) pa_nil g) l) rfl (by rw[l,g];rfl) p l (by rw[g];rfl))).imp λEn σ H ⟨E,o,q,k⟩=>by
 let⟨⟨c,ds⟩,q1,q⟩:=UD q
 let⟨y,q2,q⟩:=UD q
 let⟨j,q3,q⟩:=UD q
 let⟨d,q4,q⟩:=UD q
 let⟨hz,q⟩:=az q
 subst q
 let⟨h0,r⟩:=eG q1
 let⟨I,p5,p6⟩:=UD q4
 let⟨lf,p7⟩:=az p6
 subst p7
 let⟨ey,hj⟩:=xP q3
 subst ey
 let⟨a,xs0,e1,r3,_⟩:=E.ownAt h0 r
 refine⟨.ref a,e1,.inl ⟨rfl,_,SqL.of r3⟩,E.viewS,_,q2,λyv H1 T iy=>?_⟩
 cases(iy)
 have E1:=E.grow T
 refine⟨E1.viewS,I,p5,λv H2 J iv=>?_⟩
 have E2:=E1.grow J
 have E3:=E2.moreS iv
 have ex:extS I=(.deep,I):=by unfold extS;rw[if_pos lf]
 rw[ex]at E3
 let⟨a',xs,e2,r4,U,O2,E4,s4⟩:=E3.change (im j) (Mt j) (Mu j) h0 r
 rw[e1]at e2
 cases e2
 exact⟨a,xs,_,j,v,rfl,rfl,rfl,r4,by rw[<-U];exact hj,by rw[jN,<-U];exact Nat.lt_of_succ_lt hz,k σ _ O2 (T.msk.trans (J.msk.trans s4)) E4⟩
section
variable{X:Cx}{e:Expr}{pos:Pos}
def DeepL.get{K:Frag}{M H:Hp}{d:D}:∀{ds:T9}{xs:List V}{A:List Addr}{j:Nat},DeepL K M H ds xs A->ds[j]?=!d->∃v A',xs[j]?=!v/\Deep K M H d v A'/\(∀a∈A',a∈A)/\(A.Nodup->A'.Nodup)
 |[],xs,A,j,h,e=>by simp at e
 |d0::ds,xs,A,0,⟨x,r,A1,A2,e1,e2,h1,h2⟩,e=>by
  simp at e;subst e e1 e2;exact⟨x,A1,rfl,h1,λa ha=>Uv _ ha,λn=>(List.nodup_append.mp n).1⟩
 |d0::ds,xs,A,j+1,⟨x,r,A1,A2,e1,e2,h1,h2⟩,e=>by
  subst e1 e2;let⟨v,A',f1,f2,f3,f4⟩:=DeepL.get h2 (show ds[j]?=some d by simpa using e);exact⟨v,A',by simpa using f1,f2,λa ha=>Uw _ (f3 a ha),λn=>f4 (List.nodup_append.mp n).2.1⟩
def  KY(f:TL)(fk:TL):TL:=λY=>(f Y).bind λl=>(gS l).bind λds=>(fk Y).bind λy=>(kS y).bind λn=>(re ds.length n).bind λj=>ds[j]?
def Mv{b:Expr}{f fk}(h:oC X e f)(hk:PP X b fk)(hix:j7 b):oC X (.Subscript e b pos) (KY f fk):=λY=>PE.pu ((yW ix_list (h Y).1 (hk j3 Y) hix).imp λσ H Q ⟨E,d,q,k⟩=>by
 let⟨l,q1,qa⟩:=UD q;let⟨ds,q2,qb⟩:=UD qa;let⟨y,q3,qc⟩:=UD qb;let⟨n,q4,qd⟩:=UD qc;let⟨j,q5,qe⟩:=UD qd;cases lstD_some q2;cases intD_some q4;refine⟨E,_,q1,λv H1 A s1 i1 n1 f1=>⟨E.grow s1,_,q3,λyv H2 s2 iy=>?_⟩⟩;cases(show yv=.int n from iy);have i2:=Deep.frame (NL.of s2) _ v A (λa _ o h=>s2 _ _ h) i1;let⟨p,xs,A',z1,z2,z3,l⟩:=i2;subst z1 z3;let⟨w,A2,g1,g2,g3,g4⟩:=DeepL.get l qe;refine⟨p,xs,n,w,rfl,rfl,SqL.of z2,?_,k w H2 A2 (s1.trans s2) g2 (g4 (List.nodup_cons.mp n1).2) λa ha=>f1 a (Um _ (g3 a ha))⟩;unfold mP;rw[<-l.len,q5];exact g1) rfl
end
def IsL.rep{K:Frag}{M:Hp}{ds:T9}{xs:List V}(h:IsL K M ds xs):∀n:Nat,IsL K M (List.replicate n ds).flatten (List.replicate n xs).flatten
 |0=>rfl
 |n+1=>by
  rw[List.replicate_succ,List.replicate_succ,List.flatten_cons,List.flatten_cons];exact h.app (IsL.rep h n)
def  cA(fa:TK)(fb:TL):TK:=λY=>(fa Y).bind λxs=>(fb Y).bind λy=>(kS y).bind λn=>if 0<=n/\n<256/\xs.length*n.toNat<=256 then some (List.replicate n.toNat xs).flatten else none
def ID{X:Cx}{a:Expr}{b:Expr}{pos:Pos}{fa fb}(ha:PF X a fa)(hb:PP X b fb):PF X (.BinOp a .Mult b pos) (cA fa fb):=λO Y=>(yK Hj (ha O Y) (hb O Y)).imp λσ H Q ⟨E,ds,q,k⟩=>by
 let⟨xs,e1,q⟩:=UD q;let⟨dy,e2,q⟩:=UD q;let⟨n,f2,q⟩:=UD q;let⟨g1,g2⟩:=az q;subst g2;cases intD_some f2;refine⟨E,xs,e1,λp us H1 s1 hp l=>?_⟩;have s2:=s1.trans (Same.new (o:=.lst us) hp);refine⟨E.grow s2,_,e2,λy H2 s3 i2=>?_⟩;have hz:us.length*n.toNat<=sizeLine:=by
  rw[<-l.len];exact Ur g1.2.2 (!4)
 exact⟨p,n,us,rfl,i2,s3 _ _ (ak ..),by omega,by omega,hz,λp' hp'=>k p' _ H2 (s2.trans s3) hp' ((IsL.mono (((Same.new hp).trans s3).msk) _ _ l).rep _)⟩
section
variable{X:Cx}{a b:Expr}{pos:Pos}
def  Ac(K:Frag):R2:=λx y H Q=>∃a b ys,x=.ref a/\y=.ref b/\SqT K H a []/\SqT K H b ys/\Q (.ref b) H
def Ad:OpR X (binaryOp .Add) (Ac X.K):=by
 intro pins s σ H x y v u Q I rx T h;let⟨a,b,ys,rfl,rfl,ha,hb,q⟩:=h;cases rx;cases T;let⟨its,U,p1,_⟩:=I.tuple ha;let⟨r,r2,p2,_⟩:=I.tuple hb;have hn:=U.nil_iff.mpr rfl;subst hn;let⟨⟨cls,dd,data,J⟩,t,hc,n,hd⟩:=id p1;let⟨⟨C,p,data2,j⟩,g,o,n2,l⟩:=id p2;subst hc hd o l;exact concat_meets ⟨_,t,rfl⟩ ⟨_,g,rfl⟩ noFill_tuple_add seq_tuple_add PySem.F.slot_tuple_add PySem.F.entry_tuple_add (PySem.F.args_tuple_add_2 _ _) (tuple_addW0 a b _ _ n n2 dd p J j rfl) ⟨t,g,.ref b,H,I,rfl,q⟩
def  RM(K:Frag):R2:=λx y H Q=>FB K x y H Q\/Ac K x y H Q
def Mw:OpR X (binaryOp .Add) (RM X.K):=λpins s σ H x y v u Q I rx g h=>h.elim (CL pins s σ H x y v u Q I rx g) (Ad pins s σ H x y v u Q I rx g)
def  Qb:D->D->Ub
 |.tup a,.tup b=>if a.length+b.length<big then !(.tup (a++b))else none
 |_,_=>none
def Qc{K}:ju K (RM K) Qb:=λO H x y dx dy d Q hd ix iy e k=>by
 cases dx with
 |tup as=>
  cases dy with
  |tup bs=>
   let⟨hz,e⟩:=az (e);subst e;let⟨p,l,rfl,t,I⟩:=ix;let⟨q,j,rfl,r,C⟩:=iy;have g:=I.len;have o:=C.len;cases as with
   |nil=>
    have J:=List.length_eq_zero_iff.mp (by rw[<-g];rfl);subst J;exact .inr ⟨p,q,j,rfl,rfl,msk_le.seqT t,msk_le.seqT r,k _ H (Same.refl _) ⟨q,j,rfl,r,C⟩⟩
   |cons a as=>
    have J:l≠[]:=λz=>by rw[z]at g;cases g
    refine .inl ⟨p,q,l,j,rfl,rfl,msk_le.seqT t,msk_le.seqT r,J,by rw[<-g,<-o];exact Uy hz,λz=>?_,λz c T=>?_⟩
    .subst z;have hb:=List.length_eq_zero_iff.mp (by rw[o];rfl);subst hb;rw[List.append_nil]at k;exact k _ H (Same.refl _) ⟨p,l,rfl,t,I⟩
    .have U:=fZ hd T;have le:Same (msk O H) (msk O (upd H c (.tup (l++j)))):=by rw[ke U];exact Same.new (by rw[aO U];exact T)
     exact k _ _ (Same.new T) ⟨c,l++j,rfl,.of (by rw[aO U,ak]),IsL.mono le _ _ (I.app C)⟩
  |_=>cases e
 |_=>cases e
def  ay:D->D->Ub
 |.int i,.int j=>!(.int (i+j))
 |.tup a,.tup b=>if a.length+b.length<big then !(.tup (a++b))else none
 |_,_=>none
def IE(p:PP X a fa)(o:PP X b j):PP X (.BinOp a .Add b pos) (bin2 ay fa j):=λO Y=>(C0 p o O Y).by2 (lN Mw Qc p o O Y) λσ H Q ⟨E,d,q,k⟩=>by
 let⟨x,r,q⟩:=UD q;let⟨y,e2,q⟩:=UD q;have l:∀g:D->D->Ub,bin2 g fa j Y=g x y:=λg=>by show(fa Y).bind _=_;rw[r];show(j Y).bind _=_;rw[e2];rfl
 cases x<;>cases y<;>first
  |exact .inl ⟨E,d,by rw[l];exact q,k⟩
  |exact .inr ⟨E,d,by rw[l];exact q,k⟩
end
noncomputable def  bE:Value->Bool
 |.bool b=>b
 |_=>false
def bl_vals:∀{bs:List Bool}{us:TY},Vals (bs.map V.bl) us->us=bs.map Value.bool
 |[],_,r=>by cases r;rfl
 |b::bs,_,r=>by
  cases r with
  |cons h r=>rw[show _=_ from h,bl_vals r];rfl
def FS{A:Around}{s:Shared}{bs:List Bool}(z:Value)(h:z∈bs.map Value.bool):SeqAt.EqAt A s z (.bool true) (bE z):=by
 let⟨b,_,rfl⟩:=Ut.mp h;have q:=uf (A:=A) (s:=s) (y:=.bl b) (x:=.bl true) (u:=.bool b) (v:=.bool true) rfl rfl rfl rfl;cases b<;>exact q
section
variable{X:Cx}
def  Qd(K:Frag)(f:List Bool->Option Nat):V->List V->Hp->VK->Prop:=λx vs H Q=>∃l bs j,x=.ref l/\vs=[.bl true]/\SqL K H l (bs.map V.bl)/\f bs=!j/\Q (.int (j:Int)) H
def  Ae(bs:List Bool):Option Nat:=!(bs.countP id)
def  Af(bs:List Bool):Option Nat:=bs.findIdx? id
def IF:Hi X "list.count" (Qd X.K Ae):=by
 intro pins s σ H x vs v us Q I rx rv h;let⟨l,bs,j,rfl,rfl,hx,hj,q⟩:=h;cases hj;cases rx;let⟨u,rfl,ru⟩:=rv.one;cases ru;let⟨its,r,⟨⟨c1,d1,t1,s1⟩,n1,eo,k1,_,w1⟩,_⟩:=I.list hx;simp only at k1 w1;subst k1 w1;cases bl_vals r;refine call_meets F.slot_list_count ⟨_,eo,rfl⟩ F.entry_list_count (F.args_list_count_2 _ _) (PySem.SeqAt.list_countAt l _ n1 d1 s1 (.bool true) bE) ⟨eo,λz h=>FS z (by simpa using h),?_⟩;rw[List.countP_map];exact⟨.int (bs.countP id:Nat),H,I.kept (t':=s.toks+1) λb o ho=>ho,⟨_,rfl⟩,q⟩
def IG:Hi X "list.index" (Qd X.K Af):=by
 intro pins s σ H x vs v us Q I rx rv h;let⟨l,bs,j,rfl,rfl,hx,hj,q⟩:=h;cases rx;let⟨u,rfl,ru⟩:=rv.one;cases ru;let⟨its,r,⟨⟨c1,d1,t1,s1⟩,n1,eo,k1,_,w1⟩,hz⟩:=I.list hx;simp only at k1 w1;subst k1 w1;cases bl_vals r;let⟨hl,h1,h2⟩:=List.findIdx?_eq_some_iff_getElem.mp hj;have hs:(j:Int)<2^63-1:=by
  have:sizeLine<2^62:=by decide
  simp only[length_map]at hz;omega
 refine call_meets F.slot_list_index ⟨_,eo,rfl⟩ F.entry_list_index (F.args_list_index_2 _ _) (PySem.SeqAt.list_indexAt l _ n1 d1 s1 (.bool true) bE j (by simpa using hl) hs (by simpa [bE] using h1) λm hm hlt=>by simpa [bE] using h2 m hlt) ⟨eo,λz h=>FS z (by simpa using h),?_⟩;exact⟨.int (j:Int),H,I.kept (t':=s.toks+1) λb o ho=>ho,⟨_,rfl⟩,q⟩
def  qr(f:List Bool->Option Nat)(fo fk:TL):TL:=λY=>(fo Y).bind λl=>(gS l).bind λds=>(ul ds).bind λbs=>(fk Y).bind λy=>y.asB.bind λc=>if c=true then(f bs).bind λj=>!(.int (j:Int))else none
def Ag{f:List Bool->Option Nat}{m id:String}(slot:Slot "list" m id)(hty:typeOf (.builtin id)=pure (.type "method_descriptor"))(hm:Hi X id (Qd X.K f)){x:Str}{px ap cp:Pos}{e:Expr}{fo fk}(ho:PP X (.Name x px) fo)(hk:PP X e fk)(hst:starEach [e] X.env=(false,eval e X.env)::starEach [] X.env)(hl:(ap.endLine==cp.line)=true):
  PP X (.Call (.Attribute (.Name x px) m ap) [e] [] cp) (qr f fo fk):=λO Y=>
 (mQ PySem.F.plainAttrs_list slot hty hm (ho O Y) (bv (hk O Y) pa_nil hst) rfl (by rw[hst];rfl) hl hst rfl).imp λσ H Q ⟨E,d,q,k⟩=>by
 let⟨l,q1,q⟩:=UD q
 let⟨ds,q2,q⟩:=UD q
 let⟨bs,q3,q⟩:=UD q
 let⟨y,q4,q⟩:=UD q
 let⟨c,q5,q⟩:=UD q
 have hc:c=true:=by
  cases c
  .simp at q
  .rfl
 subst hc
 rw[if_pos rfl]at q
 let⟨j,q6,q⟩:=UD q
 cases q
 refine⟨E,l,q1,λv H1 s1 i1=>?_⟩
 let⟨p,xs,rfl,t,il⟩:=eB q2 i1
 refine⟨.inl ⟨rfl,xs,msk_le.seq t⟩,E.grow s1,_,q4,λyv H2 s2 iy=>?_⟩
 cases asB_some q5
 cases(show yv=.bl true from iy)
 cases asBs_is q3 il
 exact⟨p,bs,j,rfl,rfl,s2.seq (msk_le.seq t),q6,k _ H2 (s1.trans s2) rfl⟩
end
end L2
namespace L2
open PySem PySem.Spec PyProof.Rows
section
variable{prog:Program}{w:World}{A:Around}{E:TX}{s:Shared}{T:String}{r d:Addr}{n:Nat}{P:Nat->Value->Prop}{OK:Heap->Prop}
def sr{Q:TY->Shared->Prop}(K:PySem.W.KdlSrc prog w T r d n P OK)(hh:A.handled=none)(hok:OK s.heap)(hn:n<=sizeLine)
  (hQ:∀h' tk acc',(∀b o,s.heap.get? b=!o->h'.get? b=!o)->s.heap.objs.size<h'.objs.size->ItemsOf P acc' n->Q acc'.toList {s with heap:=h',toks:=tk}):wpAny (!7) A (collect (.ref r)) Q E s:=by
 unfold collect
 refine Ud (wpAny_runValue (codeAny_builtin F.entry_proto_collect ?_))
 rw[Around.under_plainId F.plain_proto_collect _]
 show wpAny _ A.in1 (newList []>>=λl=>again (.builtin "list.__iadd__" ⟨[l,.ref r],[]⟩)) _ _ s
 refine Ud (wpAny_newObj_type ?_)
 refine Ug ⟨plainId_quiet F.plain_list_iadd _,codeAny_builtin F.entry_list_iadd ?_⟩
 rw[Around.under_plainId F.plain_list_iadd _]
 have hlt:=K.there _ hok
 have hS₁:(s.heap.push {cls:=.type "list",data:=.seq ([]:TY).toArray}).get? s.heap.objs.size=some {cls:=.type "list",data:=.seq ([]:TY).toArray}:=Ui _ rfl
 show wpAny _ A.in1 (Builtin.List.listExtendWith (.ref s.heap.objs.size) (.ref r) (.ref s.heap.objs.size)) _ _ _
 refine PySem.W.kdl_extend (R:=λr s'=>match r with
  |.ok (.ret v)=>wpAny (!7) A (match v with
   |.ref a=>do
    let o<-load a
    match o.data with
    |.seq xs _=>pure xs.toList
    |_=>unsupported "internal:collect"
   |_=>unsupported "internal:collect") Q E s'
  |.ok _=>False
  |.error e=>E e s') (A:=A) (s:={s with heap:=s.heap.push {cls:=.type "list",data:=.seq ([]:TY).toArray}}) K hh (K.keep _ _ hok λb _ o e=>Ue _ e) _ (Nat.ne_of_gt hlt.1) (Nat.ne_of_gt hlt.2) _ _ hS₁ (λh' tk acc' c' hk hS' hacc=>?_) hn
 show wpAny _ A (load s.heap.objs.size>>=_) _ _ _
 refine Ud (wpAny_load hS' ?_)
 exact Ug (hQ h' tk acc' (λb o e=>hk b o (Us (Uh e)) (Ue _ e)) (Uh hS') hacc)
def uF{ns:T5}{Q:TX}(K:PySem.W.KdlSrc prog w T r d n P OK)(hh:A.handled=none)(hok:OK s.heap)(hn:n<64)(hP:∀acc:T7,ItemsOf P acc n->IntsAre acc.toList ns)
  (h:∀h' tk (out:T7) ns' a e,(∀b o,s.heap.get? b=!o->h'.get? b=!o)->s.heap.objs.size<=a->h'.get? a=!(seqObj "list" out e)->IntsAre out.toList ns'->ns'.Perm ns->ns'.Pairwise (·<=·)->Q (.ref a) {s with heap:=h',toks:=tk}):
  wpAny (!7) A (call (.builtin "sorted") [.ref r]) Q E s:=by
 refine Calls.call_function_entry kind_sorted plain_sorted entry_sorted (args_sorted1 _) ?_
 unfold Builtin.«sorted»
 have z64:(64:Nat)<=sizeLine:=by decide
 refine Ud (m:=checkCount "sorted" 1 1 _) (Ug ?_)
 refine Ud (sr (A:=A.in1) K hh hok (!3) λh1 tk acc hk hlt1 hacc=>?_)
 have hI:=hP acc hacc
 have hsz:acc.size=n:=hacc.1
 refine Ud (wpAny_newList ?_ (by rw[Array.length_toList];omega))
 have hoL:(h1.push (seqObj "list" acc.toList.toArray 0)).get? h1.objs.size=!(seqObj "list" acc.toList.toArray 0):=Ui _ rfl
 show wpAny _ _ _ _ _ {s with heap:=h1.push (seqObj "list" acc.toList.toArray 0),toks:=tk}
 refine Ud (wpAny_holding (wpAny_call_entry slot_list_sort ⟨_,hoL,rfl⟩ entry_list_sort (list_sort_tree hoL hI (by rw[Array.length_toList];omega) λout ns' a1 a2 a3=>⟨_,rfl,?_⟩) (args_list_sort _)))
 let⟨e,he⟩:=sortedHeap_at (out:=out) hoL
 refine Ug ⟨_,rfl,h _ tk out ns' _ e (λb o hb=>?_) ?_ he a1 a2 a3⟩
 .have hlt:b<h1.objs.size:=Uh (hk b o hb);rw[sortedHeap_old (Nat.ne_of_lt hlt) (by rw[size_push'];exact Nat.lt_succ_of_lt hlt),Heap.get?_push_ne _ _ _ (Us hlt)];exact hk b o hb
 .exact Uy hlt1
end
def xS{vs:TY}:∀{ns:T5},vs.length=ns.length->(∀(j:Nat)(v:Value),vs[j]?=!v->∃n t,ns[j]?=!n/\v=Value.int n t)->IntsAre vs ns:=by
 induction vs with
 |nil=>
  intro ns hl _;cases ns with
  |nil=>exact .nil
  |cons _ _=>cases hl
 |cons v vs ih=>
  intro ns hl h;cases ns with
  |nil=>cases hl
  |cons n ns=>
   let⟨m,t,e1,e2⟩:=h 0 v List.getElem?_cons_zero;cases e1;subst e2;exact .cons n t (ih (by simpa using hl) λj v q=>h (j+1) v (by simpa using q))
section
variable{X:Cx}{a:Expr}{p pos:Pos}
def  IH:List V->Hp->VK->Prop:=λvs H Q=>∃l kvs ns,vs=[.ref l]/\Rd H l (.dK kvs)/\kvs.map (·.1)=ns.map Sum.inl/\ns.length<64/\∀q,H q=none->Q (.ref q) (upd H q (.lst ((fP ns).map V.int)))
def uG(hc:X.calm=true):dI X (.builtin "sorted") IH:=by
 intro pins s σ H xs us Q I r h;let⟨l,kvs,ns,rfl,hx,hk,h64,q⟩:=h;let⟨u,rfl,ru⟩:=fY r;cases ru;let⟨z,hd,vs,rel,dd⟩:=FE I.hok hx;let⟨o,es,ep,d1,d2,d3,d4,d5,d6⟩:=dd;have hl:kvs.length=ns.length:=by have:=congrArg List.length hk;rwa [length_map,length_map]at this
 have hlv:vs.length=ns.length:=by rw[<-rel.length];exact hl
 have keys:vs.map (·.1)=ns.map Sum.inl:=by
  rw[<-hk];clear hk hl hlv d5 d6 hx z;induction rel with
  |nil=>rfl
  |cons h _ ih=>rw[List.map_cons,List.map_cons,ih];congr 1;exact h.1.symm
 refine uF (ns:=ns) (PySem.W.kdl_dict (knd:=c9 X.prog X.w) (kvs:=vs) (ep:=ep) hd) (I.ok.hd hc) ⟨o,es,d1,d2,d3,d4,d5,d6⟩ (!3) (λacc hacc=>?_) λh' tk out ms b e hold hb he h1 h2 h3=>?_
 .refine xS (by rw[Array.length_toList,hacc.1];exact hlv) λj v hv=>?_;let⟨k,x,e1,e2⟩:=hacc.2 j v (by rw[<-Array.getElem?_toList];exact hv);have e3:(vs.map (·.1))[j]?=!k:=by rw[getElem?_map,e1];rfl
  rw[keys,getElem?_map]at e3;cases hn:ns[j]? with
  |none=>rw[hn]at e3;cases e3
  |some m=>
   rw[hn]at e3;cases e3;rcases keyIs_shape (show keyIs (Sum.inl m) v=true from e2)with⟨i,t,z1,z2⟩|⟨i,t,z1,z2⟩
   .cases z1;exact⟨m,t,rfl,z2⟩
   .cases z1
 .have z:=uE h2 h3;subst z;refine⟨.ref _,_,I.laid (t':=tk) hold hb (o:=.lst ((fP ns).map V.int)) ⟨?_,out.toList,e,kZ h1,by simpa using he⟩,rfl,q _ (I.hok.fresh hb)⟩;rw[length_map,h2.length_eq];have:(64:Nat)<=sizeLine:=by decide
  omega
noncomputable def  uH:List gO->Option (T5)
 |[]=>![]
 |.inl n::ks=>(uH ks).bind λns=>!(n::ns)
 |.inr _::_=>none
def pD:∀{ks:List gO}{ns:T5},uH ks=!ns->ks=ns.map Sum.inl
 |[],ns,h=>by cases h;rfl
 |.inl n::ks,ns,h=>by
  let⟨ms,h1,h2⟩:=UD (show(uH ks).bind _=some ns from h);cases h2;rw[pD h1];rfl
 |.inr _::_,ns,h=>by cases h
def  vU:T9->TV:=rh λd=>match d with
 |.dct ks _=>(uH ks).bind λns=>if ns.length<64 then !((fP ns).map D.int)else none
 |_=>none
def Ah{fa}(hc:X.calm=true)(hg:Gl X "sorted")(hm:X.mg "sorted"=none)(ha:PX X [a] fa)(hs:starEach [a] X.env=[(false,eval a X.env)]):
  PF X (.Call (.Name "sorted" p) [a] [] pos) (λY=>(fa Y).bind vU):=λO Y=>(g9 (uG hc) hg hm Ab (ha O Y) (!4) (!4) (by rw[hs];rfl) rfl).imp λσ H Q ⟨E,ds,q,k⟩=>by
 let⟨as,e1,q⟩:=UD q
 refine⟨E,as,e1,λvs H1 s1 il=>?_⟩
 let⟨c,rfl,q2⟩:=bx q
 let⟨v,rfl,h⟩:=uk il
 split at q2
 .let⟨ns,q5,q6⟩:=UD q2;let⟨h64,q7⟩:=az q6;subst q7;let⟨l,kvs,rfl,t,hk,_⟩:=h;exact⟨l,kvs,ns,rfl,Rd.of (msk_le _ _ t),by rw[hk];exact pD q5,h64,λb hb=>k b _ H1 s1 hb (kq _)⟩
 .cases q2
end
section
variable{K:Frag}{M H:Hp}
def DeepL.zoom{d:D}:∀{ds:T9}{xs:List V}{A:List Addr}{j:Nat},DeepL K M H ds xs A->A.Nodup->ds[j]?=!d->
  ∃v A1,xs[j]?=!v/\Deep K M H d v A1/\(∀c∈A1,c∈A)/\A1.Nodup/\∀(H':Hp) d' A1',(∀c∈A,c ∉ A1->H' c=H c)->A1'.Perm A1->Deep K M H' d' v A1'->∃A',A'.Perm A/\DeepL K M H' (ds.set j d') xs A'
 |[],xs,A,j,h,nd,e=>by simp at e
 |d0::ds,xs,A,0,⟨x,r,A1,A2,e1,e2,h1,h2⟩,nd,e=>by
  simp at e;subst e e1 e2;let⟨n1,n2,n3⟩:=List.nodup_append.mp nd;refine⟨x,A1,rfl,h1,λc h=>Uv _ h,n1,λH' d' A1' fr p q=>⟨A1'++A2,p.append_right _,x,r,A1',A2,rfl,rfl,q,DeepL.frame (NL.of (Same.refl _)) _ _ _ (λb hb o z=>?_) h2⟩⟩;rw[fr b (mem_append_right _ hb) (λz2=>n3 b z2 b hb rfl)];exact z
 |d0::ds,xs,A,j+1,⟨x,r,A1,A2,e1,e2,h1,h2⟩,nd,e=>by
  subst e1 e2;let⟨n1,n2,n3⟩:=List.nodup_append.mp nd;let⟨v,B1,f1,f2,f3,f4,f5⟩:=DeepL.zoom h2 n2 (show ds[j]?=some d by simpa using e);refine⟨v,B1,by simpa using f1,f2,λc h=>Uw _ (f3 c h),f4,λH' d' A1' fr p q=>?_⟩;let⟨A',p',q'⟩:=f5 H' d' A1' (λc hc=>fr c (Uw _ hc)) p q;refine⟨A1++A',p'.append_left _,x,r,A1,A',rfl,rfl,Deep.frame (NL.of (Same.refl _)) _ _ _ (λb hb o z=>?_) h1,q'⟩;rw[fr b (mem_append_left _ hb) (λz2=>n3 b hb b (f3 b z2) rfl)];exact z
def  Zm(K:Frag)(M H:Hp)(v:V)(A:List Addr)(d2:D)(v2:V)(A2:List Addr)(put:D->D):Prop:=
 Deep K M H d2 v2 A2/\(∀c∈A2,c∈A)/\A2.Nodup/\∀(H':Hp) d' A',(∀c∈A,c ∉ A2->H' c=H c)->A'.Perm A2->Deep K M H' d' v2 A'->∃A'',A''.Perm A/\Deep K M H' (put d') v A''
def Zm.lst{v v2:V}{A A2:List Addr}{ds2:T9}{put:D->D}(h:Zm K M H v A (.lst ds2) v2 A2 put):∃a2 ys,v2=.ref a2/\H a2=!(.lst ys)/\ds2.length=ys.length/\a2∈A/\∃A3,DeepL K M H ds2 ys A3/\
  ∀ds2' ys' A3',A3'.Perm A3->DeepL K M H ds2' ys' A3'->∃A'',A''.Perm A/\Deep K M (upd H a2 (.lst ys')) (put (.lst ds2')) v A'':=by
 let⟨⟨a2,ys,A3,e1,e2,e3,l⟩,sb,nd,k⟩:=h
 subst e1 e3
 let⟨n1,n2⟩:=List.nodup_cons.mp nd
 refine⟨a2,ys,rfl,e2,DeepL.len l,sb _ (Ul ..),A3,l,λds2' ys' A3' p q=>k _ _ (a2::A3') (λc _ hc=>al λz=>hc (z▸Ul ..)) (p.cons _) ⟨a2,ys',A3',rfl,ak,rfl,DeepL.frame (NL.of (Same.refl _)) _ _ _ (λb hb o z=>?_) q⟩⟩
 rw[al (show b≠a2 fromλz2=>n1 (p.mem_iff.mp (z2▸hb)))];exact z
end
section
variable{K:Frag}{B:Bs}{O:T6}{σ:St}{H:Hp}{Y:Ev}
def EnvOk.zoom(E:EnvOk K B O σ H Y){i:Nat}{d:D}(h:Y[i]?=!(!(.deep,d))):∃v A,σ[i]?=!(!v)/\Deep K (msk O H) H d v A/\A.Nodup/\
  ∀a2 ys' d' A',a2∈A->A'.Perm A->Deep K (msk O H) (upd H a2 (.lst ys')) d' v A'->EnvOk K B O σ (upd H a2 (.lst ys')) (Y.set i (!(.deep,d')))/\Same (msk O H) (msk O (upd H a2 (.lst ys'))):=by
 let⟨F,h1,h2,h3,h4⟩:=E.fp
 let⟨v,e0,o0⟩:=h1 i _ h
 refine⟨v,F i,e0,o0,h2 i,λa2 ys' d' A' ha2 p q=>?_⟩
 let⟨o2,b2⟩:=h4 i a2 ha2
 have me:msk O (upd H a2 (.lst ys'))=msk O H:=iV o2
 have le:Same (msk O H) (msk O (upd H a2 (.lst ys'))):=by rw[me];exact Same.refl _
 have mem:∀k a,a∈(if k=i then A' else F k)->a∈F k:=λk a hk=>by
  by_cases e:k=i
  .rw[if_pos e]at hk;rw[e];exact p.mem_iff.mp hk
  .rw[if_neg e]at hk;exact hk
 refine⟨⟨λc o q=>?_,E.bdom,E.sub,λc hb=>?_,by rw[List.length_set];exact E.len,λk=>if k=i then A' else F k,λk s q'=>?_,λk=>?_,λj k a hj hk=>h3 j k a (mem j a hj) (mem k a hk),λk a hk=>h4 k a (mem k a hk)⟩,le⟩
 .rw[al (aG q b2)];exact E.same c o q
 .by_cases e:c=a2
  .subst e;exact .inl ⟨_,ak⟩
  .rw[al e];exact E.lis c hb
 .rcases get_set_some q' with⟨e,q2⟩|⟨e,q2⟩
  .cases q2;subst e;refine⟨v,e0,?_⟩;dsimp only;rw[if_pos rfl];show Deep K _ _ _ _ _;rw[me];exact q
  .let⟨w,e1,o1⟩:=h1 k s q2;refine⟨w,e1,?_⟩;dsimp only;rw[if_neg e];refine o1.frame le λc hb o z=>?_;have:c≠a2:=λz2=>e (h3 k i a2 (z2▸hb) ha2);rw[al this];exact z
 .dsimp only;split
  .exact p.nodup_iff.mpr (h2 i)
  .exact h2 k
def EnvOk.forget(E:EnvOk K B O σ H Y)(i:Nat):EnvOk K B O σ H (Y.set i none) where
 same:=E.same
 bdom:=E.bdom
 sub:=E.sub
 lis:=E.lis
 len:=by rw[List.length_set];exact E.len
 fp:=by
  let⟨F,h1,h2,h3,h4⟩:=E.fp;refine⟨F,λj s q=>?_,h2,h3,h4⟩;rcases get_set_some q with⟨e,q'⟩|⟨e,q'⟩
  .cases q'
  .exact h1 j s q'
def EnvOk.inD(E:EnvOk K B O σ H Y){i j:Nat}{ks:List gO}{ds l:T9}(h:Y[i]?=!(!(.deep,.dct ks ds)))(hj:ds[j]?=!(.lst l)):
  ∃a kvs a2 ys,σ[i]?=!(!(.ref a))/\H a=!(.dK kvs)/\kvs.map (·.1)=ks/\(kvs.map (·.2))[j]?=!(.ref a2)/\H a2=!(.lst ys)/\l.length=ys.length/\∃A3,DeepL K (msk O H) H l ys A3/\
   ∀l' ys' A3',A3'.Perm A3->DeepL K (msk O H) H l' ys' A3'->EnvOk K B O σ (upd H a2 (.lst ys')) (Y.set i (!(.deep,.dct ks (ds.set j (.lst l')))))/\Same (msk O H) (msk O (upd H a2 (.lst ys'))):=by
 let⟨v,A,e0,dp,nd,k⟩:=E.zoom h
 let⟨a,kvs,A',e1,e2,e3,e4,dl⟩:=dp
 subst e1 e4
 let⟨n1,n2⟩:=List.nodup_cons.mp nd
 let⟨v2,A2,f1,f2,f3,f4,f5⟩:=DeepL.zoom dl n2 hj
 have z:Zm K (msk O H) H (.ref a) (a::A') (.lst l) v2 A2 (λy=>.dct ks (ds.set j y)):=⟨f2,λc h=>Um _ (f3 c h),f4,λH' d' A1 fr p q=>by
  let⟨A'',p',q'⟩:=f5 H' d' A1 (λc hc=>fr c (Um _ hc)) p q;exact⟨a::A'',p'.cons _,a,kvs,A'',rfl,(fr a (Ul ..) (λz=>n1 (f3 a z))).trans e2,e3,rfl,q'⟩⟩
 let⟨a2,ys,g1,g2,g3,g4,A3,g5,g6⟩:=z.lst
 subst g1
 refine⟨a,kvs,a2,ys,e0,e2,e3,f1,g2,g3,A3,g5,λl' ys' A3' p q=>?_⟩
 let⟨A'',p'',q''⟩:=g6 l' ys' A3' p q
 exact k a2 ys' _ A'' g4 p'' q''
def EnvOk.dpush{v:V}{i:Nat}{ks:List gO}{ds:T9}{d:D}(E:EnvOk K B O (σ++[!v]) H (Y++[!(.deep,d)]))(h:Y[i]?=!(!(.deep,.dct ks ds)))(k:gO):
  ∃a kvs,σ[i]?=!(!(.ref a))/\H a=!(.dK kvs)/\kvs.map (·.1)=ks/\EnvOk K B O σ (upd H a (.dK (kvs++[(k,v)]))) (Y.set i (!(.deep,.dct (ks++[k]) (ds++[d]))))/\Same (msk O H) (msk O (upd H a (.dK (kvs++[(k,v)])))):=by
 let⟨F,h1,h2,h3,h4⟩:=E.fp
 have len:σ.length=Y.length:=by have:=E.len;simp at this;exact this
 have hi:=(Uk.mp h).1
 let⟨v',e1,o1⟩:=h1 Y.length (.deep,d) (getElem?_last _ _)
 rw[<-len,getElem?_last]at e1
 cases e1
 have o1:Deep K (msk O H) H d v (F Y.length):=o1
 let⟨v0,e0,o0⟩:=h1 i (.deep,.dct ks ds) (by rw[getElem?_append_left hi];exact h)
 let⟨a,kvs,A0,g1,g2,g3,g4,l0⟩:=o0
 subst g1 g3
 have ni:i≠Y.length:=by omega
 have ha:a∈F i:=by rw[g4];exact Ul ..
 have hA0:∀c∈A0,c∈F i:=λc hc=>by rw[g4];exact Um _ hc
 have ndi:=h2 i
 rw[g4]at ndi
 have na0:a ∉ A0:=(List.nodup_cons.mp ndi).1
 have na1:a ∉ F Y.length:=λz=>ni (h3 i Y.length a ha z)
 let⟨oa,ba⟩:=h4 i a ha
 have me:msk O (upd H a (.dK (kvs++[(k,v)])))=msk O H:=iV oa
 have le:Same (msk O H) (msk O (upd H a (.dK (kvs++[(k,v)])))):=by rw[me];exact Same.refl _
 have dl:DeepL K (msk O H) (upd H a (.dK (kvs++[(k,v)]))) (ds++[d]) ((kvs++[(k,v)]).map (·.2)) (A0++F Y.length):=by
  rw[List.map_append];refine DeepL.frame (NL.of (Same.refl _)) _ _ _ (λb hb o z=>?_) (DeepL.snoc o1 l0);rw[al (show b≠a fromλz2=>?_)]
  .exact z
  .rw[z2]at hb;rcases mem_append.mp hb with hb|hb
   .exact na0 hb
   .exact na1 hb
 let F':Nat->List Addr:=λk=>if k=i then a::(A0++F Y.length)else if k=Y.length then[]else F k
 have mem:∀k c,c∈F' k->(c∈F k/\k≠Y.length)\/(k=i/\c∈F Y.length):=λk c hc=>by
  by_cases e:k=i
  .have hc':c∈a::(A0++F Y.length):=by simpa [F',e] using hc
   rcases mem_cons.mp hc' with rfl|hc'
   .exact .inl ⟨by rw[e];exact ha,by rw[e];exact ni⟩
   .rcases mem_append.mp hc' with hc'|hc'
    .exact .inl ⟨by rw[e];exact hA0 c hc',by rw[e];exact ni⟩
    .exact .inr ⟨e,hc'⟩
  .by_cases e2:k=Y.length
   .rw[e2]at hc;simp[F',ni.symm]at hc
   .exact .inl ⟨by simpa [F',e,e2] using hc,e2⟩
 refine⟨a,kvs,cc (!3) e0,g2,rfl,⟨λc o q=>?_,E.bdom,E.sub,λc hb=>?_,by rw[List.length_set];exact len,F',λj s q=>?_,λj=>?_,λj m c hj hm=>?_,λj c hj=>?_⟩,le⟩
 .rw[al (aG q ba)];exact E.same c o q
 .by_cases e:c=a
  .subst e;exact .inr (.inr ⟨_,ak⟩)
  .rw[al e];exact E.lis c hb
 .rcases get_set_some q with⟨e,q2⟩|⟨e,q2⟩
  .cases q2;subst e;refine⟨.ref a,cc (!3) e0,?_⟩;rw[show F' j=a::(A0++F Y.length)from if_pos rfl];show Deep K _ _ _ _ _;rw[me];exact⟨a,kvs++[(k,v)],A0++F Y.length,rfl,ak,by rw[List.map_append];rfl,rfl,dl⟩
  .have hj:=(Uk.mp q2).1;let⟨w,e1,o1⟩:=h1 j s (by rw[getElem?_append_left hj];exact q2);refine⟨w,cc (!3) e1,?_⟩;rw[show F' j=F j from(if_neg e).trans (if_neg (!3))];refine o1.frame le λc hb o z=>?_;have:c≠a:=λz2=>e (h3 j i a (z2▸hb) ha);rw[al this];exact z
 .by_cases e:j=i
  .rw[show F' j=a::(A0++F Y.length)from if_pos e];refine List.nodup_cons.mpr ⟨λz=>?_,List.nodup_append.mpr ⟨(List.nodup_cons.mp ndi).2,h2 _,λx hx y hy z=>ni (h3 i Y.length x (hA0 x hx) (z▸hy))⟩⟩;rcases mem_append.mp z with z|z
   .exact na0 z
   .exact na1 z
  .rw[show F' j=if j=Y.length then[]else F j from if_neg e];split
   .exact List.nodup_nil
   .exact h2 j
 .rcases mem j c hj with⟨hj,nj⟩|⟨ej,hj⟩<;>rcases mem m c hm with⟨hm,nm⟩|⟨em,hm⟩
  .exact h3 j m c hj hm
  .exact absurd (h3 j _ c hj hm) nj
  .exact absurd (h3 m _ c hm hj) nm
  .rw[ej,em]
 .rcases mem j c hj with⟨hj,_⟩|⟨_,hj⟩
  .exact h4 _ c hj
  .exact h4 _ c hj
end
noncomputable def  idxK:List gO->gO->Option Nat
 |[],_=>none
 |j::ks,k=>if j=k then some 0 else(idxK ks k).map (·+1)
def nn(k:gO):∀kvs:List (gO×V),jf kvs k=(idxK (kvs.map (·.1)) k).bind λj=>(kvs.map (·.2))[j]?
 |[]=>rfl
 |p::r=>by
  show _=(if p.1=k then some 0 else(idxK (r.map (·.1)) k).map (·+1)).bind _;by_cases e:p.1=k
  .rw[ka e,if_pos e];rfl
  .rw[kc e,if_neg e,nn k r];cases idxK (r.map (·.1)) k<;>rfl
def vV{k:gO}:∀{ks:List gO}{j:Nat},idxK ks k=!j->j<ks.length
 |[],j,h=>by cases h
 |x::ks,j,h=>by
  have h':(if x=k then some 0 else(idxK ks k).map (·+1))=!j:=h;by_cases e:x=k
  .rw[if_pos e]at h';cases h';simp
  .rw[if_neg e]at h';let⟨m,h1,h2⟩:=Option.map_eq_some_iff.mp h';have:=vV h1;rw[length_cons];omega
def  Qe:V->List V->Hp->VK->Prop:=λx vs H Q=>∃p kvs k m,x=.ref p/\vs=[kV k,m]/\H p=!(.dK kvs)/\kvs.length<sizeLine/\(∀w,jf kvs k=!w->Q w H)/\(jf kvs k=none->Q m (upd H p (.dK (kvs++[(k,m)]))))
def II{X:Cx}:Hi X "dict.setdefault" Qe:=by
 intro pins s σ H x vs v us Q I rx rv h;let⟨p,kvs,k,m,rfl,rfl,hH,hl,q1,q2⟩:=h;cases rx;let⟨u1,u2,rfl,ru,rm⟩:=mJ rv;let⟨z,hd,vs,rel,dd⟩:=FG I.hok hH;have hz:vs.length<=sizeLine:=by rw[<-rel.length];exact z
 refine call_meetsIn PySem.F.slot_dict_setdefault dd.typeIs PySem.F.entry_dict_setdefault (PySem.F.args_dict_setdefault_3 _ _ _) (kt_meets_setdefault (c9 X.prog X.w) p (FD ru) hd u2) ⟨vs,dd,hz,λw' hw=>?_,λhn h' dd' hs=>?_⟩
 .have rl:=rel.val k;rw[hw]at rl;cases hy:jf kvs k with
  |none=>rw[hy]at rl;exact False.elim rl
  |some y=>rw[hy]at rl;exact⟨y,H,I.tok _,rl,q1 y hy⟩
 .have hn':jf kvs k=none:=by
   have rl:=rel.val k;rw[hn]at rl;cases hy:jf kvs k with
   |none=>rfl
   |some y=>rw[hy]at rl;exact False.elim rl
  have ep:xn kvs k m=kvs++[(k,m)]:=by unfold xn;rw[rP,hn'];rfl
  refine⟨m,_,?_,rm,q2 hn'⟩;have he:∃q,h'.get? p=!q:=let⟨q,_,_,hq,_⟩:=dd';⟨q,hq⟩;rw[<-ep];exact CW I (by rw[hH];exact True.intro) hs he (Hl (by have:=rQ kvs k m;omega) hd (rel.put k rm) dd')
def IJ{Y:Ev}{i:Nat}{x:Option Sl}(h:Y[i]?=!x):Y.set i x=Y:=by
 apply List.ext_getElem?;intro j;by_cases hj:j=i
 .rw[hj,List.getElem?_set_self (List.getElem?_eq_some_iff.mp h).1,h]
 .rw[List.getElem?_set_ne (Ne.symm hj)]
def  uI(ks:List gO)(ds:T9)(k:gO)(d:D):Option (List gO×List D):=match idxK ks k with
 |some j=>(ds[j]?).bind λz=>(gS z).bind λl=>if l.length+1<big then !(ks,ds.set j (.lst (l++[d])))else none
 |none=>if ks.length=ds.length then !(ks++[k],ds++[.lst [d]])else none
def  Ai(i:Nat)(fk R:TL):TM:=λY=>(Mq Y i).bind λw=>(fk (vw Y)).bind λy=>(HF y).bind λk=>(kj (R (vw (Y.set i none)))).bind λd=>(uI w.1 w.2 k d).bind λz=>if w.1.length+1<big then !(.nx (Y.set i (!(.deep,.dct z.1 z.2))))else none
def DQ{K:Frag}{M H:Hp}{r:T9}{xs:List V}{A:List Addr}{d:D}{v:V}(h:DeepL K M H r xs A)(q:Deep K M H d v []):DeepL K M H (r++[d]) (xs++[v]) A:=by
 have:=DeepL.snoc q h;rw[List.append_nil]at this;exact this
def IK{X:Cx}{e:Expr}{pos:Pos}(i:Nat){x:Str}{px lp ap1 cp1 ap2 cp2:Pos}{ek:Expr}{fk R}(hk:PP X ek fk)(h:PP X e R)(hN:X.N[i]?=!x)(hv:tO X.env.scope x)(hd:(!8)=false)(hcd:(x==("__classdict__":Str))=false)
  (hst:starEach [e] X.env=(false,eval e X.env)::starEach [] X.env) (hst1:starEach [ek,.List [] lp] X.env=(false,eval ek X.env)::starEach [.List [] lp] X.env) (uW:starEach [.List [] lp] X.env=(false,eval (.List [] lp) X.env)::starEach [] X.env) (hl1:(ap1.endLine==cp1.line)=true) (hl2:(ap2.endLine==cp2.line)=true):
  PR X (.Expr (.Call (.Attribute (.Call (.Attribute (.Name x px) "setdefault" ap1) [ek,.List [] lp] [] cp1) "append" ap2) [e] [] cp2) pos) (Ai i fk R):=λB O Y=>
 (gu (mQ PySem.F.plainAttrs_list PySem.F.slot_list_append PySem.F.type_list_append kO
  (mQ PySem.F.plainAttrs_dict PySem.F.slot_dict_setdefault PySem.F.type_dict_setdefault II (da hN hv hd hcd) (bv (hk j3 (vw Y)) (bv ((r0 (ut qk)) B O Y).1 pa_nil uW) hst1) rfl (by rw[hst1,uW];rfl) hl1 hst1 (by rw[uW];rfl))
  (bv (h j3 (vw (Y.set i none))) pa_nil hst) rfl (by rw[hst];rfl) hl2 hst rfl)).imp λEn σ H ⟨E,o,q,k⟩=>by
 let⟨⟨ks,ds⟩,q1,q⟩:=UD q
 let⟨y,q2,q⟩:=UD q
 let⟨ky,q3,q⟩:=UD q
 let⟨d,q4,q⟩:=UD q
 let⟨z,q5,q⟩:=UD q
 let⟨hz,q⟩:=az q
 subst q
 have hz:ks.length+1<big:=hz
 have q5:uI ks ds ky d=!z:=q5
 let⟨d',p5,p6⟩:=UD q4
 let⟨ld,p7⟩:=az p6
 subst p7
 have h0:=xM q1
 have h0:Y[i]?=!(!(.deep,.dct ks ds)):=h0
 have hi:=(Uk.mp h0).1
 let⟨a,kvs,e1,e2,e3,_⟩:=E.dctAt h0
 refine⟨.ref a,e1,.inr (.inr (.inl ⟨rfl,.inl ⟨kvs,e2⟩⟩)),E.view,y,q2,λyv H2 s2 iy=>?_⟩
 have E2:=E.grow s2
 refine⟨E2,_,_,rfl,λm H3 O3 s3 E3=>?_⟩
 have fin:∀(O4:T6)(H4:Hp)(ks':List gO)(ds' l:T9)(j:Nat)(w:V),Same (msk O H) (msk O4 H4)->EnvOk X.K B O4 σ H4 (Y.set i (!(.deep,.dct ks' ds')))->ds'[j]?=!(.lst l)->l.length+1<big->(∀kvs',H4 a=!(.dK kvs')->(kvs'.map (·.2))[j]?=!w)->z=(ks',ds'.set j (.lst (l++[d'])))->
   Px X.K "list" w H4/\Fz (tP X.K j3 (vw (Y.set i none)) (R (vw (Y.set i none)))) tNil σ H4 (λxs H5=>vB w xs H5 λ_ H'=>En.nx σ H'):=by
  intro O4 H4 ks' ds' l j w s4 E4 hj hlb hw hze
  have gi:(Y.set i (!(Cat.deep,D.dct ks' ds')))[i]?=!(!(.deep,.dct ks' ds')):=List.getElem?_set_self hi
  let⟨a',kvs',a2,ys,g1,g2,g3,g4,g5,g6,_⟩:=E4.inD gi hj
  rw[e1]at g1
  cases g1
  rw[hw _ g2]at g4
  cases g4
  have Ef:=E4.forget i
  rw[List.set_set]at Ef
  refine⟨.inl ⟨rfl,_,SqL.of g5⟩,Ef.view,d',p5,λev H5 s5 ie=>?_⟩
  have E5:=E4.grow s5
  rw[gy]at ie
  have ie':=Is.nl E5.nl d' ev ld ie
  let⟨b',kvs2,b2,zs,f1,f2,f3,f4,f5,f6,A3,f7,f8⟩:=E5.inD gi hj
  rw[e1]at f1
  cases f1
  have w1:=s5 _ _ g2
  rw[f2]at w1
  cases w1
  rw[hw _ g2]at f4
  cases f4
  let⟨E6,s6⟩:=f8 _ _ A3 (.refl _) (DQ f7 (Is.deep d' ev ld ie'))
  rw[List.set_set]at E6
  refine⟨a2,zs,ev,rfl,rfl,f5,by rw[jN,<-f6];exact Nat.lt_of_succ_lt hlb,k σ _ O4 (s4.trans (s5.msk.trans s6)) ?_⟩
  rw[hze]
  exact E6
 have s13:Same (msk O H) (msk O3 H3):=s2.msk.trans s3
 have h03:(Y++[!(Cat.deep,D.lst [])])[i]?=!(!(.deep,.dct ks ds)):=by rw[getElem?_append_left hi];exact h0
 have hiσ:i<σ.length:=by rw[E.len];exact hi
 let⟨a3,kvs3,f1,f2,f3,_⟩:=E3.dctAt h03
 rw[getElem?_append_left hiσ,e1]at f1
 cases f1
 have lk:kvs3.length=ks.length:=by have:=congrArg List.length f3;rwa [length_map]at this
 refine⟨a,kvs3,ky,m,rfl,by rw[vE q3 iy],f2,by rw[lk,jN];exact Nat.lt_of_succ_lt hz,λw hw=>?_,λhn=>?_⟩
 .rw[nn,f3]at hw;let⟨j,hj1,hj2⟩:=UD hw;unfold uI at q5;rw[hj1]at q5;let⟨zz,r1,q6⟩:=UD q5;let⟨l,r2,q7⟩:=UD q6;let⟨hlb,q8⟩:=az q7;have r3:=lstD_some r2;subst r3;let⟨O4,E4,s4,_⟩:=E3.thaw;refine fin O4 H3 ks ds l j w (s13.trans s4) (by rw[IJ h0];exact E4) r1 hlb (λkvs' hk'=>?_) q8.symm;rw[f2]at hk';cases hk';exact hj2
 .have hix:idxK ks ky=none:=by
   rw[nn,f3]at hn;cases hj:idxK ks ky with
   |none=>rfl
   |some j=>
    rw[hj]at hn;have:=vV hj;have hn:(kvs3.map (·.2))[j]?=none:=hn;rw[List.getElem?_eq_none_iff,length_map]at hn;omega
  unfold uI at q5;rw[hix]at q5;let⟨hl,q5⟩:=az q5;let⟨a4,kvs4,g1,g2,g3,E4,s4⟩:=E3.dpush h0 ky;rw[e1]at g1;cases g1;rw[f2]at g2;cases g2;refine fin O3 _ (ks++[ky]) (ds++[.lst []]) [] ds.length m (s13.trans s4) E4 (by rw[getElem?_append_right (le_refl _),Nat.sub_self];rfl) (by show 1<big;decide) (λkvs' hk'=>?_) ?_
  .rw[ak]at hk';cases hk';rw[List.map_append,getElem?_append_right (by rw[length_map,lk,hl];exact UB _),length_map,lk,hl,Nat.sub_self];rfl
  .rw[<-q5,List.set_append_right _ _ (le_refl _),Nat.sub_self];rfl
structure Gb where
 fn:Str->Option (Nat×(TJ))
 cn:Str->Ub
 no:Str->Bool
 fl:Str->Str->Bool
 mt:Str->MT
 ini:Str->Option (Nat×(T9->Option (List (Str×D))))
structure Sn where
 N:T3
 nm:List (Str×NameKind)
 k:Nat
 G:Gb
structure GbOk(P:Program)(w:World)(K:Frag)(mg:Str->TZ)(base:Heap)(G:Gb):Prop where
 fn:∀x k f,G.fn x=!(k,f)->Df P w K mg base x k f
 cn:∀x d,G.cn x=!d->Cn K mg x d
 no:∀x,G.no x=true->mg x=none
 fl:∀C m Ca,G.fl C m=true->nsIn K mainGlobals C=!(!(.ref Ca))->Cls K Ca/\NoAttr K Ca m
 mt:∀m C k f,G.mt m C=!(k,f)->Mf P w K mg base C m k f
 ini:∀C k g,G.ini C=!(k,g)->Mkf P w K mg base C k g
structure SnOk(X:Cx)(S:Sn):Prop where
 g:GbOk X.prog X.w X.K X.mg X.base S.G
 N:X.N=S.N
 nd:S.N.Nodup
 calm:X.calm=true
 room:Room S.k X.A
 loc:∀x,S.nm.lookup x=some .local->X.env.scope.names.lookup x=some .local
 cel:∀x,S.nm.lookup x=some .cell->X.env.scope.names.lookup x=some .cell
 fre:∀x,S.nm.lookup x=some .free->X.env.scope.names.lookup x=some .cell\/X.env.scope.names.lookup x=some .free
 glo:∀x,S.nm.lookup x=some .globalImplicit->X.env.kindOf x=some .globalImplicit
def  bh(S:Sn)(x:Str):Option Nat:=if fO x&&vP (S.nm.lookup x)then qm S.N x else none
def  lg(S:Sn)(x:Str):Bool:=fO x&&decide (S.nm.lookup x=some .globalImplicit)
def  Oq(S:Sn)(x:Str):TL:=match bh S x with
 |some i=>λY=>cy Y i
 |none=>if lg S x then(match S.G.cn x with
  |some d=>λ_=>!d
  |none=>if S.G.no x then(match qo x with|some n=>λ_=>!(.ty n)|none=>λ_=>none)elseλ_=>none)elseλ_=>none
def pp_no:PP X e (λ_=>none):=λO Y=>(qj O Y).1
def SnOk.vis(o:SnOk X S)(h:vP (S.nm.lookup x)=true):tO X.env.scope x:=by
 cases e:S.nm.lookup x with
 |none=>rw[e]at h;cases h
 |some k=>
  rw[e]at h;cases k with
  |«local»=>exact .inl (o.loc x e)
  |cell=>exact .inr (.inl (o.cel x e))
  |free=>
   rcases o.fre x e with q|q
   .exact .inr (.inl q)
   .exact .inr (.inr q)
  |globalExplicit=>cases h
  |globalImplicit=>cases h
def aX(o:SnOk X S)(h:bh S x=!i):fO x=true/\tO X.env.scope x/\X.N[i]?=!x/\vP (S.nm.lookup x)=true:=by
 unfold bh at h;split at h
 .rename_i c;rw[and_eq_true]at c;exact⟨c.1,o.vis c.2,by rw[o.N];exact gc h,c.2⟩
 .cases h
def aP(o:SnOk X S)(h:lg S x=true):fO x=true/\Gl X x:=by
 unfold lg at h;rw[and_eq_true]at h;exact⟨h.1,o.glo x (Uo h.2)⟩
def Aj{X:Cx}{S:Sn}{pos:Pos}(o:SnOk X S)(x:Str):PP X (.Name x pos) (Oq S x):=by
 unfold Oq;split
 .rename_i i e;let⟨h1,h2,p,_⟩:=aX o e;let⟨a,b,c⟩:=bZ h1;exact Ho i p h2 a b
 .split
  .rename_i e;let⟨h1,h2⟩:=aP o e;let⟨a,b,c⟩:=bZ h1;split
   .rename_i d hd;exact zh (o.g.cn x d hd) h2 a
   .split
    .rename_i j;split
     .rename_i n l;exact LF h2 (o.g.no x j) (uy l) c a
     .exact pp_no
    .exact pp_no
  .exact pp_no
noncomputable def  aH:Expr->Bool
 |.Starred _ _=>false
 |_=>true
def star1(h:aH e=true):starEach (e::es) env=(false,eval e env)::starEach es env:=by
 cases e<;>first|rfl|cases h
def ss:∀{es:Ua},es.all aH=true->(backTo pos (starEach es env)).any (·.1)=false
 |[],_=>rfl
 |e::es,h=>by
  rw[List.all_cons,and_eq_true]at h;rw[star1 h.1];show(false||(backTo pos (starEach es env)).any (·.1))=false;rw[ss h.2];rfl
def  Qf:Operator->Option (D->D->Ub)
 |.Add=>!ay
 |.Sub=>!bt
 |.Mult=>!cF
 |.FloorDiv=>!bi
 |.Mod=>!aI
 |.Pow=>!CZ
 |.LShift=>!Hq
 |_=>none
def  My(op:Operator)(fa fb:TL):TL:=match Qf op with
 |some g=>bin2 g fa fb
 |none=>λ_=>none
noncomputable def  io:Expr->Bool
 |.Set _ _ _=>false
 |_=>true
def noSet_mark(h:io b=true):behindInMarks op b=false:=by
 cases b<;>first|rfl|cases h
def cW(h:io iter=true):∀x,foldedSetIterable iter env x=pure x:=by
 intro x;cases iter<;>first|rfl|cases h
def  cmpG:CmpOp->Option (D->D->Ub)
 |.Lt=>!Hr
 |.LtE=>!l5
 |.Gt=>!uj
 |.GtE=>!LH
 |.Eq=>!(aE false)
 |.NotEq=>!(aE true)
 |.In=>!inD
 |.NotIn=>!zu
 |.Is=>!(Dd false)
 |.IsNot=>!(Dd true)
def  xU(op:CmpOp)(b:Expr)(fa fb:TL):TL:=match cmpG op with
 |some g=>if io b then bin2 g fa fb elseλ_=>none
 |none=>λ_=>none
section
variable{X:Cx}{S:Sn}{a b c:Expr}{pos:Pos}
def Mz(op:Operator){fa fb}(ha:PP X a fa)(hb:PP X b fb):PP X (.BinOp a op b pos) (My op fa fb):=by
 cases op<;>first
  |exact IE ha hb
  |exact Hs ha hb
  |exact Ht ha hb
  |exact Hu ha hb
  |exact Hv ha hb
  |exact Hw ha hb
  |exact Hx ha hb
  |exact pp_no
def MA(o:SnOk X S)(op:CmpOp){fa fb}(ha:PP X a fa)(hb:PP X b fb):PP X (.Compare a [op] [b] pos) (xU op b fa fb):=by
 unfold xU;cases op<;>(dsimp only[cmpG];split)<;>first
  |exact pp_no
  |exact LS (Uq (Nat.le_add_right _ _) (jP o.room)) ha hb
  |exact LU ha hb
  |exact LV ha hb
  |exact LW ha hb
  |exact L8 o.room ha hb
  |exact L9 o.room ha hb
  |(rename_i h;exact pp_cmp op_in_seq r_in ha hb (noSet_mark h))
  |(rename_i h;exact pp_cmp op_notIn_seq r_notIn ha hb (noSet_mark h))
  |(rename_i h;exact pp_cmp op_isN r_isN ha hb (noSet_mark h))
  |(rename_i h;exact pp_cmp op_notN r_notN ha hb (noSet_mark h))
def IL(o:SnOk X S)(op:CmpOp){fa fb}(ha:PP X a fa)(hb:PP X b fb):PQ X (.Compare a [op] [b] pos) (ao (xU op b fa fb)):=by
 have no:PQ X (.Compare a [op] [b] pos) (ao λ_=>none):=λO Y pins s σ H Q I ⟨_,_,q,_⟩=>by cases q
 unfold xU;cases op<;>(dsimp only[cmpG];split)<;>first
  |exact no
  |exact LX (Uq (Nat.le_add_right _ _) (jP o.room)) ha hb
  |exact LY ha hb
  |exact LZ ha hb
  |exact L4 ha hb
  |exact Ma o.room ha hb
  |exact Mb o.room ha hb
  |(rename_i h;exact pq_cmp op_in_seq r_in ha hb (noSet_mark h))
  |(rename_i h;exact pq_cmp op_notIn_seq r_notIn ha hb (noSet_mark h))
  |(rename_i h;exact pq_cmp op_isN r_isN ha hb (noSet_mark h))
  |(rename_i h;exact pq_cmp op_notN r_notN ha hb (noSet_mark h))
end
def  Ak(x:Str):Option (T9->Ub):=if x=("len":Str)then !cb else if x=("isinstance":Str)then !fN else if x=("all":Str)then !kQ else if x=("tuple":Str)then !bO else if x=("max":Str)then !HV else if x=("min":Str)then !HW else if x=("any":Str)then !l8 else if x=("int":Str)then !FR else none
def  Al(S:Sn)(x:Str):T9->Ub:=if lg S x then(match S.G.fn x with
 |some (k,g)=>if k<=S.k thenλds=>gT (g ds)elseλ_=>none
 |none=>match S.G.ini x with
  |some (k,g)=>if k+1<=S.k thenλds=>uA x (g ds)elseλ_=>none
  |none=>if S.G.no x then(match Ak x with|some g=>g|none=>λ_=>none)elseλ_=>none)elseλ_=>none
def  Am(S:Sn)(x:Str):T9->Ub:=if lg S x then(match S.G.fn x with
 |some (k,g)=>if k<=S.k thenλds=>se (g ds)elseλ_=>none
 |none=>λ_=>none)elseλ_=>none
section
variable{X:Cx}{S:Sn}{e:Expr}{es:Ua}{p pos:Pos}
def vW{α g:Type}(o:Option α):(o.bind λ_=>(none:Option g))=none:=by cases o<;>rfl
def eO{fa:TK}:PP X e (λY=>(fa Y).bind λ_=>none):=λO Y pins s σ H Q I ⟨_,_,q,_⟩=>by dsimp only at q;rw[vW]at q;cases q
def k_call(o:SnOk X S)(x:Str){fa}(ha:PX X (e::es) fa)(hst:(e::es).all aH=true):PP X (.Call (.Name x p) (e::es) [] pos) (λY=>(fa Y).bind (Al S x)):=by
 rw[List.all_cons,and_eq_true]at hst;have h1:starEach (e::es) X.env=(false,eval e X.env)::starEach es X.env:=star1 hst.1;have h2:∀pos,(!18).any (·.1)=false:=λpos=>ss hst.2;unfold Al;split
 .rename_i hg;let⟨ok,gl⟩:=aP o hg;let⟨n1,n2,n3⟩:=bZ ok;split
  .rename_i k g hf;split
   .rename_i hk;exact Dr (o.g.fn x k g hf) (o.room.mono hk) gl ha n1 h1 (h2 _)
   .exact eO
  .split
   .rename_i k g hf;split
    .rename_i hk;exact Du (o.g.ini x k g hf) (o.room.mono hk) gl ha n1 h1 (h2 _)
    .exact eO
   .split
    .rename_i hn;have hm:=o.g.no x hn;split
     .rename_i g hb;unfold Ak at hb;split at hb
      .rename_i q;cases hb;subst q;exact pp_callB call_len_seq rn_len gl hm PySem.boot_len ha n3 n1 h1 (h2 _)
      .split at hb
       .rename_i q;cases hb;subst q;exact pp_callB call_isi rn_isi gl hm (!20) ha n3 n1 h1 (h2 _)
       .split at hb
        .rename_i q;cases hb;subst q;exact pp_callB (call_all o.calm) rn_all gl hm (!20) ha n3 n1 h1 (h2 _)
        .split at hb
         .rename_i q;cases hb;subst q;exact pp_callTy call_tuple_of rn_tuple gl hm (!20) ha n3 n1 h1 (h2 _)
         .split at hb
          .rename_i q;cases hb;subst q;exact pp_callB (call_max2 o.calm) rn_max gl hm b_max ha n3 n1 h1 (h2 _)
          .split at hb
           .rename_i q;cases hb;subst q;exact pp_callB (call_min2 o.calm) rn_min gl hm b_min ha n3 n1 h1 (h2 _)
           .split at hb
            .rename_i q;cases hb;subst q;exact pp_callB (call_any o.calm) rn_any gl hm (!20) ha n3 n1 h1 (h2 _)
            .split at hb
             .rename_i q;cases hb;subst q;exact pp_callTy call_intB rn_intB gl hm (!20) ha n3 n1 h1 (h2 _)
             .cases hb
     .exact eO
    .exact eO
 .exact eO
def k_callR(o:SnOk X S)(x:Str)(I:PX X (e::es) fa)(j:(e::es).all aH=true):oC X (.Call (.Name x p) (e::es) [] pos) (λY=>(fa Y).bind (Am S x)):=by
 rw[List.all_cons,and_eq_true]at j;have h1:starEach (e::es) X.env=(false,eval e X.env)::starEach es X.env:=star1 j.1;have h2:∀pos,(!18).any (·.1)=false:=λpos=>ss j.2;have no:oC X (.Call (.Name x p) (e::es) [] pos) (λY=>(fa Y).bind λ_=>none):=λY=>by dsimp only;rw[vW];exact pj Y
 unfold Am;split
 .rename_i t;let⟨ok,J⟩:=aP o t;let⟨l,U,T⟩:=bZ ok;split
  .rename_i k g C;split
   .rename_i r;exact Ds (o.g.fn x k g C) (o.room.mono r) J I l h1 (h2 _)
   .exact no
  .exact no
 .exact no
end
noncomputable def  sv(N:T3)(nm:List (Str×NameKind)):T1:=(List.range N.length).filter λi=>match N[i]? with|some x=>decide (nm.lookup x=some .local)|none=>false
def sw(h:N[i]?=!x)(h2:nm.lookup x=some .local):i∈sv N nm:=by grind [sv]
def  An(S:Sn)(x:Str):Option Nat:=if S.nm.lookup x=some .local then qm S.N x else none
mutual
noncomputable def  MB(S:Sn):Nat->Expr->D->Vv->Option Vv
 |0=>λ_ _ _=>none
 |n+1=>λe=>match e with
  |.Name x _=>(match An S x with|some i=>aM i|none=>λ_ _=>none)
  |.Tuple ts _ _=>if ts.all aH then iZ ts.length (DR S n ts)elseλ_ _=>none
  |_=>λ_ _=>none
noncomputable def  DR(S:Sn):Nat->Ua->T9->Vv->Option Vv
 |0=>λ_ _ _=>none
 |n+1=>λes=>match es with
  |[]=>bc
  |t::ts=>if aH t then ai (MB S n t) (DR S n ts)elseλ_ _=>none
end
def  qt(S:Sn)(x:Str):Option Nat:=if S.nm.lookup x=some .local\/S.nm.lookup x=some .cell then qm S.N x else none
mutual
noncomputable def  IM(S:Sn):Nat->Expr->D->Ev->Option Ev
 |0=>λ_ _ _=>none
 |n+1=>λe=>match e with
  |.Name x _=>(match qt S x with|some i=>gz i|none=>λ_ _=>none)
  |.Tuple ts _ _=>if ts.all aH then Cr ts.length (DS S n ts)elseλ_ _=>none
  |_=>λ_ _=>none
noncomputable def  DS(S:Sn):Nat->Ua->T9->Ev->Option Ev
 |0=>λ_ _ _=>none
 |n+1=>λes=>match es with
  |[]=>oF
  |t::ts=>if aH t then eh (IM S n t) (DS S n ts)elseλ_ _=>none
end
section
variable{X:Cx}{S:Sn}
def asg1(h:aH t=true):(assignEach (t::g) env).map (·.2)=assign t env::(assignEach g env).map (·.2):=by
 cases t<;>first|rfl|cases h
def asgLen:∀{ts:Ua},(assignEach ts env).length=ts.length
 |[]=>rfl
 |t::ts=>by cases t<;>exact congrArg (·+1) (asgLen (ts:=ts))
def Ao:∀{ts:Ua},ts.all aH=true->(assignEach ts env).findIdx? (·.1)=none
 |[],_=>rfl
 |t::ts,h=>by
  rw[List.all_cons,and_eq_true]at h;have ih:=Ao (env:=env) h.2;have:assignEach (t::ts) env=(false,assign t env)::assignEach ts env:=by
   have h1:=h.1;cases t<;>first|rfl|cases h1
  rw[this,List.findIdx?_cons];simp[ih]
def vX:HJ X ks e (λ_ _=>none):=λO Y d pins s σ H v u Q I r ⟨_,_,_,q,_⟩=>by cases q
def Ap:xu X ks e (λ_ _=>none):=λO Y d pins s σ H v u Q I r ⟨_,_,_,q,_⟩=>by cases q
def vY:Dm X e (λ_ _=>none):=λB O Y d pins s σ H v u Q I r ⟨_,_,_,q,_⟩=>by cases q
def Aq:xz X e (λ_ _=>none):=λB O Y d pins s σ H v u Q I r ⟨_,_,_,q,_⟩=>by cases q
def uJ(h:An S x=!i):S.nm.lookup x=some .local/\S.N[i]?=!x:=by
 unfold An at h;split at h
 .exact⟨by assumption,gc h⟩
 .cases h
def sy(h:qt S x=!i):(S.nm.lookup x=some .local\/S.nm.lookup x=some .cell)/\S.N[i]?=!x:=by
 unfold qt at h;split at h
 .exact⟨by assumption,gc h⟩
 .cases h
def FT(o:SnOk X S):∀n,(∀e,HJ X (sv S.N S.nm) e (MB S n e))/\∀es,xu X (sv S.N S.nm) es (DR S n es):=by
 intro n;induction n with
 |zero=>exact⟨λe=>vX,λes=>Ap⟩
 |succ n g=>
  refine⟨λe=>?_,λes=>?_⟩
  .unfold MB;split
   .split
    .rename_i i hi;let⟨h1,h2⟩:=uJ hi;exact C8 (by rw[o.N];exact o.nd) (by rw[o.N];exact h2) (.inl (o.loc _ h1)) (sw h2 h1) (.inr (o.loc _ h1))
    .exact vX
   .split
    .rename_i h;exact HK o.calm (g.2 _) asgLen (Ao h)
    .exact vX
   .exact vX
  .unfold DR;split
   .exact C9
   .split
    .rename_i h;exact gsd_cons (g.1 _) (g.2 _) (asg1 h)
    .exact Ap
def vZ(o:SnOk X S)(l:∀x,X.fn x=true):∀n,(∀e,Dm X e (IM S n e))/\∀es,xz X es (DS S n es):=by
 intro n;induction n with
 |zero=>exact⟨λe=>vY,λes=>Aq⟩
 |succ n g=>
  refine⟨λe=>?_,λes=>?_⟩
  .unfold IM;split
   .split
    .rename_i i hi;let⟨h1,h2⟩:=sy hi;have j:Co X.env.scope _:=h1.elim (λh=>.inl (o.loc _ h)) (λh=>.inr (o.cel _ h));exact Dn (by rw[o.N];exact o.nd) (by rw[o.N];exact h2) j (.inl (l _))
    .exact vY
   .split
    .rename_i h;exact Ic o.calm (g.2 _) asgLen (Ao h)
    .exact vY
   .exact vY
  .unfold DS;split
   .exact Do
   .split
    .rename_i h;exact gse_cons (g.1 _) (g.2 _) (asg1 h)
    .exact Aq
noncomputable def  i8(S:Sn)(sc:Scope):Bool:=decide (sc.kind=.function)&&sc.names.all λy=>not (decide (y.2=.cell))&&(not (decide (y.2=.local))||decide (sc.names.lookup y.1=some .local))&&
 (not (decide (y.2=.free))||decide (S.nm.lookup y.1=some .cell)||decide (S.nm.lookup y.1=some .free))
def qu(o:SnOk X S)(h:i8 S l=true):CSc X l (sv S.N l.names):=by
 unfold i8 at h;rw[and_eq_true]at h;have t:=Uo h.1;have j:=List.all_eq_true.mp h.2;refine⟨t,λy g z=>?_,λy g z=>?_,λy g z=>?_,λi x p r=>sw (by rw[<-o.N];exact p) r⟩
 .have:=j y g;simp[z]at this
 .have:=j y g;simp[z]at this;exact this
 .have:=j y g;simp[z]at this;rcases this with q|q
  .exact .inl (o.cel _ q)
  .exact o.fre _ q
def lQ{f:Str → NameKind → NameKind}:∀{l:List (Str × NameKind)},(l.map fun y=>(y.1,f y.1 y.2)).lookup x = (l.lookup x).map (f x)
  | []=>rfl
  | (n,k) :: l=>by
    rw [List.map_cons,List.lookup_cons,List.lookup_cons]
    cases h:x == n with
    | true => have : x = n := by simpa using h
              subst this; rfl
    | false=>exact lQ
def gA:(relabel g env).names.lookup x=(g.names.lookup x).map λk=>if(k==NameKind.free&&env.scope.kind==.function&&env.kindOf x==some .cell)then NameKind.cell else k:=by
 have e:(relabel g env).names=g.names.map λy=>(y.1,if(y.2==NameKind.free&&env.scope.kind==ScopeKind.function&&env.kindOf y.1==!NameKind.cell)then NameKind.cell else y.2):=by
  apply List.map_congr_left;rintro⟨n,k⟩ _;dsimp only;split<;>rfl
 rw[e];exact lQ (f:=λn k=>if(k==NameKind.free&&env.scope.kind==ScopeKind.function&&env.kindOf n==!NameKind.cell)then NameKind.cell else k)
def sA(o:SnOk X S){j:Scope}(h:i8 S j=true)(C:Addr)(s:Shared)(H:Hp)(fp:List Addr):SnOk (mS X j C s H fp) {S with nm:=j.names} where
 g:=o.g
 N:=o.N
 nd:=o.nd
 calm:=o.calm
 room:=o.room
 loc:=λx q=>by
  show(relabel j X.env).names.lookup x=_;rw[gA,show j.names.lookup x=some .local from q];rfl
 cel:=λx q=>by
  exfalso;have l:=q;exact(qu o h).nocell _ (PySem.mem_of_lookup l) rfl
 fre:=λx q=>by
  show(relabel j X.env).names.lookup x=_\/(relabel j X.env).names.lookup x=_;rw[gA,show j.names.lookup x=some .free from q];dsimp only[Option.map];split
  .exact .inl rfl
  .exact .inr rfl
 glo:=λx q=>by
  show(relabel j X.env).names.lookup x=_;rw[gA,show j.names.lookup x=some .globalImplicit from q];rfl
end
noncomputable def  Ar:Const->TL
 |.int i=>λ_=>!(.int i)
 |.bool b=>λ_=>!(.bl b)
 |.none=>λ_=>some .non
 |.str x=>λ_=>!(.str x)
 |_=>λ_=>none
noncomputable def  noV{α:Type}:Vv->Option α:=λ_=>none
noncomputable def  As:Expr->Bool
 |.UnaryOp .Not _ _=>false
 |.BoolOp _ _ _=>false
 |.IfExp _ _ _ _=>false
 |.Compare _ _ _ _=>false
 |_=>true
def plainT_ok(h:As e=true):∀whole,isTrue e env whole=(do let v<-whole;standAt e.pos;holding [v] (truthy v)):=by
 intro whole;cases e with
 |UnaryOp op a pos=>cases op<;>first|rfl|cases h
 |BoolOp _ _ _=>cases h
 |IfExp _ _ _ _=>cases h
 |Compare _ _ _ _=>cases h
 |_=>rfl
noncomputable def  xV:Expr->Bool
 |.Slice _ _ _ _=>false
 |_=>true
def noSl_ok(h:xV b=true):j7 b:=by
 intro o i;cases b<;>first|rfl|cases h
noncomputable def  MC:Expr->Bool
 |.BinOp _ _ _ _=>true
 |_=>false
noncomputable def  MD:Expr->Bool
 |.Tuple _ _ _=>true
 |_=>false
def  FU(S:Sn)(m:Str)(apos pos:Pos)(args:Ua):Bool:=args.all aH&&decide (args.length<30)&&(apos.endLine==pos.line)
noncomputable def  Qg:Expr->Bool
 |.Name _ _=>true
 |.Subscript _ _ _=>true
 |_=>false
noncomputable def  Ti:Expr->Bool
 |.BinOp (.List _ _) .Mult _ _=>true
 |.BinOp _ .Add (.List _ _) _=>true
 |_=>false
noncomputable def  At:Expr->Option (Str×Expr)
 |.Call f as ks _=>(match f,as,ks with
  |.Name g _,[b],[]=>!(g,b)
  |_,_,_=>none)
 |_=>none
def uK(h:At e=!(g,b)):∃p q,e=.Call (.Name g p) [b] [] q:=by
 unfold At at h;grind
def  IN(S:Sn)(f:Str):Ua->Option Expr
 |[a]=>(match At a with
  |some (g,b)=>if f=("tuple":Str)/\g=("reversed":Str)/\lg S f=true/\S.G.no f=true/\lg S g=true/\S.G.no g=true/\aH b=true then !b else none
  |none=>none)
 |_=>none
def xW(h:IN S f as=!b):∃p q,as=[.Call (.Name "reversed" p) [b] [] q]/\f=("tuple":Str)/\lg S "tuple"=true/\S.G.no "tuple"=true/\lg S "reversed"=true/\S.G.no "reversed"=true/\aH b=true:=by
 unfold IN at h;split at h
 .split at h
  .rename_i g l j;split at h
   .rename_i k;cases h;let⟨p,q,rfl⟩:=uK j;let⟨rfl,rfl,k⟩:=k;exact⟨p,q,rfl,rfl,k⟩
   .cases h
  .cases h
 .cases h
mutual
noncomputable def  rd:Nat->Sn->Expr->TL
 |0=>λ_ _=>noV
 |n+1=>λS e=>match e with
  |.Constant c _ _=>Ar c
  |.Name x _=>Oq S x
  |.BinOp a op b _=>if Ti e thenλY=>(rf n S e Y).map D.lst else My op (rd n S a) (rd n S b)
  |.UnaryOp .Not a _=>C1 (rd n S a)
  |.UnaryOp .USub a _=>λY=>(rd n S a Y).bind zt
  |.BoolOp op vs p=>rl n S op vs p
  |.Compare a [op] [b] _=>xU op b (rd n S a) (rd n S b)
  |.Compare a [.LtE,.LtE] [b,c] _=>if io c then dW l5 l5 (rd n S a) (rd n S b) (rd n S c)else noV
  |.IfExp c a b _=>Hy (rq n S c) (rd n S a) (rd n S b)
  |.Tuple es _ _=>λY=>(bw (rx n S es Y)).bind λds=>!(.tup ds)
  |.Attribute a m _=>if Qg a thenλY=>(rd n S a Y).bind (ji S.G.fl m)else noV
  |.Subscript a (.Slice lo hi none _) _=>aS (l7 (rd n S a) (ro n S lo) (ro n S hi)) λY=>(kY (rd n S a) (ro n S lo) (ro n S hi) Y).map D.lst
  |.Subscript a b _=>if xV b then bin2 ixD (rd n S a) (rd n S b)else noV
  |.Call (.Name f _) (a::as) [] _=>match IN S f (a::as)with
   |some b=>λY=>(rx n S [b] Y).bind Iz
   |none=>aS (if(a::as).all aH thenλY=>(rx n S (a::as) Y).bind (Al S f)else noV) λY=>(rf n S e Y).map D.lst
  |.Call (.Attribute (.Name x _) m apos) [] [] pos=>if FU S m apos pos []thenλY=>gT (sf (Oq S x) (λ_=>![]) (S.G.mt m) S.k m Y)else noV
  |.List _ _=>λY=>(rf n S e Y).map D.lst
  |.ListComp _ _ _ _=>λY=>(rf n S e Y).map D.lst
  |_=>noV
noncomputable def  rl:Nat->Sn->BoolOp->Ua->Pos->TL
 |0=>λ_ _ _ _=>noV
 |n+1=>λS op vs p=>match op,vs with
  |_,[a]=>rd n S a
  |.And,a::b::r=>mY (rd n S a) (rl n S .And (b::r) p)
  |.Or,a::b::r=>PH (rd n S a) (rl n S .Or (b::r) p)
  |_,_=>noV
noncomputable def  rq:Nat->Sn->Expr->TN
 |0=>λ_ _=>noV
 |n+1=>λS e=>match e with
  |.UnaryOp .Not a _=>b7 (rq n S a)
  |.BoolOp op vs p=>rb n S op vs p
  |.Compare a [op] [b] _=>ao (xU op b (rd n S a) (rd n S b))
  |.Compare a [.LtE,.LtE] [b,c] _=>if io c then ao (dW l5 l5 (rd n S a) (rd n S b) (rd n S c))else noV
  |e=>if As e thenλY=>(rd n S e Y).bind rR else noV
noncomputable def  rb:Nat->Sn->BoolOp->Ua->Pos->TN
 |0=>λ_ _ _ _=>noV
 |n+1=>λS op vs p=>match op,vs with
  |.And,[a]=>rq n S a
  |.Or,[a]=>rq n S a
  |.And,a::b::r=>kh (rq n S a) (rb n S .And (b::r) p)
  |.Or,a::b::r=>o8 (rq n S a) (rb n S .Or (b::r) p)
  |_,_=>noV
noncomputable def  rx:Nat->Sn->Ua->TK
 |0=>λ_ _=>noV
 |n+1=>λS es=>match es with
  |[]=>λ_=>![]
  |a::as=>if aH a then aa (rd n S a) (rx n S as)else noV
noncomputable def  ro:Nat->Sn->Option Expr->Vv->Option (Uc)
 |0=>λ_ _=>noV
 |n+1=>λS e=>match e with
  |none=>λ_=>!none
  |some e=>partF (rd n S e)
noncomputable def  rf:Nat->Sn->Expr->TK
 |0=>λ_ _=>noV
 |n+1=>λS e=>match e with
  |.List es _=>λY=>bw (rx n S es Y)
  |.ListComp elt [g] sc _=>if i8 S sc&&io g.iter&&decide (g.is_async=0)then
    ah (sv S.N sc.names) (rj n S g.target g.iter) (MB {S with nm:=sc.names} n g.target) (rqs n {S with nm:=sc.names} g.ifs) (rd n {S with nm:=sc.names} elt)else noV
  |.Subscript a (.Slice lo hi none _) _=>kY (rd n S a) (ro n S lo) (ro n S hi)
  |.BinOp a .Add b _=>catF (if MC a then aS (rd n S a) (λY=>(rf n S a Y).map D.lst)else rd n S a) (rd n S b)
  |.BinOp a .Mult b _=>cA (rf n S a) (rd n S b)
  |.Call (.Name f _) [a] [] _=>if f=("list":Str)/\lg S f=true/\S.G.no f=true/\aH a=true then aS (rv n S a) (λY=>(rx n S [a] Y).bind o9)
   else if f=("sorted":Str)/\lg S f=true/\S.G.no f=true/\aH a=true then aS (λY=>(rx n S [a] Y).bind sk) (λY=>(rx n S [a] Y).bind vU)else noV
  |_=>noV
noncomputable def  rv:Nat->Sn->Expr->TK
 |0=>λ_ _=>noV
 |n+1=>λS e=>match e with
  |.Call (.Name f _) [a] [] _=>if f=("reversed":Str)/\lg S f=true/\S.G.no f=true/\lg S "list"=true/\S.G.no "list"=true/\aH a=true thenλY=>(rx n S [a] Y).bind DD
   else if f=("range":Str)/\lg S f=true/\S.G.no f=true/\lg S "list"=true/\S.G.no "list"=true/\aH a=true thenλY=>(rx n S [a] Y).bind Ms else noV
  |_=>noV
noncomputable def  rqs:Nat->Sn->Ua->TN
 |0=>λ_ _=>noV
 |n+1=>λS es=>match es with
  |[]=>λ_=>!true
  |[c]=>rq n S c
  |_=>noV
noncomputable def  rj:Nat->Sn->Expr->Expr->TK
 |0=>λ_ _ _=>noV
 |n+1=>λS tg e=>aS (match e with
  |.Call (.Name f _) [a] [] _=>if f=("range":Str)/\lg S f=true/\S.G.no f=true/\aH a=true thenλY=>(rx n S [a] Y).bind rV
   else if f=("enumerate":Str)/\lg S f=true/\S.G.no f=true/\aH a=true/\MD tg=true thenλY=>(rx n S [a] Y).bind vR
   else if f=("reversed":Str)/\lg S f=true/\S.G.no f=true/\aH a=true thenλY=>(rx n S [a] Y).bind Mn else noV
  |.Call (.Name f _) [a,b] [] _=>if f=("zip":Str)/\lg S f=true/\S.G.no f=true/\aH a=true/\aH b=true/\MD tg=true thenλY=>(rx n S [a,b] Y).bind xw else noV
  |_=>noV) λY=>(rd n S e Y).bind seqD
end
section
variable{X:Cx}{S:Sn}{e:Expr}{es:Ua}{pos:Pos}
def PP.u(h:PP X e f)(g:bP e=false):PPu X e f:=λO Y=>(h O Y).pu g
def PPu.p(h:PPu X e f):PP X e f:=λO Y=>(h O Y).1
def PF.u(h:PF X e f)(g:bP e=false):PFu X e f:=λO Y=>(h O Y).pu g
def sC:PQ X e noV:=λO Y pins s σ H Q I ⟨_,_,q,_⟩=>by cases q
def Au:PWQ X e noV:=λO Y g pins s σ H Q I ⟨_,_,q,_⟩=>by cases q
def FV:PX X es noV:=λO Y pos pins s σ H Q I ⟨_,_,q,_⟩=>by cases q
def Av:HL X es noV:=λO Y pins s σ H Q I ⟨_,_,q,_⟩=>by cases q
def wa:PJ X tg e noV:=λO Y pins s σ H R I ⟨_,_,q,_⟩=>by cases q
def IP{e}:Dg X e noV:=λO Y pins s σ H Q I ⟨_,_,q,_⟩=>by cases q
def ME(h1:PJ X tg e f)(h2:PJ X tg e g):PJ X tg e (aS f g):=λO Y pins s σ H R I ⟨E,ds,q,k⟩=>by
 rcases or_some q with q|q
 .exact h1 O Y pins s σ H R I ⟨E,ds,q,k⟩
 .exact h2 O Y pins s σ H R I ⟨E,ds,q,k⟩
def DT{K}(h:tP K O Y (o.map D.lst) σ H Q):LD K O Y o σ H Q:=by
 let⟨E,d,e,k⟩:=h;cases o with
 |none=>cases e
 |some ds=>
  cases e;refine⟨E,ds,rfl,λp xs H' s g l=>?_⟩;have j:=(E.grow s).fresh g;exact k _ _ (s.trans (Same.new g)) ⟨p,xs,rfl,.of (by rw[aO j,ak]),IsL.mono (Same.new g).msk _ _ l⟩
def PFu.pp(h:PFu X e f):PPu X e (λY=>(f Y).map D.lst):=λO Y=>(h O Y).imp λσ H Q q=>DT q
def Aw(h1:PFu X e f)(h2:PFu X e g):PFu X e (aS f g):=λO Y=>(h1 O Y).by2 (h2 O Y) λσ H Q ⟨E,ds,q,k⟩=>by
 rcases or_some q with q|q;all_goals grind
def Ax(r:X.calm=true)(C:CSc X scope ks)(hi:PJ X tg iter I)(o:∀C s H fp,HJ (mS X scope C s H fp) ks tg g)(j:∀C s H fp,HL (mS X scope C s H fp) ifs t)(p:∀C s H fp,PP (mS X scope C s H fp) elt J)(l:∀x,foldedSetIterable iter X.env x=pure x):PFu X (!14) (ah ks I g t J):=λO Y=>
 (vM r C (hi O Y) (λC s H fp=>PG.ex λz:(T6)×Vv×D=>o C s H fp z.1 z.2.1 z.2.2) (λC s H fp=>PTs.ex λz:(T6)×Vv=>j C s H fp z.1 z.2) (λC s H fp=>PE.ex λz:(T6)×Vv=>p C s H fp z.1 z.2) l).imp λσ H Q h=>zf h
def DU(r:X.calm=true)(C:CSc X scope ks)(hi:PJ X tg iter I)(o:∀C s H fp,HJ (mS X scope C s H fp) ks tg g)(j:∀C s H fp,HL (mS X scope C s H fp) ifs t)(p:∀C s H fp,oC (mS X scope C s H fp) elt J)(l:∀x,foldedSetIterable iter X.env x=pure x):oC X (!14) (λY=>(ah ks I g t J Y).bind λds=>!(.lst ds)):=λY=>
 (vM r C (hi j3 Y) (λC s H fp=>PG.ex λz:(T6)×Vv×D=>o C s H fp z.1 z.2.1 z.2.2) (λC s H fp=>PTs.ex λz:(T6)×Vv=>j C s H fp z.1 z.2) (λC s H fp=>PE.ex λz:Vv=>(p C s H fp z).1) l).imp λσ H Q h=>uu h
def DV(c:Const):PP X (.Constant c j pos) (Ar c):=by
 cases c<;>first|exact pp_int|exact pp_bl|exact pp_non|exact pp_str|exact pp_no
structure Snd(n:Nat):Prop where
 rd:∀X S,SnOk X S->∀e,PPu X e (rd n S e)
 rl:∀X S,SnOk X S->∀op vs p,PP X (.BoolOp op vs p) (rl n S op vs p)
 rq:∀X S,SnOk X S->∀e,PQ X e (rq n S e)
 rb:∀X S,SnOk X S->∀op vs p,PWQ X (.BoolOp op vs p) (rb n S op vs p)
 rx:∀X S,SnOk X S->∀es,PX X es (rx n S es)
 ro:∀X S,SnOk X S->∀e,Dg X e (ro n S e)
 rf:∀X S,SnOk X S->∀e,PFu X e (rf n S e)
 rv:∀X S,SnOk X S->∀e p q,PFu X (.Call (.Name "list" p) [e] [] q) (rv n S e)
 rqs:∀X S,SnOk X S->∀es,HL X es (rqs n S es)
 rj:∀X S,SnOk X S->∀tg e,PJ X tg e (rj n S tg e)
def lastM(h:io c=true):lastMarks [.LtE,.LtE] [b,c]=false:=noSet_mark h
def MF{a:Expr}{m:Str}{env:Env}{w}(h:Qg a=true):attributeBase a m env w=w:=by
 unfold Qg at h;split at h
 .rfl
 .rfl
 .cases h
def Qh(n:Nat)(I:Snd n)(o:SnOk X S)(e:Expr):PPu X e (rd (n+1) S e):=by
 have P:=λe=>(I.rd X S o e).p;have no:PPu X e noV:=qj;unfold L2.rd;split
 .exact(DV _).u rfl
 .exact(Aj o _).u rfl
 .split
  .exact(I.rf X S o _).pp
  .exact(Mz _ (P _) (P _)).u rfl
 .exact(HC (P _)).u rfl
 .exact(HU (P _)).u rfl
 .exact(I.rl X S o _ _ _).u rfl
 .exact(MA o _ (P _) (P _)).u rfl
 .split
  .rename_i h;exact(pp_lele (P _) (P _) (P _) (lastM h)).u rfl
  .exact no
 .exact(L6 (I.rq X S o _) (P _) (P _)).u rfl
 .exact(HE (I.rx X S o _)).u rfl
 .split
  .rename_i hb;exact(pp_fld (P _) (λC Ca h1 h2=>o.g.fl C _ Ca h1 h2) (MF hb)).u rfl
  .exact no
 .exact ur ((HY (P _) (I.ro X S o _) (I.ro X S o _)).u rfl) ((zB (P _) (I.ro X S o _) (I.ro X S o _)).u rfl).pp
 .split
  .rename_i h;exact(pp_ix (P _) (P _) (noSl_ok h)).u rfl
  .exact no
 .rename_i f fp a as cp;split
  .rename_i b hb;let⟨_,_,he,rfl,h1,h2,h3,h4,h5⟩:=xW hb;cases he;let⟨ok,gl⟩:=aP o h1;let⟨ok2,gl2⟩:=aP o h3;exact(IA o.calm gl (o.g.no _ h2) gl2 (o.g.no _ h4) (I.rx X S o _) (star1 h5)).u rfl
  .refine ur ?_ (I.rf X S o _).pp;split
   .rename_i h;exact(k_call o _ (I.rx X S o _) h).u rfl
   .exact qj
 .split
  .rename_i h;unfold FU at h;rw[and_eq_true,and_eq_true]at h;exactλO Y=>(Ik (xC (Aj o _) (λC k f q=>o.g.mt _ C k f q) o.room h.2 O Y)).pu rfl
  .exact no
 .exact(I.rf X S o _).pp
 .exact(I.rf X S o _).pp
 .exact no
def Qi(n:Nat)(I:Snd n)(o:SnOk X S)(op:BoolOp)(vs:Ua)(p:Pos):PP X (.BoolOp op vs p) (rl (n+1) S op vs p):=by
 have P:=λe=>(I.rd X S o e).p;unfold L2.rl;split
 .exact Hz (P _)
 .exact HA (P _) (I.rl X S o _ _ _)
 .exact L5 (P _) (I.rl X S o _ _ _)
 .exact pp_no
def Qj(n:Nat)(I:Snd n)(o:SnOk X S)(e:Expr):PQ X e (rq (n+1) S e):=by
 have P:=λe=>(I.rd X S o e).p;unfold L2.rq;split
 .exact y7 (I.rq X S o _)
 .exact(I.rb X S o _ _ _).pq
 .exact IL o _ (P _) (P _)
 .split
  .rename_i h;exact pq_lele (P _) (P _) (P _) (lastM h)
  .exact sC
 .split
  .rename_i h;exact pq_val (P _) (plainT_ok h)
  .exact sC
def Qk(n:Nat)(I:Snd n)(o:SnOk X S)(op:BoolOp)(g:Ua)(p:Pos):PWQ X (.BoolOp op g p) (rb (n+1) S op g p):=by
 unfold L2.rb;split
 .exact pw_and1D (I.rq X S o _)
 .exact pw_or1D (I.rq X S o _)
 .exact pw_andD (I.rq X S o _) (I.rb X S o _ _ _)
 .exact pw_orD (I.rq X S o _) (I.rb X S o _ _ _)
 .exact Au
def Ql(n:Nat)(I:Snd n)(o:SnOk X S)(es:Ua):PX X es (rx (n+1) S es):=by
 unfold L2.rx;split
 .exact y8
 .split
  .rename_i h;exact px_cons (I.rd X S o _).p (I.rx X S o _) (star1 h)
  .exact FV
def Qm(n:Nat)(I:Snd n)(o:SnOk X S)(e:Option Expr):Dg X e (ro (n+1) S e):=by
 unfold L2.ro;split
 .exact zy
 .exact zA (I.rd X S o _).p
def MG(n:Nat)(I:Snd n)(o:SnOk X S)(es:Ua):HL X es (rqs (n+1) S es):=by
 unfold L2.rqs;split
 .exact Da
 .exact Db (I.rq X S o _)
 .exact Av
def IQ:bootBuiltins "list"=!(.type "list"):=by decide+kernel
def Qn(n:Nat)(I:Snd n)(o:SnOk X S)(e:Expr):PFu X e (rf (n+1) S e):=by
 have P:=λe=>(I.rd X S o e).p;unfold L2.rf;split
 .exact(y9 (I.rx X S o _)).u rfl
 .rename_i elt g sc p;split
  .rename_i h;rw[and_eq_true,and_eq_true]at h;let⟨tg,iter,ifs,as⟩:=g;have ha:as=0:=Uo h.2;subst ha;have hb:=sA o h.1.1;exact Ax o.calm (qu o h.1.1) (I.rj X S o _ _) (λC s H fp=>(FT (hb C s H fp) n).1 tg) (λC s H fp=>I.rqs _ _ (hb C s H fp) _) (λC s H fp=>(I.rd _ _ (hb C s H fp) _).p) (cW h.1.2)
  .exact jQ
 .exact(zB (P _) (I.ro X S o _) (I.ro X S o _)).u rfl
 .refine(Iu ?_ (P _)).u rfl;split
  .exact(ur (I.rd X S o _) (I.rf X S o _).pp).p
  .exact P _
 .exact(ID (λO Y=>(I.rf X S o _ O Y).1) (P _)).u rfl
 .split
  .rename_i h;let⟨rfl,h1,h2,h3⟩:=h;let⟨ok,gl⟩:=aP o h1;exact Aw (I.rv X S o _ _ _) ((C3 gl (o.g.no _ h2) IQ (I.rx X S o _) (star1 h3)).u rfl)
  .split
   .rename_i h;let⟨rfl,h1,h2,h3⟩:=h;let⟨ok,gl⟩:=aP o h1;exact Aw ((DK gl (o.g.no _ h2) (I.rx X S o _) (star1 h3)).u rfl) ((Ah o.calm gl (o.g.no _ h2) (I.rx X S o _) (star1 h3)).u rfl)
   .exact jQ
 .exact jQ
def Qo(n:Nat)(I:Snd n)(o:SnOk X S)(e:Expr)(p q:Pos):PFu X (.Call (.Name "list" p) [e] [] q) (rv (n+1) S e):=by
 unfold L2.rv;split
 .split
  .rename_i h;let⟨rfl,h1,h2,h3,h4,h5⟩:=h;let⟨ok,gl⟩:=aP o h1;let⟨ok2,gl2⟩:=aP o h3;exact(Iw o.calm gl2 (o.g.no _ h4) gl (o.g.no _ h2) (I.rx X S o _) (star1 h5)).u rfl
  .split
   .rename_i h;let⟨rfl,h1,h2,h3,h4,h5⟩:=h;let⟨ok,gl⟩:=aP o h1;let⟨ok2,gl2⟩:=aP o h3;exact(DM o.calm gl2 (o.g.no _ h4) gl (o.g.no _ h2) (I.rx X S o _) (star1 h5)).u rfl
   .exact jQ
 .exact jQ
def Qp(n:Nat)(I:Snd n)(o:SnOk X S)(tg e:Expr):PJ X tg e (rj (n+1) S tg e):=by
 unfold L2.rj;refine ME ?_ (HI (I.rd X S o _).p);split
 .split
  .rename_i h;let⟨rfl,h1,h2,h3⟩:=h;let⟨ok,gl⟩:=aP o h1;exact xq gl (o.g.no _ h2) (I.rx X S o _) (star1 h3)
  .split
   .rename_i h;let⟨rfl,h1,h2,h3,h4⟩:=h;let⟨ok,gl⟩:=aP o h1;cases tg<;>first
     |exact Iq gl (o.g.no _ h2) (I.rx X S o _) (star1 h3)
     |cases h4
   .split
    .rename_i h;let⟨rfl,h1,h2,h3⟩:=h;let⟨ok,gl⟩:=aP o h1;exact Mo gl (o.g.no _ h2) (I.rx X S o _) (star1 h3)
    .exact wa
 .split
  .rename_i h;let⟨rfl,h1,h2,h3,h4,h5⟩:=h;let⟨ok,gl⟩:=aP o h1;cases tg<;>first
    |exact HR gl (o.g.no _ h2) (I.rx X S o _) (by rw[star1 h3,star1 h4];rfl) (star1 h4)
    |cases h5
  .exact wa
 .exact wa
def sound:∀n,Snd n
 |0=>⟨λ_ _ _ _=>qj,λ_ _ _ _ _ _=>pp_no,λ_ _ _ _=>sC,λ_ _ _ _ _ _=>Au,λ_ _ _ _=>FV,λ_ _ _ _=>IP,λ_ _ _ _=>jQ,λ_ _ _ _ _ _=>jQ,λ_ _ _ _=>Av,λ_ _ _ _ _=>wa⟩
 |n+1=>⟨λX S o e=>Qh n (sound n) o e,λX S o op vs p=>Qi n (sound n) o op vs p,λX S o e=>Qj n (sound n) o e,λX S o op vs p=>Qk n (sound n) o op vs p,λX S o es=>Ql n (sound n) o es,λX S o e=>Qm n (sound n) o e,
  λX S o e=>Qn n (sound n) o e,λX S o e p q=>Qo n (sound n) o e p q,λX S o es=>MG n (sound n) o es,λX S o tg e=>Qp n (sound n) o tg e⟩
end
noncomputable def  IR:Expr->Bool
 |.Call _ _ _ _=>true
 |.List (.BinOp _ _ _ _::_) _=>true
 |_=>false
mutual
noncomputable def  fr:Nat->Sn->Expr->TL
 |0=>λ_ _=>noV
 |n+1=>λS e=>aS (λY=>kj (rd n S e Y)) (aS (λY=>ic (rf n S e Y)) (match e with
  |.List es _=>λY=>(bw (MH n S es Y)).bind λds=>!(.lst ds)
  |.Tuple es _ _=>λY=>(bw (MH n S es Y)).bind λds=>!(.tup ds)
  |.Dict [] [] _=>λ_=>!(.dct [] [])
  |.ListComp elt [g] sc _=>if i8 S sc&&io g.iter&&decide (g.is_async=0)then
   λY=>(ah (sv S.N sc.names) (rj n S g.target g.iter) (MB {S with nm:=sc.names} n g.target) (rqs n {S with nm:=sc.names} g.ifs) (fr n {S with nm:=sc.names} elt) Y).bind λds=>!(.lst ds)else noV
  |.Call (.Name f _) (a::as) [] _=>if(a::as).all aH thenλY=>(rx n S (a::as) Y).bind (Am S f)else noV
  |.Subscript a b _=>if IR a&&xV b then KY (fr n S a) (rd n S b)else noV
  |_=>noV))
noncomputable def  MH:Nat->Sn->Ua->TK
 |0=>λ_ _=>noV
 |n+1=>λS es=>match es with
  |[]=>λ_=>![]
  |a::as=>if aH a then aa (fr n S a) (MH n S as)else noV
end
def uL:rZ X es noV:=λY pos pins s σ H Q I ⟨_,_,q,_⟩=>by cases q
def MI:∀n,(∀X S,SnOk X S->∀e,oC X e (fr n S e))/\∀X S,SnOk X S->∀es,rZ X es (MH n S es):=by
 intro n;induction n with
 |zero=>exact⟨λX S o e=>pj,λX S o es=>uL⟩
 |succ n ih=>
  refine⟨λX S o e=>?_,λX S o es=>?_⟩
  .unfold fr;refine FI (zC ((sound n).rd X S o e)) (FI (H9 ((sound n).rf X S o e)) ?_);split
   .exact ut (ih.2 X S o _)
   .exact Ia (ih.2 X S o _)
   .exact IC
   .rename_i elt g sc p;split
    .rename_i h;rw[and_eq_true,and_eq_true]at h;let⟨tg,iter,ifs,as⟩:=g;have ha:as=0:=Uo h.2;subst ha;have hb:=sA o h.1.1;exact DU o.calm (qu o h.1.1) ((sound n).rj X S o _ _) (λC s H fp=>(FT (hb C s H fp) n).1 tg) (λC s H fp=>(sound n).rqs _ _ (hb C s H fp) _) (λC s H fp=>ih.1 _ _ (hb C s H fp) _) (cW h.1.2)
    .exact pj
   .split
    .rename_i h;exact k_callR o _ ((sound n).rx X S o _) h
    .exact pj
   .split
    .rename_i h;rw[and_eq_true]at h;exact Mv (ih.1 X S o _) ((sound n).rd X S o _).p (noSl_ok h.2)
    .exact pj
   .exact pj
  .unfold MH;split
   .exact qk
   .split
    .rename_i h;exact frs_cons (ih.1 X S o _) (ih.2 X S o _) (star1 h)
    .exact uL
def  ev(n:Nat)(S:Sn)(e:Expr):TQ:=aS (c8 (fr n S e)) (aS (km (rf n S e)) (aS (ql (rd n S e)) (xy (rd n S e))))
def uM(n:Nat)(o:SnOk X S)(e:Expr):tM X e (ev n S e):=m7 (r0 ((MI n).1 X S o e)) (m7 (uv ((sound n).rf X S o e)) (m7 (zD ((sound n).rd X S o e)) (FJ ((sound n).rd X S o e))))
structure TnOk(X:Cx)(S:Sn):Prop where
 s:SnOk X S
 fn:∀x,X.fn x=true
 nox:X.xe=λ_ _=>False
 nm:X.env.scope.names=S.nm
def  pE(S:Sn)(x:Str):Option Nat:=if fO x&&(decide (S.nm.lookup x=some .local)||decide (S.nm.lookup x=some .cell))then qm S.N x else none
noncomputable def  noO':TM:=λ_=>none
noncomputable def  FW:Expr->Bool
 |.Constant (.str _) _ _=>true
 |_=>false
noncomputable def  eP:Expr->Option Str
 |.Name x _=>!x
 |_=>none
def  Qq(n:Nat)(S:Sn):Option Expr->TM
 |none=>λ_=>!(.rt (.deep,.non))
 |some e=>match eP e with
  |some x=>(match bh S x with|some i=>λY=>(oE Y i).bind λs=>!(.rt s)|none=>cG (ev n S e))
  |none=>cG (ev n S e)
def  FX(S:Sn):Expr->T1
 |.List es _=>es.filterMap λe=>(eP e).bind (bh S)
 |_=>[]
def  MJ(is:T1)(F:TL)(L:TK)(R:TL):TQ:=aS (c8 F) (aS (km L) (aS (ql R) (aS (λY=>km L (frzS is Y)) (xy R))))
def  Qr(n:Nat)(S:Sn)(e:Expr):TQ:=if(FX S e).isEmpty then ev n S e else MJ (FX S e) (fr n S e) (rf n S e) (rd n S e)
def  DW(n:Nat)(S:Sn)(t e:Expr):TM:=match t with
 |.Name x _=>(match pE S x with|some i=>aD i (Qr n S e)|none=>noO')
 |.Subscript o k _=>(match eP o with
  |some x=>if xV k&&not (bP e) then(match bh S x with|some i=>cg i (rd n S k) (ev n S e)|none=>noO')else noO'
  |none=>noO')
 |_=>noO'
def  RN(n:Nat)(S:Sn)(ts:Ua)(e:Expr):TM:=match ts with
 |[t]=>DW n S t e
 |_=>noO'
def  xX(i j:Nat)(g:TQ)(R:TL):TM:=aS (m9 i g) (m9 i λY=>ql R (frzS [j] Y))
def  IS(n:Nat)(S:Sn)(i:Nat)(m:Str)(e:Expr):TM:=if m=("append":Str)then(match(eP e).bind (bh S)with
 |some j=>xX i j (ev n S e) (rd n S e)
 |none=>m9 i (ev n S e))else if m=("extend":Str)then xH i (rd n S e)else noO'
def  Qs:Expr->Option (Expr×Expr)
 |.Call (.Attribute o m ap) [ek,.List [] _] [] cp=>if m=("setdefault":Str)/\aH ek=true/\(ap.endLine==cp.line)=true then !(o,ek)else none
 |_=>none
def  Qt(n:Nat)(S:Sn)(o:Expr)(m:Str)(e:Expr):TM:=match Qs o with
 |some (ob,ek)=>if m=("append":Str)then(match(eP ob).bind (bh S)with|some i=>Ai i (rd n S ek) (rd n S e)|none=>noO')else noO'
 |none=>noO'
def  Os(n:Nat)(S:Sn)(o:Expr)(m:Str)(e:Expr):TM:=match o with
 |.Name x _=>(match bh S x with|some i=>IS n S i m e|none=>noO')
 |.Subscript o k _=>(match(eP o).bind (bh S)with|some i=>if m=("append":Str)/\xV k=true then xL i (rd n S k) (rd n S e)else noO'|none=>noO')
 |_=>Qt n S o m e
noncomputable def  wb:Expr->Option (Expr×Str×Pos×Expr×Pos)
 |.Call (.Attribute o m apos) [e] [] cpos=>!(o,m,apos,e,cpos)
 |_=>none
noncomputable def  DX:Expr->Option (Expr×Pos×Expr×Expr×Pos)
 |.Call (.Attribute o m apos) [a,b] [] cpos=>if m=("insert":Str)then !(o,apos,a,b,cpos)else none
 |_=>none
def  Qu(n:Nat)(S:Sn)(o a b:Expr):TM:=match o with
 |.Name x _=>(match bh S x with|some i=>xQ i (rd n S a) (rd n S b)|none=>noO')
 |_=>noO'
def  Qv(n:Nat)(S:Sn)(e:Expr):TM:=match DX e with
 |some (o,apos,a,b,cpos)=>if aH a&&aH b&&(apos.endLine==cpos.line)then Qu n S o a b else noO'
 |none=>if bP e then noO' else bz (rd n S e)
def  Qw(n:Nat)(S:Sn)(e:Expr):TM:=if FW e thenλY=>!(.nx Y)else match wb e with
 |some (o,m,apos,a,cpos)=>if aH a&&(apos.endLine==cpos.line)then Os n S o m a else noO'
 |none=>Qv n S e
mutual
noncomputable def  ex:Nat->Sn->Stmt->TM
 |0=>λ_ _=>noO'
 |n+1=>λS st=>match st with
  |.Return v _=>Qq n S v
  |.Assign ts e _=>RN n S ts e
  |.If c a b _=>cu (rq n S c) (Ay n S a) (Ay n S b)
  |.For tg iter body els _=>if els.isEmpty&&io iter then aS (xA (rj n S tg iter) (IM S n tg) (Ay n S body)) (zL (rj n S tg iter) (IM S n tg) (Ay n S body))else noO'
  |.Pass _=>λY=>!(.nx Y)
  |.Break _=>λY=>!(.bk Y)
  |.Continue _=>λY=>!(.ct Y)
  |.Expr e _=>Qw n S e
  |_=>noO'
noncomputable def  Ay:Nat->Sn->List Stmt->TM
 |0=>λ_ _=>noO'
 |n+1=>λS st=>match st with
  |[]=>λY=>!(.nx Y)
  |s::r=>af (ex n S s) (Ay n S r)
end
section
variable{X:Cx}{S:Sn}
def jS(o:TnOk X S)(h:pE S x=!i):fO x=true/\Co X.env.scope x/\X.N[i]?=!x:=by
 unfold pE at h;split at h
 .rename_i c;rw[and_eq_true,Bool.or_eq_true]at c;refine⟨c.1,?_,by rw[o.s.N];exact gc h⟩;rcases c.2 with c|c
  .exact .inl (o.s.loc _ (Uo c))
  .exact .inr (o.s.cel _ (Uo c))
 .cases h
def swaps_name(e:Expr)(x:Str)(p:Pos)(l:Nat)(env:Env):swapsWith e (!(.Name x p)) l env=pure false\/(swapsWith e (!(.Name x p)) l env=pure true/\env.scope.names.lookup x=some .local):=by
 have key:∀(g o j:Bool),(pure (g&&(env.kindOf x==some .local)&&o&&j):Sem Bool)=pure false\/((pure (g&&(env.kindOf x==some .local)&&o&&j):Sem Bool)=pure true/\env.scope.names.lookup x=some .local):=λg o j=>by
  cases C:(env.kindOf x==!NameKind.local)with
  |false=>left;cases g<;>rfl
  |true=>
   have t:env.scope.names.lookup x=some .local:=by
    have r:env.kindOf x=some .local:=by simpa using C
    exact r
   cases g<;>cases o<;>cases j<;>first|exact .inl rfl|exact .inr ⟨rfl,t⟩
 cases e<;>first
  |exact .inl rfl
  |exact key _ _ _
def bF{st}:PR X st noO':=zH
def eQ(h:fO x=true):(!8)=false/\(x==("__classdict__":Str))=false:=⟨(bZ h).1,(bZ h).2.1⟩
def IT(h:xV o=true):∀v,assign (.Subscript (.Name x p) o g) env v=(do
  let j<-holding [v] (eval (.Name x p) env)
  let l<-holding [v,j] (eval o env)
  standAt g
  holding [v,j,l] (setItem j l v)
  release [v,j,l] []):=by
 intro v
 cases o<;>first|rfl|cases h
def DY(h:bP e=false):swapsWithSole [t] e l env=pure false:=by
 exact swaps_no h _ _ _
def DZ:swappedStores [.Subscript (.Name x j) l g] e env=pure none:=by
 cases e<;>rfl
def fG(h:eP e=!x):∃p,e=.Name x p:=by
 cases e<;>first|(cases h;exact⟨_,rfl⟩)|cases h
def uN(h:FW e=true):∃x k p,e=.Constant (.str x) k p:=by
 cases e with
 |Constant c k p=>cases c<;>first|exact⟨_,_,_,rfl⟩|cases h
 |_=>cases h
def uO(h:wb e=!(o,m,ap,a,cp)):e=.Call (.Attribute o m ap) [a] [] cp:=by
 unfold wb at h;grind
def MK(n:Nat)(o:TnOk X S)(v:Option Expr){pos:Pos}:PR X (.Return v pos) (Qq n S v):=by
 cases v with
 |none=>exact Dk
 |some e=>
  unfold Qq;dsimp only;cases h:eP e with
  |none=>exact zJ (uM n o.s _)
  |some x=>
   let⟨p,rfl⟩:=fG h;dsimp only;cases hi:bh S x with
   |none=>exact zJ (uM n o.s _)
   |some i=>
    let⟨h1,h2,h3,_⟩:=aX o.s hi;let⟨a,b⟩:=eQ h1;exact uw i h3 h2 a b
def s_evA(n:Nat)(o:SnOk X S)(e:Expr):tM X e (Qr n S e):=by
 unfold Qr;split
 .exact uM n o e
 .exact m7 (r0 ((MI n).1 X S o e)) (m7 (uv ((sound n).rf X S o e)) (m7 (zD ((sound n).rd X S o e)) (m7 (z0 _ (uv ((sound n).rf X S o e))) (FJ ((sound n).rd X S o e)))))
def IU(n:Nat)(o:TnOk X S)(t e:Expr){pos:Pos}:PR X (.Assign [t] e pos) (DW n S t e):=by
 have P:=λe=>((sound n).rd X S o.s e).p;cases t with
 |Name x p=>
  unfold DW;dsimp only;cases hi:pE S x with
  |none=>exact bF
  |some i=>
   let⟨h1,h2,h3⟩:=jS o hi;exact zK (by rw[o.s.N];exact o.s.nd) h3 h2 (s_evA n o.s _) (.inl (o.fn _)) (swaps_name _ _ _ _ _)
 |Subscript ob k p=>
  unfold DW;dsimp only;cases hn:eP ob with
  |none=>exact bF
  |some x=>
   let⟨px,rfl⟩:=fG hn;dsimp only;split
   .rename_i h;rw[and_eq_true]at h;cases hi:bh S x with
    |none=>exact bF
    |some i=>
     let⟨h1,h2,h3,_⟩:=aX o.s hi;let⟨a,b⟩:=eQ h1;exact Ih i (uM n o.s _) (P _) h3 h2 a b (IT h.1) (DY (by simpa using h.2)) DZ (asg1 rfl)
   .exact bF
 |_=>exact bF
def ML(n:Nat)(o:TnOk X S)(g:Ua)(e:Expr):PR X (.Assign g e pos) (RN n S g e):=by
 cases g with
 |nil=>exact bF
 |cons t r=>cases r with
  |nil=>exact IU n o t e
  |cons _ _=>exact bF
def IV(n:Nat)(o:TnOk X S){i:Nat}{x:Str}{px ap cp pos:Pos}(m:Str)(e:Expr)(hi:bh S x=!i)(hs:aH e=true)(hl:(ap.endLine==cp.line)=true):PR X (.Expr (.Call (.Attribute (.Name x px) m ap) [e] [] cp) pos) (IS n S i m e):=by
 let⟨h1,h2,h3,_⟩:=aX o.s hi;let⟨a,b⟩:=eQ h1;unfold IS;split
 .rename_i hm;subst hm;split
  .exact FL (i7 i (uM n o.s _) h3 h2 a b (star1 hs) hl) (i7 i (z0 _ (zD ((sound n).rd X S o.s e))) h3 h2 a b (star1 hs) hl)
  .exact i7 i (uM n o.s _) h3 h2 a b (star1 hs) hl
 .split
  .rename_i hm;subst hm;exact xI i ((sound n).rd X S o.s e).p h3 h2 a b (star1 hs) hl
  .exact bF
def MM(n:Nat)(o:TnOk X S){ap cp pos:Pos}(ob:Expr)(m:Str)(e:Expr)(hs:aH e=true)(hl:(ap.endLine==cp.line)=true):PR X (.Expr (.Call (.Attribute ob m ap) [e] [] cp) pos) (Qt n S ob m e):=by
 unfold Qt;cases h1:Qs ob with
 |none=>exact bF
 |some z=>
  let⟨o2,ek⟩:=z;dsimp only;split
  .rename_i hm;subst hm;cases hn:(eP o2).bind (bh S)with
   |none=>exact bF
   |some i=>
    let⟨x,e1,hi⟩:=UD hn;let⟨px,rfl⟩:=fG e1;unfold Qs at h1;split at h1
    .let⟨⟨g1,g2,g3⟩,h2⟩:=az h1;cases h2;subst g1;let⟨f1,f2,f3,_⟩:=aX o.s hi;let⟨c,d⟩:=eQ f1;exact IK i ((sound n).rd X S o.s _).p ((sound n).rd X S o.s _).p f3 f2 c d (star1 hs) (star1 g2) rfl g3 hl
    .cases h1
  .exact bF
def MN(n:Nat)(o:TnOk X S){ap cp pos:Pos}(ob:Expr)(m:Str)(e:Expr)(hs:aH e=true)(hl:(ap.endLine==cp.line)=true):PR X (.Expr (.Call (.Attribute ob m ap) [e] [] cp) pos) (Os n S ob m e):=by
 cases ob with
 |Name x p=>
  unfold Os;dsimp only;cases hi:bh S x with
  |none=>exact bF
  |some i=>exact IV n o m e hi hs hl
 |Subscript ob k p=>
  unfold Os;dsimp only;cases hn:(eP ob).bind (bh S)with
  |none=>exact bF
  |some i=>
   let⟨x,e1,hi⟩:=UD hn;let⟨px,rfl⟩:=fG e1;dsimp only;split
   .rename_i h;let⟨rfl,hk⟩:=h;let⟨h1,h2,h3,_⟩:=aX o.s hi;let⟨a,b⟩:=eQ h1;exact IB i ((sound n).rd X S o.s _).p ((sound n).rd X S o.s _).p h3 h2 a b (noSl_ok hk) (star1 hs) hl
   .exact bF
 |_=>exact MM n o _ m e hs hl
def xY(h:DX e=!(o,ap,a,b,cp)):e=.Call (.Attribute o "insert" ap) [a,b] [] cp:=by
 unfold DX at h;grind
def MO(n:Nat)(o:TnOk X S)(g a b:Expr)(r:aH a=true)(l:aH b=true)(j:(ap.endLine==C.line)=true):PR X (.Expr (.Call (.Attribute g "insert" ap) [a,b] [] C) pos) (Qu n S g a b):=by
 have P:=λe=>((sound n).rd X S o.s e).p;cases g with
 |Name x p=>
  unfold Qu;dsimp only;cases hi:bh S x with
  |none=>exact bF
  |some i=>
   let⟨h1,h2,t,_⟩:=aX o.s hi;let⟨c,d⟩:=eQ h1;exact xR i (P _) (P _) t h2 c d (star1 r) (star1 l) j
 |_=>exact bF
def MP(n:Nat)(o:TnOk X S)(e:Expr):PR X (.Expr e pos) (Qv n S e):=by
 unfold Qv;cases hm:DX e with
 |some z=>
  let⟨ob,ap,a,b,cp⟩:=z;have:=xY hm;subst this;dsimp only;split
  .rename_i h;rw[and_eq_true,and_eq_true]at h;exact MO n o ob a b h.1.1 h.1.2 h.2
  .exact bF
 |none=>
  dsimp only;split
  .exact bF
  .rename_i h;exact Dl ((sound n).rd X S o.s e).p (swaps_no (by simpa using h) _ _ _)
def MQ(n:Nat)(o:TnOk X S)(e:Expr):PR X (.Expr e pos) (Qw n S e):=by
 unfold Qw;split
 .rename_i h;let⟨x,k,p,rfl⟩:=uN h;exact Ib
 .cases j:wb e with
  |some z=>
   let⟨g,m,ap,a,l⟩:=z;have:=uO j;subst this;dsimp only;split
   .rename_i h;rw[and_eq_true]at h;exact MN n o g m a h.1 h.2
   .exact bF
  |none=>exact MP n o e
def qv:∀n,(∀X S,TnOk X S->∀st,PR X st (ex n S st))/\∀X S,TnOk X S->∀st,r6 X st (Ay n S st):=by
 intro n;induction n with
 |zero=>exact⟨λX S o e=>bF,λX S o es=>zE⟩
 |succ n ih=>
  refine⟨λX S o st=>?_,λX S o st=>?_⟩
  .have pass:PassesOwn (!5) X.A X.env X.xe:=by rw[o.nox];exact PassesOwn.never
   unfold ex;cases st with
   |Return v p=>exact MK n o v
   |Assign ts e p=>exact ML n o ts e
   |If c a b p=>exact FK ((sound n).rq X S o.s _) (ih.2 X S o _) (ih.2 X S o _)
   |For tg iter body els p=>
    dsimp only;split
    .rename_i h;rw[and_eq_true]at h;cases els with
     |nil=>
      have F1:=Ie (pos:=p) pass o.s.calm ((sound n).rj X S o.s tg iter) ((vZ o.s o.fn n).1 _) (ih.2 X S o body) (cW h.2);have F2:=Dp (pos:=p) pass o.s.calm ((sound n).rj X S o.s tg iter) ((vZ o.s o.fn n).1 _) (ih.2 X S o body) (cW h.2);exact FL F1 F2
     |cons _ _=>cases h.1
    .exact bF
   |Pass p=>exact Dj
   |Break p=>exact zI
   |Continue p=>exact r9
   |Expr e p=>exact MQ n o e
   |_=>exact bF
  .unfold Ay;cases st with
   |nil=>exact m8
   |cons s r=>exact mv (ih.1 X S o _) (ih.2 X S o _)
end
def  IW:Nat->Sn->Addr->(Str->Bool)->List Stmt->Dv
 |0=>λ_ _ _ _=>λ_ _=>none
 |n+1=>λS x fl st=>match st with
  |[]=>Dw
  |.Assign [.Attribute (.Name y _) f _] e _::r=>if fl f&&not (bP e) then(match bh S y with|some i=>Dy x i f (ev n S e) (IW n S x fl r)|none=>λ_ _=>none)elseλ_ _=>none
  |s::r=>Oo (ex n S s) (IW n S x fl r)
def MR{X:Cx}{S:Sn}(o:TnOk X S){Ca x:Addr}{fl:Str->Bool}(c:Cls X.K Ca)(hfl:∀f,fl f=true->NoAttr X.K Ca f):∀n st,FM X Ca x st (IW n S x fl st):=by
 have no:∀st,FM X Ca x st (λ_ _=>none):=λst B O Y dx fd pins s σ H D I ⟨_,_,_,_,q,_⟩=>by cases q
 intro n;induction n with
 |zero=>exactλst=>no st
 |succ n ih=>
  intro st;unfold IW;split
  .exact Il
  .split
   .rename_i h;rw[and_eq_true]at h;split
    .rename_i i hi;let⟨h1,h2,h3,_⟩:=aX o.s hi;let⟨a,b⟩:=eQ h1;exact Im i (uM n o.s _) (ih _) h3 h2 a b (swaps_no (by simpa using h.2) _ _ _) c (hfl _ h.1)
    .exact no _
   .exact no _
  .exact Dz ((qv n).1 X S o _) (ih _)
mutual
noncomputable def  Tj(S:Sn)(i0:Nat):Nat->Expr->D->Ev->Option Ev
 |0=>λ_ _ _=>none
 |n+1=>λe=>match e with
  |.Name x _=>(match qt S x with|some i=>if i=i0 thenλ_ _=>none else gz i|none=>λ_ _=>none)
  |.Tuple ts _ _=>if ts.all aH then Cr ts.length (MS S i0 n ts)elseλ_ _=>none
  |_=>λ_ _=>none
noncomputable def  MS(S:Sn)(i0:Nat):Nat->Ua->T9->Ev->Option Ev
 |0=>λ_ _ _=>none
 |n+1=>λes=>match es with
  |[]=>oF
  |t::ts=>if aH t then eh (Tj S i0 n t) (MS S i0 n ts)elseλ_ _=>none
end
end L2
namespace L2
open PySem PySem.Spec PyProof.Rows
noncomputable def  cI(i:Int):TL:=λ_=>!(.int i)
noncomputable def  cB(b:Bool):TL:=λ_=>!(.bl b)
noncomputable def  cN:TL:=λ_=>some .non
noncomputable def  cS(x:Str):TL:=λ_=>!(.str x)
noncomputable def  cD(d:D):TL:=λ_=>!d
noncomputable def  cT(n:String):TL:=λ_=>!(.ty n)
def  va(i:Nat):TL:=λY=>cy Y i
def  ngF(a:TL):TL:=λY=>(a Y).bind zt
noncomputable def  ag:TK:=λ_=>![]
def  dU(xs:TK):TL:=λY=>(bw (xs Y)).bind λds=>!(.tup ds)
def  i9(fl:Str->Str->Bool)(m:Str)(o:TL):TL:=λY=>(o Y).bind (ji fl m)
def  slF(a:TL)(lo hi:Vv->Option (Uc)):TL:=aS (l7 a lo hi) λY=>(kY a lo hi Y).map D.lst
noncomputable def  noP:Vv->Option (Uc):=λ_=>!none
noncomputable def  lsF(L:TK):TL:=λY=>(L Y).map D.lst
def  aL(f:TJ)(xs:TK):TL:=aS (λY=>(xs Y).bind λds=>gT (f ds)) (lsF noV)
def  aT(f:T9->Ub)(xs:TK):TL:=aS (λY=>(xs Y).bind f) (lsF noV)
noncomputable def  eR:T9->Ub:=λ_=>none
def  MU(C:Str)(g:T9->Option (List (Str×D)))(xs:TK):TL:=aS (λY=>(xs Y).bind λds=>uA C (g ds)) (lsF noV)
def  KZ(o:TL)(xs:TK)(mt:MT)(k:Nat)(m:Str):TL:=λY=>gT (sf o xs mt k m Y)
def  dpF(xs:TK):TK:=λY=>bw (xs Y)
def  xZ(xs:TK):TK:=λY=>(xs Y).bind o9
def  Ot(xs:TK):TL:=aS (λY=>(xs Y).bind eR) (lsF (xZ xs))
def  x8(xs:TK):TK:=aS (λY=>(xs Y).bind sk) (λY=>(xs Y).bind vU)
def  FY(xs:TK):TK:=λY=>(xs Y).bind DD
def  Cs(xs:TK):TK:=λY=>(xs Y).bind Ms
def  Ou(xs:TK):TK:=λY=>(xs Y).bind vR
def  sD(xs:TK)(L:TK):TL:=aS (λY=>(xs Y).bind eR) (lsF L)
def  dJ(a:TL):TN:=λY=>(a Y).bind rR
noncomputable def  tQ:TN:=λ_=>!true
def  jX(sp:TK)(R:TL):TK:=aS sp λY=>(R Y).bind seqD
def  MV(xs:TK):TK:=λY=>(xs Y).bind rV
def  qw(xs:TK):TK:=λY=>(xs Y).bind xw
def  frX(R:TL)(L:TK)(Sp:TL):TL:=aS (λY=>kj (R Y)) (aS (λY=>ic (L Y)) Sp)
def  aY(R:TL)(L:TK)(Sp:TL):TQ:=aS (c8 (frX R L Sp)) (aS (km L) (aS (ql R) (xy R)))
def  qx(F:TK):TL:=λY=>(bw (F Y)).bind λds=>!(.lst ds)
def  yw(F:TK):TL:=λY=>(bw (F Y)).bind λds=>!(.tup ds)
def  x9(ks:T1)(J:TK)(tg:D->Vv->Option Vv)(t:TN)(F:TL):TL:=λY=>(ah ks J tg t F Y).bind λds=>!(.lst ds)
def  Ct(f:TJ)(xs:TK):TL:=λY=>(xs Y).bind λds=>se (f ds)
def  pF(xs:TK):TL:=λY=>(xs Y).bind eR
def  yy(i:Nat):TM:=λY=>(oE Y i).bind λs=>!(.rt s)
noncomputable def  aF:TM:=λY=>!(.nx Y)
def  lh(J:TK)(tg:D->Ev->Option Ev)(F:TM):TM:=aS (xA J tg F) (zL J tg F)
def  Qx(xs:TK):TK:=λY=>(xs Y).bind Mn
def  Tk(xs:TK):TL:=λY=>(xs Y).bind Iz
noncomputable def  Tl:TL:=λ_=>!(.dct [] [])
def  a8(K:Frag)(x:Str)(st:Stmt):Prop:=∃(f:Addr)(oc:Value)(od an:Option Addr)(osl:Array (TZ))(kV doc pm cdv ct:Value),nsIn K mainGlobals x=!(!(.ref f))/\
 K.lookup f=!⟨oc,od,.func (PySem.W.fnOf x x (cm st) (aU st) (aj st) .none kV doc pm an cdv ct),osl⟩/\PySem.W.codeIn K cdv x=true/\PySem.W.keepIn K (.ref f)=true
def  oH(K:Frag)(C m qual:Str)(st:Stmt):Prop:=∃(Ca f:Addr)(oc:Value)(od an:Option Addr)(osl:Array (TZ))(kV doc pm cdv ct:Value),nsIn K mainGlobals C=!(!(.ref Ca))/\findIn K (.ref Ca) m=!(!(.ref f))/\PySem.W.isFn K (.ref f)=true/\
 K.lookup f=!⟨oc,od,.func (PySem.W.fnOf m qual (cm st) (aU st) (aj st) .none kV doc pm an cdv ct),osl⟩/\PySem.W.codeIn K cdv qual=true/\PySem.W.keepIn K (.ref f)=true
structure TCls(K:Frag)(C:Str):Prop where
 ex:∃Ca:Addr,nsIn K mainGlobals C=!(!(.ref Ca))/\Cls K Ca/\PySem.W.makesIn K Ca=true/\PySem.W.keepIn K (.ref Ca)=true
section
variable{P:Program}{w:World}{K:Frag}{mg:Str->TZ}{base:Heap}
abbrev uP(N:T3)(st:Stmt)(k:Nat)(G:Gb):Sn:=⟨N,(aj st).names,k,G⟩
def pG{G:Gb}(g:GbOk P w K mg base G){N ps:T3}{st:Stmt}{k:Nat}{j:Str}{f:Addr}(S:FnScope N ps (aj st))(o:Value)(A:Around)(l:List Env)(s:Shared)(H:Hp)(E:XK)(p:Room k (A.deeper (envOfC j (aj st) s.heap.objs.size f o))):
  TnOk (jK rg P w K mg base N j (aj st) f o A l s H E).nox (uP N st k G) where
 s:=⟨g,rfl,S.nd,rfl,p,λ_ h=>h,λ_ h=>h,λ_ h=>.inr h,λ_ h=>h⟩
 fn:=λ_=>rfl
 nox:=rfl
 nm:=rfl
def  tN(n k:Nat)(N ps:T3)(st:Stmt)(G:Gb):TJ:=aR ps.length N.length (Ay n (uP N st k G) (aU st))
def  bQ(x:Str)(st:Stmt)(ps:T3):Prop:=∀(qual:Str)(kV doc pm:Value)(an:Option Addr)(cdv ct:Value)(us:TY),us.length=ps.length->bindArgs (PySem.W.fnOf x qual (cm st) (aU st) (aj st) .none kV doc pm an cdv ct) ⟨us,[]⟩=pure (ps.zip us)
def MW(g:GbOk P w K mg base G)(KX:K.In h)(U:h.Ns mainGlobals mg){st}(n k:Nat)(S:FnScope N ps (aj st))(b:bQ x st ps)(t:a8 K x st):Df P w K mg base x (k+1) (tN n k N ps st G):=by
 let⟨f,oc,od,r,I,kV,o,pm,j,ct,h1,h2,h3,p⟩:=t;have Fn:=kP h2 h3 p;refine⟨f,_,ps,PySem.W.mg_of KX U h1,p,Fn.binds λkV o pm r j ct C T=>b x kV o pm r j ct C T,Dq Fn S λj A l s H E J=>?_⟩;exact(qv n).2 _ _ (pG g S j A l s H E J) _
def FZ(g:GbOk P w K mg base G){st}(n k:Nat)(S:FnScope N ps (aj st))(b:bQ m st ps)(c:TCls K C)(t:oH K C m o st):Mf P w K mg base C m (k+1) (tN n k N ps st G):=by
 let⟨Ca,f,oc,od,J,U,kV,p,pm,j,ct,h0,hf,hi,h2,h3,r⟩:=t;let⟨Cb,I,cl,_,_⟩:=c.ex;rw[h0]at I;cases I;have Fn:=kP h2 h3 r;refine⟨Ca,f,_,ps,h0,cl,⟨hf,hi,r⟩,Fn.binds λkV p pm J j ct T hl=>b o kV p pm J j ct T hl,Dq Fn S λj A l s H E hr=>?_⟩;exact(qv n).2 _ _ (pG g S j A l s H E hr) _
def MX(g:GbOk P w K mg base G)(KX:K.In h)(hN:h.Ns mainGlobals mg){st}(n k:Nat)(J:Str->Bool)(S:FnScope N ps (aj st))(b:bQ "__init__" st ps)(c:TCls K C)(t:oH K C "__init__" o st)(I:∀f,J f=true->∀Ca,nsIn K mainGlobals C=!(!(.ref Ca))->NoAttr K Ca f)(hg:∀ds r,gg ds=!r->∀y,zO ps.length N.length (λy=>IW n (uP N st k G) y J (aU st)) y ds=!r):Mkf P w K mg base C (k+1) gg:=by
 let⟨Ca,f,oc,od,U,osl,kV,p,pm,j,ct,h0,hf,hi,h2,h3,h4⟩:=t;let⟨Cb,T,cl,mk,kp⟩:=c.ex;rw[h0]at T;cases T;have Fn:=kP h2 h3 h4;refine⟨Ca,f,_,ps,PySem.W.mg_of KX hN h0,h0,⟨mk,hf,hi,kp⟩,Fn.binds λkV p pm U j ct us hl=>b o kV p pm U j ct us hl,P4 Fn S hg λy j A l s H E hr=>?_⟩;exact MR (pG g S j A l s H E hr) cl (λf q=>I f q Ca h0) n _
end
def  Ov(K:Frag):Sp:=λvs H Q _=>∃(a:Addr)(ns:T5),vs=[.ref a]/\SqL K H a (ns.map V.int)/\ns.length<=63/\∀H',Q (.bl true) H'
def wd{K}:∀(ns:T5),IsL K H (ns.map D.int) (ns.map V.int)
 |[]=>rfl
 |n::ns=>⟨_,_,rfl,rfl,wd ns⟩
def IX{K}(F:FnOk P w K mg base rg k a fd ps (Ii K f))(p:∀g:T5,g.length<=63->gT (f [.lst (g.map D.int)])=!(.bl true)):
  FnOk P w K mg base rg k a fd ps (Ov K):=F.imp λC H Q E ⟨b,g,e,h,o,q⟩=>by
 let⟨⟨c,d⟩,t,e2⟩:=UD (p g o)
 cases e2
 refine⟨j3,[.lst _],_,λ_ h=>(nomatch h),?_,t,λv H' r=>?_⟩
 .rw[e,gy];exact⟨_,[],rfl,⟨b,_,rfl,h,wd g⟩,rfl⟩
 .let⟨I,A,_,_,_,_,_,j⟩:=r;have l:v=.bl true:=by
   cases c with
   |sh=>exact j.2
   |top=>let⟨_,_,_,z,_⟩:=j;cases z
   |deep=>exact j.1
  rw[l];exact q H'
def walkL{l:PySem.W.OpenLaw}{k:Nat}{q:Program}{loose:T3}{XP:(Str->TZ)->Heap->Prop}{YP:World->Heap->Prop}{d:DefRec}{K:Params->Frag}(hn:l.most=some 63)(hdf:d.params.defaults=[])(hr:Room k callerA)
  (hY:∀(w:World)(h:Heap),YP w h->(K w.params).In h)
  (F:∀(w:World)(mg:Str->TZ)(fa:Addr)(h:Heap),(K w.params).In h->h.Ns mainGlobals mg->mg d.name=!(.ref fa)->
   ∃fd:FuncData,(∀(s:Shared)(u:Value),BindsTo s fd ⟨[u],[]⟩ [("script",u)])/\∀base:Heap,(K w.params).In base->base.Ns mainGlobals mg->FnOk l.prog w (K w.params) mg base rg k fa fd ["script"] (Ov (K w.params))):
  PySem.W.WalkO q loose XP YP l.row.toRowW d [] (λf vs=>PySem.call f vs):=
 L2.walk_of hn (!4) hdf hr hY F (λ_ _ a ns hl _ hS=>⟨a,ns,rfl,hS,hl,λ_=>rfl⟩) λ_ _ _ _ _ z=>z
noncomputable def  addF(G:Gb)(x:Str)(k:Nat)(f:TJ):Gb:={G with fn:=λy=>if y=x then !(k,f)else G.fn y}
def  addM(G:Gb)(m C:Str)(k:Nat)(f:TJ):Gb:={G with mt:=λa b=>if a=m/\b=C then !(k,f)else G.mt a b}
def  addI(G:Gb)(C:Str)(k:Nat)(g:T9->Option (List (Str×D))):Gb:={G with ini:=λy=>if y=C then !(k,g)else G.ini y}
section
variable{P:Program}{w:World}{K:Frag}{mg:Str->TZ}{base:Heap}{G:Gb}
def GbOk.addF(g:GbOk P w K mg base G)(d:Df P w K mg base x k f):GbOk P w K mg base (addF G x k f):=⟨λy j h e=>by
 have l:(if y=x then !(k,f)else G.fn y)=!(j,h):=e;split at l
 .rename_i z;cases l;rw[z];exact d
 .exact g.fn y j h l,g.cn,g.no,g.fl,g.mt,g.ini⟩
def GbOk.addM(g:GbOk P w K mg base G)(d:Mf P w K mg base C m k f):GbOk P w K mg base (addM G m C k f):=⟨g.fn,g.cn,g.no,g.fl,λa b j h e=>by
 have l:(if a=m/\b=C then !(k,f)else G.mt a b)=!(j,h):=e;split at l
 .rename_i z;cases l;rw[z.1,z.2];exact d
 .exact g.mt a b j h l,g.ini⟩
def GbOk.addI(g:GbOk P w K mg base G)(d:Mkf P w K mg base C k o):GbOk P w K mg base (addI G C k o):=⟨g.fn,g.cn,g.no,g.fl,g.mt,λy j h e=>by
 have l:(if y=C then !(k,o)else G.ini y)=!(j,h):=e;split at l
 .rename_i z;cases l;rw[z];exact d
 .exact g.ini y j h l⟩
end
def evX_lf{R L Sp}(h:R (vw Y)=!d)(f:gq d=true):aY R L Sp Y=!((.deep,d),Y):=by
 unfold aY aS c8 frX aS kj;simp[h,f]
def evX_lfs{R L Sp}(h:R (vw Y)=!d)(f:gq d=false)(g:L (vw Y)=!ds)(j:ib ds=true):aY R L Sp Y=!((.deep,.lst ds),Y):=by
 unfold aY aS c8 frX aS kj ic;simp[h,g,f,j]
def evX_call{R L Sp}(h:R (vw Y)=!d)(f:gq d=false)(j:L (vw Y)=none)(g:Sp (vw Y)=!e):aY R L Sp Y=!((.deep,e),Y):=by
 unfold aY aS c8 frX aS kj ic;simp[h,j,f,g]
def evX_sh{R L Sp}(h:R (vw Y)=!d)(f:gq d=false)(l:L (vw Y)=none)(j:Sp (vw Y)=none)(g:L (eg Y)=none)(h2:R (eg Y)=!d):aY R L Sp Y=!((.sh,d),Y):=by
 unfold aY aS c8 km ql frX aS kj ic;grind
def seqF_nx(h:F Y=!(.nx Y')):af F G Y=G Y':=by unfold af;rw[h];rfl
def aw(h:F Y=!(.rt s)):af F G Y=!(.rt s):=by unfold af;rw[h];rfl
def bj(h:g Y=!(s,Y')):aD i g Y=!(.nx (Y'.set i (!s))):=by unfold aD;rw[h];rfl
def aV(h:g Y=!(s,Y')):cG g Y=!(.rt s):=by unfold cG;rw[h];rfl
def ifS_t(h:c (vw Y)=!true):cu c F G Y=F Y:=by unfold cu;rw[h];rfl
def aW(h:c (vw Y)=!false):cu c F G Y=G Y:=by unfold cu;rw[h];rfl
def sE{step}:∀(ds:T9)(I:Nat->Ev->Prop)(Y:Ev),I 0 Y->(∀(i:Nat)(d:D)(Y:Ev),ds[i]?=!d->I i Y->∃Y',step d Y=!(.nx Y')/\I (i+1) Y')->∃Y',jg step ds Y=!(.nx Y')/\I ds.length Y'
 |[],I,Y,h0,_=>⟨Y,rfl,h0⟩
 |d::ds,I,Y,h0,hs=>by
  let⟨Y1,e1,i1⟩:=hs 0 d Y rfl h0;let⟨Y2,e2,i2⟩:=sE ds (λi=>I (i+1)) Y1 i1 λi d' Y' h hi=>hs (i+1) d' Y' (by simpa using h) hi;refine⟨Y2,?_,i2⟩;unfold jg;rw[e1];exact e2
def eD(I:Nat->Ev->Prop)(j:J (eg Y)=!ds)(h0:I 0 Y)(g:∀(i:Nat)(d:D)(Y:Ev),ds[i]?=!d->I i Y->∃Y',(tg d Y).bind F=!(.nx Y')/\I (i+1) Y'):
  ∃Y',lh J tg F Y=!(.nx Y')/\I ds.length Y':=by
 let⟨Y',e,i⟩:=sE (step:=ig tg F) ds I Y h0 g
 refine⟨Y',?_,i⟩
 unfold lh aS xA
 grind
section
variable{Y:Vv}{a b c:TL}{xs:TK}{i:Int}{n:Nat}
@[simp]def cI_a:cI i Y=!(.int i):=rfl
@[simp]def Tn{b}:cB b Y=!(.bl b):=rfl
@[simp]def To:cN Y=some .non:=rfl
@[simp]def cS_a{x:Str}:cS x Y=!(.str x):=rfl
@[simp]def Az:cD d Y=!d:=rfl
@[simp]def MY{n}:cT n Y=!(.ty n):=rfl
@[simp]def RO:(noV Y:Option α)=none:=rfl
@[simp]def va_a:va n Y=cy Y n:=rfl
@[simp]def shAt_0{d:Ub}{r:Vv}:cy (d::r) 0=d:=by cases d<;>rfl
@[simp]def shAt_s{d:Ub}{r:Vv}{n:Nat}:cy (d::r) (n+1)=cy r n:=by unfold cy;simp
@[simp]def shAt_1{d e:Ub}{r:Vv}:cy (d::e::r) 1=e:=by cases e<;>rfl
@[simp]def bin2_a{g}:bin2 g a b Y=(a Y).bind λx=>(b Y).bind λy=>g x y:=rfl
@[simp]def F0:ngF a Y=(a Y).bind zt:=rfl
@[simp]def nilX_a:ag Y=![]:=rfl
@[simp]def consX_a:aa a xs Y=(a Y).bind λd=>(xs Y).bind λr=>!(d::r):=rfl
@[simp]def jz:dU xs Y=(bw (xs Y)).bind λds=>!(.tup ds):=rfl
@[simp]def we:i9 fl m a Y=(a Y).bind (ji fl m):=rfl
@[simp]def wg:noP Y=!none:=rfl
@[simp]def mw:partF a Y=(a Y).bind λd=>(kS d).bind λi=>!(!i):=rfl
@[simp]def lsF_a{L}:lsF L Y=(L Y).map D.lst:=rfl
def nq{f g:α->Option j}(h:g x=none):aS f g x=f x:=by
 unfold aS;cases f x<;>simp[h]
@[simp]def clF_a{f}:aL f xs Y=(xs Y).bind λds=>gT (f ds):=nq rfl
@[simp]def biF_a{f}:aT f xs Y=(xs Y).bind f:=nq rfl
@[simp]def wh:MU C g xs Y=(xs Y).bind λds=>uA C (g ds):=nq rfl
@[simp]def RP{mt k m}:KZ a xs mt k m Y=gT ((a Y).bind λd=>(xs Y).bind λas=>pA mt k m d as):=rfl
@[simp]def dpF_a:dpF xs Y=bw (xs Y):=rfl
@[simp]def F3:xZ xs Y=(xs Y).bind o9:=rfl
@[simp]def F4:Ot xs Y=((xs Y).bind o9).map D.lst:=by
 unfold Ot aS;have:((xs Y).bind eR)=none:=by cases xs Y<;>rfl
 simp[this]
@[simp]def trF_a:dJ a Y=(a Y).bind rR:=rfl
@[simp]def tQ_a:tQ Y=!true:=rfl
@[simp]def fCl_a{f}:Ct f xs Y=(xs Y).bind λds=>se (f ds):=rfl
@[simp]def RQ:pF xs Y=none:=by unfold pF eR;cases xs Y<;>rfl
@[simp]def MZ:qx F Y=(bw (F Y)).bind λds=>!(.lst ds):=rfl
@[simp]def RS:yw F Y=(bw (F Y)).bind λds=>!(.tup ds):=rfl
@[simp]def b9:jX noV R Y=(R Y).bind seqD:=rfl
def iz(h:(xs Y).bind rV=!ds):jX (MV xs) R Y=!ds:=by
 unfold jX aS MV;simp[h]
def nr(h:(xs Y).bind xw=!ds):jX (qw xs) R Y=!ds:=by
 unfold jX aS qw;simp[h]
@[simp]def uQ:mY a b Y=(a Y).bind λx=>x.asB.bind λc=>if c=true then b Y else !(.bl false):=rfl
@[simp]def RT:PH a b Y=(a Y).bind λx=>x.asB.bind λc=>if c=true then !(.bl true)else b Y:=rfl
@[simp]def Qy:C1 a Y=(a Y).bind λx=>x.asB.bind λc=>!(.bl (not c)):=rfl
@[simp]def andQ_a{p q:TN}:kh p q Y=(p Y).bind λc=>if c=true then q Y else !false:=rfl
@[simp]def sF:o8 p q Y=(p Y).bind λc=>if c=true then !true else q Y:=rfl
@[simp]def notQ_a{p:TN}:b7 p Y=(p Y).map (not ·):=rfl
@[simp]def F5:Hy p a b Y=(p Y).bind λc=>if c=true then a Y else b Y:=rfl
@[simp]def testB_a:ao a Y=(a Y).bind D.asB:=rfl
@[simp]def M0:dW g g' a b c Y=(a Y).bind λx=>(b Y).bind λy=>(g x y).bind λz=>z.asB.bind λk=>if k=true then(c Y).bind λw=>g' y w else !(.bl false):=rfl
end
@[simp]def asB_bl(b:Bool):D.asB (.bl b)=!b:=rfl
@[simp]def valO_some(s:Sl):gT (!s)=!s.2:=rfl
@[simp]def IY(d:D):se (!(.deep,d))=!d:=rfl
@[simp]def addD_ii(i j:Int):ay (.int i) (.int j)=!(.int (i+j)):=rfl
@[simp]def subD_ii(i j:Int):bt (.int i) (.int j)=!(.int (i-j)):=rfl
@[simp]def Qz(i j:Int):Hr (.int i) (.int j)=!(.bl (decide (i<j))):=rfl
@[simp]def QA(i j:Int):l5 (.int i) (.int j)=!(.bl (decide (i<=j))):=rfl
@[simp]def nt(i j:Int):uj (.int i) (.int j)=!(.bl (decide (j<i))):=rfl
@[simp]def QB(i j:Int):LH (.int i) (.int j)=!(.bl (decide (j<=i))):=rfl
@[simp]def AA(i:Int):zt (.int i)=!(.int (-i)):=rfl
@[simp]def iA(i:Int):kS (.int i)=!i:=rfl
@[simp]def seqD_l(ds:T9):seqD (.lst ds)=!ds:=rfl
@[simp]def QC(ds:T9):seqD (.tup ds)=!ds:=rfl
@[simp]def bG(d:D):cb [d]=(seqD d).bind λds=>!(.int ds.length):=rfl
@[simp]def wj(d:D):o9 [d]=seqD d:=rfl
@[simp]def nu(d:D):bO [d]=(seqD d).bind λds=>!(.tup ds):=rfl
@[simp]def QD(i j:Int):HV [.int i,.int j]=!(.int (if j>i then j else i)):=rfl
@[simp]def QE(i j:Int):HW [.int i,.int j]=!(.int (if j<i then j else i)):=rfl
@[simp]def truD_bl(b:Bool):rR (.bl b)=!b:=rfl
def wk(h:CMul i j):cF (.int i) (.int j)=!(.int (i*j)):=by unfold cF;simp[h]
def AB(h:-18446744073709551616<i)(h2:i<18446744073709551616):cF (.int i) (.int j)=!(.int (i*j)):=wk (.inl ⟨by omega,by omega⟩)
def IZ(h:-18446744073709551616<j)(h2:j<18446744073709551616):cF (.int i) (.int j)=!(.int (i*j)):=wk (.inr ⟨by omega,by omega⟩)
def dG{i j:Int}(h:0<j)(h2:j<1073741824):bi (.int i) (.int j)=!(.int (i/j)):=by unfold bi;simp[xa,h,h2]
def bC(h:0<j):aI (.int i) (.int j)=!(.int (i%j)):=by unfold aI;simp[h]
@[simp]def D0(i:Int):gq (.int i)=true:=rfl
@[simp]def QF(b:Bool):gq (.bl b)=true:=rfl
@[simp]def Ow(x:Str):gq (.str x)=true:=rfl
@[simp]def Ox:gq .non=true:=rfl
@[simp]def Oy(ds:T9):gq (.lst ds)=false:=rfl
@[simp]def Oz(ds:T9):gq (.tup ds)=ib ds:=rfl
@[simp]def OA:ib []=true:=rfl
@[simp]def AC(d:D)(ds:T9):ib (d::ds)=(gq d&&ib ds):=rfl
def dc:∀{ds:T9},(∀d∈ds,gq d=true)->ib ds=true
 |[],_=>rfl
 |d::ds,h=>by simp[h d mem_cons_self,dc λe he=>h e (mem_cons_of_mem _ he)]
@[simp]def K0:bw none=none:=rfl
def cR(h:ds.length<big):bw (!ds)=!ds:=by unfold bw;simp[h]
@[simp]def QG:bw (![])=![]:=cR (!4)
@[simp]def capL_1(a:D):bw (![a])=![a]:=cR (show 1<big by decide)
@[simp]def capL_2(a b:D):bw (![a,b])=![a,b]:=cR (show 2<big by decide)
@[simp]def AD(a b c d e:D):bw (![a,b,c,d,e])=![a,b,c,d,e]:=cR (show 5<big by decide)
@[simp]def QH(a b c d e f g h:D):bw (![a,b,c,d,e,f,g,h])=![a,b,c,d,e,f,g,h]:=cR (show 8<big by decide)
@[simp]def F6(d c:D):fN [d,c]=(cV d).bind λT=>(clsD c).bind λns=>!(.bl (ns.any (isI T))):=rfl
@[simp]def OB:clsD (.ty "int")=!["int"]:=by rfl
@[simp]def M1:clsD (.ty "bool")=!["bool"]:=by rfl
@[simp]def OC:clsD (.ty "str")=!["str"]:=by rfl
@[simp]def M2:clsD (.ty "list")=!["list"]:=by rfl
@[simp]def K1:clsD (.ty "tuple")=!["tuple"]:=by rfl
@[simp]def AE:clsD (.tup [.ty "list",.ty "tuple"])=!["list","tuple"]:=by rfl
@[simp]def QI(i:Int):cV (.int i)=some "int":=rfl
@[simp]def RU(i:Bool):cV (.bl i)=some "bool":=rfl
@[simp]def QJ(i:Str):cV (.str i)=some "str":=rfl
@[simp]def QK(i:T9):cV (.tup i)=some "tuple":=rfl
@[simp]def QL(i:T9):cV (.lst i)=some "list":=rfl
@[simp]def QM:isI "int" "int"=true:=by decide
@[simp]def QN:isI "int" "bool"=false:=by decide
@[simp]def QO:isI "bool" "bool"=true:=by decide
@[simp]def QP:isI "bool" "int"=true:=by decide
@[simp]def QQ:isI "tuple" "list"=false:=by decide
@[simp]def QR:isI "tuple" "tuple"=true:=by decide
@[simp]def AF:isI "list" "list"=true:=by decide
@[simp]def QS:isI "list" "tuple"=false:=by decide
@[simp]def QT:isI "str" "str"=true:=by decide
@[simp]def iB(neg:Bool)(i j:Int):aE neg (.int i) (.int j)=!(.bl (if neg then not (decide (i=j))else decide (i=j))):=by
 unfold aE jx;have:decide (l6 (.int i)=l6 (.int j))=decide (i=j):=by
  show decide (V.int i=V.int j)=_;by_cases h:i=j<;>simp[h]
 rw[this];rfl
@[simp]def AG(neg:Bool)(i j:Str):aE neg (.str i) (.str j)=!(.bl (if neg then not (decide (i=j))else decide (i=j))):=by
 unfold aE jx;have:decide (l6 (.str i)=l6 (.str j))=decide (i=j):=by
  show decide (V.str i=V.str j)=_;by_cases h:i=j<;>simp[h]
 rw[this];rfl
@[simp]def eq_bb(neg:Bool)(i j:Bool):aE neg (.bl i) (.bl j)=!(.bl (if neg then not (decide (i=j))else decide (i=j))):=by
 unfold aE jx;have:decide (l6 (.bl i)=l6 (.bl j))=decide (i=j):=by
  show decide (V.bl i=V.bl j)=_;by_cases h:i=j<;>simp[h]
 rw[this];rfl
@[simp]def ix_l(ds:T9)(i:Int):ixD (.lst ds) (.int i)=mP ds i:=rfl
@[simp]def ix_t(ds:T9)(i:Int):ixD (.tup ds) (.int i)=mP ds i:=rfl
def eS{d:D}(h:0<=i)(h2:ds[i.toNat]?=!d):mP ds i=!d:=by
 have g:=(Uk.mp h2).1;unfold mP re;grind
@[simp]def nw(d:D)(ds:T9):mP (d::ds) 0=!d:=eS (!3) rfl
@[simp]def wm(c d:D)(ds:T9):mP (c::d::ds) 1=!d:=eS (!3) rfl
@[simp]def vw_nil:vw []=[]:=rfl
@[simp]def vw_some(s:Sl)(Y:Ev):vw (some s::Y)=some s.2::vw Y:=rfl
@[simp]def vw_none(Y:Ev):vw (none::Y)=none::vw Y:=rfl
@[simp]def gB:eg []=[]:=rfl
@[simp]def iC(d:D)(Y:Ev):eg (some (.sh,d)::Y)=some d::eg Y:=rfl
@[simp]def eU(Y:Ev):eg (none::Y)=none::eg Y:=rfl
@[simp]def eV(d:D)(Y:Ev):eg (some (.deep,d)::Y)=(if gq d=true then !d else none)::eg Y:=rfl
@[simp]def OD(d:D)(Y:Ev):eg (some (.top,d)::Y)=(if gq d=true then !d else none)::eg Y:=rfl
@[simp]def wipe_nil{α:Type}(σ:List (Option α)):wipe [] σ=σ:=rfl
@[simp]def wipe_cons{α:Type}(k:Nat)(ks:T1)(σ:List (Option α)):wipe (k::ks) σ=wipe ks (σ.set k none):=rfl
@[simp]def gNm_a(i:Nat)(d:D)(Y:Vv):aM i d Y=!(Y.set i (!d)):=rfl
@[simp]def M3(n:Nat)(gs)(ds:T9)(Y:Vv):iZ n gs (.tup ds) Y=if ds.length=n then gs ds Y else none:=rfl
@[simp]def AH(g gs)(d:D)(ds:T9)(Y:Vv):ai g gs (d::ds) Y=(g d Y).bind λY1=>gs ds Y1:=rfl
@[simp]def D1(Y:Vv):bc [] Y=!Y:=rfl
@[simp]def RV(i:Nat)(d:D)(Y:Ev):gz i d Y=!(Y.set i (!(.sh,d))):=rfl
@[simp]def RW(n:Nat)(gs)(ds:T9)(Y:Ev):Cr n gs (.tup ds) Y=if ds.length=n then gs ds Y else none:=rfl
@[simp]def OE(g gs)(d:D)(ds:T9)(Y:Ev):eh g gs (d::ds) Y=(g d Y).bind λY1=>gs ds Y1:=rfl
@[simp]def QU(Y:Ev):oF [] Y=!Y:=rfl
@[simp]def stepF_a(g ft fe)(Y:Vv)(d:D):jw g ft fe Y d=(g d Y).bind λY1=>(ft Y1).bind λc=>if c=true then(fe Y1).bind λy=>!(!y)else !none:=rfl
def aq(g:ds.length=n)(h:F (ar m ds)=!(.rt s)):aR n m F ds=!s:=by
 unfold aR;rw[if_pos g,h];rfl
def eW(g:ds.length=n)(h:F (ar m ds)=!(.nx Y)):aR n m F ds=!(.deep,.non):=by
 unfold aR;rw[if_pos g,h];rfl
@[simp]def RX(Y:Ev):aF Y=!(.nx Y):=rfl
def ny{β:Type}{step}{mk out}:∀(xs:List β),(∀x∈xs,step (mk x)=!(!(out x)))->jv step (xs.map mk)=!(xs.map out)
 |[],_=>rfl
 |x::xs,h=>by
  rw[List.map_cons];unfold jv;rw[h x mem_cons_self,ny xs λe he=>h e (mem_cons_of_mem _ he)];rfl
def aB{j:Type}{Y:Vv}{xs:List j}{mk out}(o:J Y=!(xs.map mk))(h:∀x∈xs,jw g p r (wipe ks Y) (mk x)=!(!(out x)))(l:xs.length<big):ah ks J g p r Y=!(xs.map out):=by
 unfold ah;rw[o];simp only[Option.bind_some];rw[ny xs h];unfold bw;simp[l]
def jA{β:Type}{step}{mk out}{p:β->Bool}:∀(xs:List β),(∀x∈xs,step (mk x)=!(if p x then !(out x)else none))->jv step (xs.map mk)=!((xs.filter p).map out)
 |[],_=>rfl
 |x::xs,h=>by
  rw[List.map_cons];unfold jv;rw[h x mem_cons_self,jA xs λe he=>h e (mem_cons_of_mem _ he)];cases hp:p x<;>simp[hp]
def oI{j:Type}{Y:Vv}{xs:List j}{mk out}{p:j->Bool}(l:J Y=!(xs.map mk))(h:∀x∈xs,jw g o r (wipe ks Y) (mk x)=!(if p x then !(out x)else none))(t:xs.length<big):ah ks J g o r Y=!((xs.filter p).map out):=by
 unfold ah;rw[l];simp only[Option.bind_some];rw[jA xs h];unfold bw;grind
def nz:∀bs:List Bool,ul (bs.map D.bl)=!bs
 |[]=>rfl
 |b::bs=>by
  rw[List.map_cons];unfold ul;rw[nz bs];rfl
def cH{g:Type}(xs:List g)(p:g->Bool):kQ [.lst (xs.map λx=>.bl (p x))]=!(.bl (xs.all p)):=by
 have e:xs.map (λx=>D.bl (p x))=(xs.map p).map D.bl:=by rw[List.map_map];rfl
 rw[e];unfold kQ rh;simp only[gS,Option.bind_some];rw[nz];simp[List.all_map];rfl
def AI(h:-1000000<j)(h2:j<1000000):C7 j:=by
 exact⟨by omega,by omega⟩
def wn(hj:C7 j):rV [.int j]=!(kR 0 j.toNat):=by
 unfold rV rh;simp_all
def qy{n:Nat}(h:n<1000000):C7 (n:Int):=AI (!3) (!3)
def qz:kR 0 n=(List.range n).map λ(i:Nat)=>D.int (i:Int):=by simp[kR]
def cJ{n:Nat}(h:n<1000000):rV [.int (n:Int)]=!((List.range n).map λ(i:Nat)=>D.int (i:Int)):=by
 rw[wn (qy h),Int.toNat_natCast,qz]
def AJ{j:Int}(h0:0<=j)(h:j<1000000):rV [.int j]=!((List.range j.toNat).map λ(i:Nat)=>D.int (i:Int)):=by
 rw[wn (AI (!3) h),qz]
def D2{g:Type}{xs:List g}{mk:g->D}{i:Int}(h:0<=i)(h2:i<xs.length):mP (xs.map mk) i=!(mk (xs[i.toNat]'(!3))):=eS h (by
 have:i.toNat<xs.length:=by omega
 simp[this])
def atI_mapN{g:Type}{xs:List g}{mk:g->D}{i:Nat}{x}(h:xs[i]?=!x):mP (xs.map mk) (i:Int)=!(mk x):=by
 exact eS (!3) (by simp[h])
def eX(h1:seqD a=!xs)(h2:seqD b=!ys):xw [a,b]=!(ia xs ys):=by
 unfold xw KW;simp[h1,h2]
def eY{l j:Type}{f}{g}(xs:List l)(ys:List j):ia (xs.map f) (ys.map g)=(xs.zip ys).map λp=>.tup [f p.1,g p.2]:=by
 unfold ia;rw[List.zip_map,List.map_map];rfl
def li(h0:jh Y i=!(c0,ds0))(h:g Y=!((.deep,d),Y'))(j:jh Y' i=!(.deep,ds))(l:ds.length+1<big):m9 i g Y=!(.nx (Y'.set i (!(.deep,.lst (ds++[d]))))):=by
 unfold m9;rw[h0];simp only[Option.bind_some,h,j];rw[if_pos l];rfl
def pH(h0:jh Y i=!(c0,ds0))(h:g Y=!((.deep,d),Y'))(j:jh Y' i=!(.deep,ds))(l:ds.length+1<big):xX i k g R Y=!(.nx (Y'.set i (!(.deep,.lst (ds++[d]))))):=by
 unfold xX aS;rw[li h0 h j l]
def iD{k:Int}(h:g Y=!((.deep,d),Y'))(j:jh Y' i=!(.deep,ds))(o:p (vw Y')=!(.int k))(h0:0<=k)(l:k<ds.length):cg i p g Y=!(.nx (Y'.set i (!(.deep,.lst (ds.set k.toNat d))))):=by
 unfold cg;rw[h];simp only[Option.bind_some,j,o];have:re ds.length k=!k.toNat:=by unfold re;rw[if_pos h0,if_pos l]
 rw[this];rfl
def  sG:TM:=(af (cG (aY (mY (aT fN (aa (va 0) (aa (cT "int") ag))) (mY (C1 (aT fN (aa (va 0) (aa (cT "bool") ag)))) (dW l5 l5 (va 1) (va 0) (va 2)))) noV noV)) aF)
def  lR(aJ:TJ):TM:=(af (cu (o8 (b7 (dJ (aT fN (aa (va 0) (aa (cT "tuple") ag))))) (ao (bin2 (aE true) (aT cb (aa (va 0) ag)) (cI 2)))) (af (cG (aY (cB false) noV noV)) aF) aF) (af (cG (aY (mY (bin2 inD (bin2 ixD (va 0) (cI 0)) (cD (.tup [(.str "queue"),(.str "pile")]))) (aL aJ (aa (bin2 ixD (va 0) (cI 1)) (aa (cI 0) (aa (cD (.int 9)) ag))))) noV noV)) aF))
def  pI(dN:TJ):TM:=(af (cu (o8 (b7 (dJ (aT fN (aa (va 0) (aa (dU (aa (cT "list") (aa (cT "tuple") ag))) ag))))) (b7 (ao (dW l5 l5 (cI 1) (aT cb (aa (va 0) ag)) (cD (.int 6)))))) (af (cG (aY (cB false) noV noV)) aF) aF) (af (cG (aY (aT kQ (aa (lsF (ah [1] (jX noV (va 0)) (aM 1) tQ (aL dN (aa (va 1) ag)))) ag)) noV (pF (aa (lsF (ah [1] (jX noV (va 0)) (aM 1) tQ (aL dN (aa (va 1) ag)))) ag)))) aF))
def  uR:TM:=(af (aD 1 (aY (cI 1) noV noV)) (af (lh (jX noV (va 0)) (gz 2) (af (aD 1 (aY (bin2 cF (va 1) (aT cb (aa (va 2) ag))) noV noV)) aF)) (af (yy 1) aF)))
def  qA(bA:TJ)(je:TJ):TM:=(af (cu (o8 (b7 (dJ (aT fN (aa (va 0) (aa (dU (aa (cT "list") (aa (cT "tuple") ag))) ag))))) (ao (bin2 uj (aT cb (aa (va 0) ag)) (cD (.int 6))))) (af (cG (aY (cB false) noV noV)) aF) aF) (af (cG (aY (mY (aT kQ (aa (lsF (ah [1] (jX noV (va 0)) (aM 1) tQ (aL je (aa (va 1) ag)))) ag)) (bin2 l5 (aL bA (aa (va 0) ag)) (cD (.int 1000)))) noV noV)) aF))
def  nB(bR:TJ)(y:Addr):Dv:=(Oo (cu (b7 (dJ (aL bR (aa (va 1) ag)))) (af noO' aF) aF) (Dy y 0 "passes" (aY (aT bO (aa (lsF (ah [2] (jX noV (va 1)) (aM 2) tQ (aT bO (aa (va 2) ag)))) ag)) noV (pF (aa (lsF (ah [2] (jX noV (va 1)) (aM 2) tQ (aT bO (aa (va 2) ag)))) ag))) Dw))
def  lS(fl:Str->Str->Bool):TM:=(af (cG (aY (aT cb (aa (i9 fl "passes" (va 0)) ag)) noV (pF (aa (i9 fl "passes" (va 0)) ag)))) aF)
def  ya(mt_many:MT)(kk:Nat)(aJ:TJ):TM:=(af (cG (aY (aL aJ (aa (va 1) (aa (cI 0) (aa (KZ (va 0) ag mt_many kk "many") ag)))) noV (Ct aJ (aa (va 1) (aa (cI 0) (aa (KZ (va 0) ag mt_many kk "many") ag)))))) aF)
def  lj(aJ:TJ)(fl:Str->Str->Bool):TM:=(af (aD 3 (aY (!6) (kY (i9 fl "passes" (va 0)) (partF (va 1)) noP) noV)) (af (cu (o8 (b7 (dJ (aT fN (aa (va 2) (aa (cT "tuple") ag))))) (ao (bin2 (aE true) (aT cb (aa (va 2) ag)) (aT cb (aa (va 3) ag))))) (af (cG (aY (cB false) noV noV)) aF) aF) (af (cG (aY (aT kQ (aa (lsF (ah [4,5] (jX (qw (aa (va 2) (aa (va 3) ag))) (aT eR (aa (va 2) (aa (va 3) ag)))) (iZ 2 (ai (aM 4) (ai (aM 5) bc))) tQ (aL aJ (aa (va 4) (aa (cI 0) (aa (bin2 bt (aT cb (aa (va 5) ag)) (cI 1)) ag)))))) ag)) noV (pF (aa (lsF (ah [4,5] (jX (qw (aa (va 2) (aa (va 3) ag))) (aT eR (aa (va 2) (aa (va 3) ag)))) (iZ 2 (ai (aM 4) (ai (aM 5) bc))) tQ (aL aJ (aa (va 4) (aa (cI 0) (aa (bin2 bt (aT cb (aa (va 5) ag)) (cI 1)) ag)))))) ag)))) aF)))
def  nC(eI:TJ):TM:=(af (cu (b7 (dJ (aL eI (aa (va 0) (aa (va 1) ag))))) (af noO' aF) aF) aF)
def  nF(dE:TJ)(bJ:TJ):TM:=(af (bz (aL bJ (aa (va 0) (aa (va 1) ag)))) (af (cu (b7 (dJ (aL dE (aa (va 0) (aa (va 1) (aa (va 2) ag)))))) (af noO' aF) aF) aF))
def  qB(fl:Str->Str->Bool):TM:=(af (cG (aY (lsF (ah [3,4] (jX (qw (aa (va 2) (aa (!6) ag))) (aT eR (aa (va 2) (aa (!6) ag)))) (iZ 2 (ai (aM 3) (ai (aM 4) bc))) tQ (bin2 ixD (va 4) (va 3)))) (ah [3,4] (jX (qw (aa (va 2) (aa (!6) ag))) (aT eR (aa (va 2) (aa (!6) ag)))) (iZ 2 (ai (aM 3) (ai (aM 4) bc))) tQ (bin2 ixD (va 4) (va 3))) (x9 [3,4] (jX (qw (aa (va 2) (aa (!6) ag))) (aT eR (aa (va 2) (aa (!6) ag)))) (iZ 2 (ai (aM 3) (ai (aM 4) bc))) tQ (frX (bin2 ixD (va 4) (va 3)) noV noV)))) aF)
def  I0:TM:=(af (cG (aY (Hy (ao (bin2 (aE false) (va 0) (cS "queue"))) (va 2) (bin2 bt (bin2 bt (va 1) (cI 1)) (va 2))) noV noV)) aF)
def  lT(fl:Str->Str->Bool)(j2:TJ)(bA:TJ)(bb:TJ):TM:=(af (bz (aL bb (aa (va 0) (aa (va 1) (aa (va 2) ag))))) (af (aD 3 (aY (aL bA (aa (slF (i9 fl "passes" (va 0)) noP (partF (va 1))) ag)) noV (Ct bA (aa (slF (i9 fl "passes" (va 0)) noP (partF (va 1))) ag)))) (af (aD 4 (aY (bin2 bt (va 3) (cI 1)) noV noV)) (af (lh (jX (qw (aa (va 2) (aa (!6) ag))) (aT eR (aa (va 2) (aa (!6) ag)))) (Cr 2 (eh (gz 5) (eh (gz 6) oF))) (af (aD 4 (aY (bin2 ay (bin2 cF (va 5) (va 3)) (aL j2 (aa (bin2 ixD (bin2 ixD (va 6) (va 5)) (cI 0)) (aa (va 3) (aa (va 4) ag))))) (catF (aS (bin2 cF (va 5) (va 3)) (lsF noV)) (aL j2 (aa (bin2 ixD (bin2 ixD (va 6) (va 5)) (cI 0)) (aa (va 3) (aa (va 4) ag))))) noV)) (af (aD 3 (aY (bin2 cF (va 3) (aT cb (aa (va 6) ag))) noV noV)) aF))) (af (yy 4) aF)))))
def  AK(bn:TJ)(bb:TJ):TM:=(af (bz (aL bb (aa (va 0) (aa (va 1) (aa (va 2) ag))))) (af (aD 3 (aY (lsF (ah [4,5] (jX noV (aL bn (aa (va 0) (aa (va 1) (aa (va 2) ag))))) (iZ 2 (ai (aM 4) (ai (aM 5) bc))) (ao (bin2 (aE false) (va 4) (cS "pile"))) (va 4))) (ah [4,5] (jX noV (aL bn (aa (va 0) (aa (va 1) (aa (va 2) ag))))) (iZ 2 (ai (aM 4) (ai (aM 5) bc))) (ao (bin2 (aE false) (va 4) (cS "pile"))) (va 4)) (x9 [4,5] (jX noV (aL bn (aa (va 0) (aa (va 1) (aa (va 2) ag))))) (iZ 2 (ai (aM 4) (ai (aM 5) bc))) (ao (bin2 (aE false) (va 4) (cS "pile"))) (frX (va 4) noV noV)))) (af (cG (aY (Hy (ao (bin2 (aE false) (bin2 aI (aT cb (aa (va 3) ag)) (cI 2)) (cI 0))) (cI 1) (ngF (cI 1))) noV noV)) aF)))
def  nH:TM:=(af (cu (ao (bin2 Hr (va 1) (aT cb (aa (va 0) ag)))) (af (cG (aY (bin2 ixD (va 0) (va 1)) noV noV)) aF) aF) (af (cG (aY (cI 0) noV noV)) aF))
def  sH:TM:=(af (lh (jX (MV (aa (va 1) ag)) (aT eR (aa (va 1) ag))) (gz 2) (af (aD 0 (aY (bin2 bi (va 0) (cI 1000000)) noV noV)) aF)) (af (cG (aY (bin2 aI (va 0) (cI 1000000)) noV noV)) aF))
def  yb(aJ:TJ):TM:=(af (cG (aY (aL aJ (aa (va 0) (aa (cI 1) (aa (cD (.int 9)) ag)))) noV (Ct aJ (aa (va 0) (aa (cI 1) (aa (cD (.int 9)) ag)))))) aF)
def  Ja(bn:TJ)(eH:TJ)(bb:TJ):TM:=(af (bz (aL bb (aa (va 0) (aa (va 1) (aa (va 2) ag))))) (af (cu (b7 (dJ (aL eH (aa (va 3) ag)))) (af noO' aF) aF) (af (cG (aY (aT kQ (aa (lsF (ah [4,5] (jX noV (aL bn (aa (va 0) (aa (va 1) (aa (va 2) ag))))) (iZ 2 (ai (aM 4) (ai (aM 5) bc))) tQ (bin2 l5 (va 3) (va 5)))) ag)) noV (pF (aa (lsF (ah [4,5] (jX noV (aL bn (aa (va 0) (aa (va 1) (aa (va 2) ag))))) (iZ 2 (ai (aM 4) (ai (aM 5) bc))) tQ (bin2 l5 (va 3) (va 5)))) ag)))) aF)))
abbrev Pk:=Bool×Int
abbrev _root_.TR:=List (List Pk)
noncomputable def  kd(q:Bool):Str:=if q then"queue"else"pile"
def  dY(p:Pk):D:=.tup [.str (kd p.1),.int p.2]
noncomputable def  Jb(p:Pk):Bool:=decide (0<=p.2)&&decide (p.2<=9)
noncomputable def  sq(w:Bool)(ds:T9):D:=if w then .lst ds else .tup ds
@[simp]def eE(w:Bool)(ds:T9):seqD (sq w ds)=!ds:=by cases w<;>rfl
@[simp]def QV(w:Bool)(ds:T9):fN [sq w ds,.tup [.ty "list",.ty "tuple"]]=!(.bl true):=by cases w<;>simp[sq]
def M4(p:Pk):gq (dY p)=true:=rfl
def AL(ps:List Pk):ib (ps.map dY)=true:=dc λd hd=>by
 let⟨p,_,rfl⟩:=Ut.mp hd;exact M4 p
def  bH(ps:List Pk):D:=.tup (ps.map dY)
def F7(ps:List Pk):gq (bH ps)=true:=AL ps
def nI(pss:TR):ib (pss.map bH)=true:=dc λd hd=>by
 let⟨p,_,rfl⟩:=Ut.mp hd;exact F7 p
def  dH(f:TJ):Prop:=∀v a b:Int,f [.int v,.int a,.int b]=!(.deep,.bl (decide (a<=v)&&decide (v<=b)))
def AM:dH (aR 3 3 sG):=λv a b=>by
 refine aq rfl ?_;refine aw (aV (evX_lf ?_ rfl));simp[ar];grind
def  wq(f:TJ):Prop:=∀v:Int,f [.int v]=!(.deep,.bl (decide (1<=v)&&decide (v<=9)))
def Jc(g:dH w):wq (aR 1 1 (yb w)):=λv=>by
 refine aq rfl ?_;refine aw (aV (evX_lf ?_ rfl));simp[ar,g v 1 9]
def M5(q:Bool):inD (.str (kd q)) (.tup [.str "queue",.str "pile"])=!(.bl true):=by
 cases q<;>kernel_rfl
def  qC(f:TJ):Prop:=∀p:Pk,f [dY p]=!(.deep,.bl (Jb p))
def AN(g:dH w):qC (aR 1 1 (lR w)):=λp=>by
 refine aq rfl ?_;unfold lR dY;refine(seqF_nx (Y':=ar 1 [.tup [.str (kd p.1),.int p.2]]) ?_).trans ?_
 .refine(aW ?_).trans rfl;simp[ar]
 .refine aw (aV (evX_lf ?_ rfl));simp[ar,g p.2 0 9,M5,Jb]
def  D3(ps:List Pk):Bool:=decide (1<=ps.length)&&decide (ps.length<=6)&&ps.all Jb
def  AO(f:TJ):Prop:=∀(w:Bool)(ps:List Pk),ps.length<1000->f [sq w (ps.map dY)]=!(.deep,.bl (D3 ps))
def Jd(t:qC g):AO (aR 1 2 (pI g)):=λw ps j=>by
 refine aq rfl ?_;unfold pI D3;have C:dW l5 l5 (cI 1) (aT cb (aa (va 0) ag)) (cD (.int 6)) [!(sq w (ps.map dY)),none]=!(.bl (decide (1<=ps.length)&&decide (ps.length<=6))):=by
  by_cases h:1<=ps.length
  .have h':(1:Int)<=(ps.length:Int):=by omega
   simp[h,h'];omega
  .have h':¬ (1:Int)<=(ps.length:Int):=by omega
   simp[h,h']
 have hi:aT fN (aa (va 0) (aa (dU (aa (cT "list") (aa (cT "tuple") ag))) ag)) [!(sq w (ps.map dY)),none]=!(.bl true):=by
  cases w<;>simp[sq]
 have l:o8 (b7 (dJ (aT fN (aa (va 0) (aa (dU (aa (cT "list") (aa (cT "tuple") ag))) ag))))) (b7 (ao (dW l5 l5 (cI 1) (aT cb (aa (va 0) ag)) (cD (.int 6))))) [!(sq w (ps.map dY)),none]=!(not (decide (1<=ps.length)&&decide (ps.length<=6))):=by
  rw[sF,notQ_a,trF_a,hi,notQ_a,testB_a,C];rfl
 cases o:(decide (1<=ps.length)&&decide (ps.length<=6))with
 |false=>
  rw[o]at l;exact aw ((ifS_t l).trans (aw (aV (evX_lf rfl rfl))))
 |true=>
  rw[o]at l;refine(seqF_nx ((aW l).trans rfl)).trans ?_;refine aw (aV (evX_lf ?_ rfl));have r:ah [1] (jX noV (va 0)) (aM 1) tQ (aL g (aa (va 1) ag)) [!(sq w (ps.map dY)),none]=!(ps.map λp=>.bl (Jb p)):=by
   refine aB (mk:=dY) (by simp) (λp _=>?_) (Nat.lt_trans j (!4));simp[t p]
  simp[ar,r,cH]
abbrev Ps:=List (Bool×List Pk)
def  ox(p:Bool×List Pk):D:=sq p.1 (p.2.map dY)
noncomputable def  prod:TR->Nat
 |[]=>1
 |p::r=>p.length*prod r
def iE:∀a b:TR,prod (a++b)=prod a*prod b
 |[],b=>by simp[prod]
 |p::a,b=>by simp only[List.cons_append,prod,iE a b,Nat.mul_assoc]
def pJ(a:TR)(p:List Pk):prod (a++[p])=prod a*p.length:=by rw[iE];simp[prod]
def lt_big(h:-1000000<j)(h2:j<1000000):-18446744073709551616<j/\j<18446744073709551616:=by grind
def mx(h:-1000000<j)(h2:j<1000000):cF (.int i) (.int j)=!(.int (i*j)):=IZ (lt_big h h2).1 (lt_big h h2).2
def sI{n:Nat}(h:n<1000):cF (.int i) (.int (n:Int))=!(.int (i*n)):=mx (!3) (!3)
def  lm(f:TJ):Prop:=∀(w:Bool)(pss:Ps),(∀p∈pss,p.2.length<1000)->f [sq w (pss.map ox)]=!(.deep,.int (prod (pss.map (·.2)):Nat))
def uS(A:D)(n:Nat)(p:Bool×List Pk)(g:p.2.length<1000):
 aY (bin2 cF (va 1) (aT cb (aa (va 2) ag))) noV noV [!(.sh,A),!(.deep,.int n),!(.sh,ox p)]=!((.deep,.int (n*p.2.length:Nat)),[!(.sh,A),!(.deep,.int n),!(.sh,ox p)]):=by
 refine evX_lf ?_ rfl
 have j:(seqD (ox p))=!_:=eE _ _
 simp[j]
 rw[sI g]
def yc(g:Ps)(i:Nat)(p)(j:g[i]?=!p):prod ((g.take (i+1)).map (·.2))=prod ((g.take i).map (·.2))*p.2.length:=by
 rw[List.take_succ,j];simp[pJ]
def D4:lm (aR 1 3 uR):=λw g l=>by
  refine aq rfl ?_;refine(seqF_nx (bj (evX_lf rfl rfl))).trans ?_;have L:=eD (J:=jX noV (va 0)) (tg:=gz 2) (F:=af (aD 1 (aY (bin2 cF (va 1) _) noV noV)) aF) (ds:=g.map ox)
   
    (λi Y=>∃o,Y=[!(.sh,sq w (g.map ox)),!(.deep,.int (prod ((g.take i).map (·.2)):Nat)),o]) (by simp[ar]) ⟨none,rfl⟩ (by
      rintro i d Y hd ⟨o,rfl⟩;rw[getElem?_map]at hd;cases j:g[i]? with
      |none=>rw[j]at hd;cases hd
      |some p=>
        rw[j]at hd;cases hd;have r:=l p (UA j);rw[yc g i p j];exact⟨_,seqF_nx (bj (uS _ _ p r)),⟨!_,rfl⟩⟩)
  let⟨Y',e,o,rfl⟩:=L;refine(seqF_nx e).trans (aw ?_);simp[yy,oE]
structure Valid(pss:TR):Prop where
 len:pss.length<=6
 each:∀p∈pss,D3 p=true
 codes:prod pss<=1000
def Valid.p(h:Valid g){p:List Pk}(l:p∈g):1<=p.length/\p.length<=6/\∀k∈p,0<=k.2/\k.2<=9:=by
 have:=h.each p l;unfold D3 at this;rw[and_eq_true,and_eq_true,List.all_eq_true]at this;refine⟨Uo this.1.1,Uo this.1.2,λk j=>?_⟩;have j:=this.2 k j;unfold Jb at j;grind
def  Je(f:TJ):Prop:=∀(w:Bool)(pss:Ps),Valid (pss.map (·.2))->f [sq w (pss.map ox)]=!(.deep,.bl true)
def M6(J:AO g)(T:lm c):Je (aR 1 2 (qA c g)):=λw j r=>by
 refine aq rfl ?_;have C:j.length<=6:=by have:=r.len;simpa using this
 have t:∀p∈j,p.2.length<1000:=λp t=>by
  have:=(r.p (List.mem_map_of_mem t)).2.1;omega
 have hT:o8 (b7 (dJ (aT fN (aa (va 0) (aa (dU (aa (cT "list") (aa (cT "tuple") ag))) ag))))) (ao (bin2 uj (aT cb (aa (va 0) ag)) (cD (.int 6)))) [!(sq w (j.map ox)),none]=!false:=by
  have h:¬ (6:Int)<(j.length:Int):=by omega
  cases w<;>simp[sq,h]
 refine(seqF_nx ((aW hT).trans rfl)).trans ?_;refine aw (aV (evX_lf ?_ rfl));have I:ah [1] (jX noV (va 0)) (aM 1) tQ (aL g (aa (va 1) ag)) [!(sq w (j.map ox)),none]=!(j.map λp=>.bl (D3 p.2)):=by
  refine aB (mk:=ox) (by simp) (λp l=>?_) (Uq C (!4));have:=J p.1 p.2 (t p l);simp[ox,this]
 have U:j.all (λp=>D3 p.2)=true:=by
  rw[List.all_eq_true];intro p l;exact r.each _ (List.mem_map_of_mem l)
 have o:((prod (j.map (·.2)):Nat):Int)<=1000:=by have:=r.codes;omega
 simp[ar,I,cH,U,T w j t];exact o
def  av(ps:TR):D:=.tup (ps.map bH)
def  ae(ps:TR):D:=.obj "Mill" ["passes"] [av ps]
def  gM(fa:TJ):T9->Option (List (Str×D))
 |[d]=>(gT (fa [d])).bind λb=>(rR b).bind λt=>if t=true then(ah [2] (jX noV (va 1)) (aM 2) tQ (aT bO (aa (va 2) ag)) [none,!d,none]).bind λl=>![(("passes":Str),.tup l)]else none
 |_=>none
def D5{R Sp}(h:R (vw Y)=!d)(g:Sp (vw Y)=none)(h2:R (eg Y)=!d):∃c,aY R noV Sp Y=!((c,d),Y):=by
 cases f:gq d with
 |true=>exact⟨_,evX_lf h f⟩
 |false=>exact⟨_,evX_sh h f rfl g rfl h2⟩
def uT(ds:T9)(r:List (Str×D))(h:gM fa ds=!r)(y:Addr):zO 2 3 (nB fa) y ds=!r:=by
 cases ds with
 |nil=>cases h
 |cons d t=>
  cases t with
  |cons _ _=>cases h
  |nil=>
   let⟨b,h1,h⟩:=UD (h);let⟨t,h2,h⟩:=UD h;cases t with
   |false=>cases h
   |true=>
    let⟨l,p,o⟩:=UD (h);cases o;have g:ah [2] (jX noV (va 1)) (aM 2) tQ (aT bO (aa (va 2) ag)) [!(.adr y),!d,none]=!l:=by
     rw[<-p];cases seqD d with
     |none=>rfl
     |some ps=>
      rfl
    show nB fa y (uC 3 y [d]) []=_;unfold nB;have j:uC 3 y [d]=[!_,!_,none]:=rfl;rw[j];have C:(cu (b7 (dJ (aL fa (aa (va 1) ag)))) (af noO' aF) aF) [!(.sh,.adr y),!(.sh,d),none]=!(.nx [!(.sh,.adr y),!(.sh,d),none]):=by
     refine(aW ?_).trans rfl;simp[h1,h2]
    unfold Oo;rw[C];simp only[Option.bind_some];let⟨c,e2⟩:=D5 (R:=aT bO (aa (lsF (ah [2] (jX noV (va 1)) (aM 2) tQ (aT bO (aa (va 2) ag)))) ag)) (Sp:=pF (aa (lsF (ah [2] (jX noV (va 1)) (aM 2) tQ (aT bO (aa (va 2) ag)))) ag)) (Y:=[!(.sh,.adr y),!(.sh,d),none]) (d:=.tup l)
     (by simp[g]) (by simp) (by simp[g])
    unfold Dy;rw[e2];simp[oE,Dw,uB]
def  sJ(g:T9->Option (List (Str×D))):Prop:=∀(w:Bool)(pss:Ps),Valid (pss.map (·.2))->g [sq w (pss.map ox)]=![(("passes":Str),av (pss.map (·.2)))]
def Jf(r:Je fa):sJ (gM fa):=λw g l=>by
 have j:g.length<=6:=by have:=l.len;simpa using this
 have o:ah [2] (jX noV (va 1)) (aM 2) tQ (aT bO (aa (va 2) ag)) [none,!(sq w (g.map ox)),none]=!(g.map λp=>bH p.2):=by
  refine aB (mk:=ox) (by simp) (λp _=>?_) (Uq j (!4));simp[ox,bH]
 show((gT (fa [sq w (g.map ox)])).bind _)=_;rw[r w g l];simp[o,av]
def nJ{g:Type}(xs:List g)(f:g->D)(t:Nat):cutD (xs.map f) (!(t:Int)) none=(xs.drop t).map f:=by
 unfold cutD;rw[HT.sIx_nat,HT.sIx_none,length_map,<-List.map_drop];by_cases h:t<=xs.length
 .rw[Nat.min_eq_left h];rw[List.take_of_length_le (by rw[length_map,List.length_drop];omega)]
 .have h':xs.length<=t:=by omega
  rw[Nat.min_eq_right h',List.drop_eq_nil_of_le (le_refl _),List.drop_eq_nil_of_le h'];simp
def nK{g:Type}(xs:List g)(f:g->D)(t:Nat):cutD (xs.map f) none (!(t:Int))=(xs.take t).map f:=by
 unfold cutD;rw[HT.sIx_nat,HT.sIx_none,length_map,List.drop_zero,Nat.sub_zero,<-List.map_take];grind
def nL(hf:fl "Mill" "passes"=true)(ps:TR):ji fl "passes" (ae ps)=!(av ps):=by simp_all [Pk,ji,ae,av]
def kr(g:j "Mill" "passes"=true){t:Nat}(h0:cy Y 0=!(ae ps))(h1:cy Y 1=!(.int (t:Int))):
  slF (i9 j "passes" (va 0)) (partF (va 1)) noP Y=!(.tup ((ps.drop t).map bH)):=by
 unfold slF aS l7
 simp[h0,h1,nL g,av,nJ]
def AQ{fl:Str->Str->Bool}(hf:fl "Mill" "passes"=true){Y:Vv}{ps:TR}{t:Nat}(h0:cy Y 0=!(ae ps))(h1:cy Y 1=!(.int (t:Int))):
  slF (i9 fl "passes" (va 0)) noP (partF (va 1)) Y=!(.tup ((ps.take t).map bH)):=by
 unfold slF aS l7
 simp[h0,h1,nL hf,av,nK]
def  F8(mt:MT)(kk:Nat):Prop:=∀ps:TR,pA mt kk "many" (ae ps) []=!(.deep,.int (ps.length:Nat))
def Jg(g:j "Mill" "passes"=true)(ps:TR):aR 1 1 (lS j) [ae ps]=!(.deep,.int (ps.length:Nat)):=by
 refine aq rfl ?_;refine aw (aV (evX_lf ?_ rfl));simp[ar,nL g,av]
def  wr(f:TJ):Prop:=∀(ps:TR)(t:Nat),t<=ps.length->f [ae ps,.int (t:Int)]=!(.deep,.bl true)
def Jh{mt g w}(l:F8 mt g)(j:dH w):wr (aR 2 2 (ya mt g w)):=λps t o=>by
 refine aq rfl ?_;refine aw (aV (evX_lf ?_ rfl));have h1:(t:Int)<=(ps.length:Int):=by omega
 simp[ar,l ps,j (t:Int) 0 (ps.length:Int),h1]
noncomputable def  wD(w:T1):D:=.tup (w.map λ(i:Nat)=>.int (i:Int))
def QW(w:T1):gq (wD w)=true:=dc λd hd=>by
 let⟨p,_,rfl⟩:=Ut.mp hd;rfl
structure WordOk(ps:TR)(t:Nat)(w:T1):Prop where
 len:w.length=(ps.drop t).length
 each:∀q∈w.zip (ps.drop t),q.1<q.2.length
def  wt(f:TJ):Prop:=∀(ps:TR)(t:Nat)(w:T1),Valid ps->WordOk ps t w->f [ae ps,.int (t:Int),wD w]=!(.deep,.bl true)
def jc{ps:TR}(hv:Valid ps)(t:Nat)(w:T1):(w.zip (ps.drop t)).length<big:=by
 rw[List.length_zip,List.length_drop];have:=hv.len;exact Uq (show min w.length (ps.length-t)<=6 by omega) (!4)
def AR(w:T1)(rs:TR):ia (w.map λ(i:Nat)=>.int (i:Int)) (rs.map bH)=(w.zip rs).map λq=>.tup [.int (q.1:Int),bH q.2]:=eY w rs
def Ji{wi fl}(hw:dH wi)(hf:fl "Mill" "passes"=true):wt (aR 3 6 (lj wi fl)):=λps t w hv hk=>by
 refine aq rfl ?_;refine(seqF_nx (bj (evX_lf (kr hf rfl rfl) (nI _)))).trans ?_;have hs:((ar 6 [ae ps,.int (t:Int),wD w]).set 3 (!(Cat.deep,.tup ((ps.drop t).map bH))))=[!_,!(.sh,.int (t:Int)),!_,!(.deep,.tup _),none,none]:=rfl;rw[hs];have hl:(w.length:Int)=((ps.length-t:Nat):Int):=by have:=hk.len;rw[List.length_drop]at this;omega
 refine(seqF_nx ((aW ?_).trans rfl)).trans ?_
 .simp[wD,hl]
 .refine aw (aV (evX_lf ?_ rfl));have hm:ah [4,5] (jX (qw (aa (va 2) (aa (va 3) ag))) (aT eR (aa (va 2) (aa (va 3) ag)))) (iZ 2 (ai (aM 4) (ai (aM 5) bc))) tQ (aL wi (aa (va 4) (aa (cI 0) (aa (bin2 bt (aT cb (aa (va 5) ag)) (cI 1)) ag))))
    [!(ae ps),!(.int (t:Int)),!(wD w),!(.tup ((ps.drop t).map bH)),none,none]=!((w.zip (ps.drop t)).map λq=>.bl true):=by
   refine aB (mk:=λq:Nat×List Pk=>.tup [.int (q.1:Int),bH q.2]) (nr ?_) (λq hq=>?_) (jc hv t w)
   .simp only[consX_a,va_a,shAt_s,shAt_0,nilX_a,Option.bind_some];rw[eX rfl rfl,AR]
   .have h1:(q.1:Int)<=(q.2.length:Int)-1:=by have:=hk.each q hq;omega
    simp[bH,hw (q.1:Int) 0 ((q.2.length:Int)-1),h1]
  simp only[vw_some,vw_none,vw_nil,biF_a,consX_a,lsF_a,hm,nilX_a,map_some,Option.bind_some];rw[cH (w.zip _) λ_=>true];simp
def  qD(f:TJ):Prop:=∀(ps:TR)(t:Nat),t<=ps.length->f [ae ps,.int (t:Int)]=!(.deep,.non)
def D6(l:wr g):qD (aR 2 2 (nC g)):=λps t j=>by
 refine eW rfl (Y:=ar 2 [ae ps,.int (t:Int)]) ?_;refine(seqF_nx ((aW ?_).trans rfl)).trans rfl;simp[ar,l ps t j]
def  nM(f:TJ):Prop:=∀(ps:TR)(t:Nat)(w:T1),Valid ps->t<=ps.length->WordOk ps t w->f [ae ps,.int (t:Int),wD w]=!(.deep,.non)
def bV(h:f (vw Y)=!d):bz f Y=!(.nx Y):=by unfold bz;rw[h];rfl
def D7{g l}(hg:wt g)(hl:qD l):nM (aR 3 3 (nF g l)):=λps t w hv ht hk=>by
 refine eW rfl (Y:=ar 3 [ae ps,.int (t:Int),wD w]) ?_;refine(seqF_nx (bV (d:=.non) ?_)).trans ?_
 .simp[ar,hl ps t ht]
 refine(seqF_nx ((aW ?_).trans rfl)).trans rfl;simp[ar,hg ps t w hv hk]
noncomputable def  pkAt(q:Nat×List Pk):Pk:=q.2[q.1]?.getD (true,0)
def  qE(f:TJ):Prop:=∀(ps:TR)(t:Nat)(w:T1),Valid ps->WordOk ps t w->f [ae ps,.int (t:Int),wD w]=!(.deep,.lst ((w.zip (ps.drop t)).map λq=>dY (pkAt q)))
def AS(h:q.1<q.2.length):mP (q.2.map dY) (q.1:Int)=!(dY (pkAt q)):=by
 refine atI_mapN ?_;unfold pkAt;grind
def D8{fl}(hf:fl "Mill" "passes"=true):qE (aR 3 5 (qB fl)):=λps t w hv hk=>by
 refine aq rfl ?_;have hm:ah [3,4] (jX (qw (aa (va 2) (aa (!6) ag))) (aT eR (aa (va 2) (aa (!6) ag)))) (iZ 2 (ai (aM 3) (ai (aM 4) bc))) tQ (bin2 ixD (va 4) (va 3))
   [!(ae ps),!(.int (t:Int)),!(wD w),none,none]=!((w.zip (ps.drop t)).map λq=>dY (pkAt q)):=by
  refine aB (mk:=λq:Nat×List Pk=>.tup [.int (q.1:Int),bH q.2]) (nr ?_) (λq hq=>?_) (jc hv t w)
  .simp only[consX_a,va_a,shAt_s,shAt_0,nilX_a,Option.bind_some,kr hf (Y:=[!_,!(.int (t:Int)),!(wD w),none,none]) rfl rfl];rw[eX rfl rfl,AR]
  .simp[bH,AS (hk.each q hq)]
 refine aw (aV (evX_lfs (d:=.lst ((w.zip (ps.drop t)).map λq=>dY (pkAt q))) ?_ rfl ?_ ?_))
 .show(lsF _ [!(ae ps),!(.int (t:Int)),!(wD w),none,none])=_;rw[lsF_a,hm];rfl
 .exact hm
 .refine dc λd hd=>?_;let⟨q,_,rfl⟩:=Ut.mp hd;rfl
def  wu(f:TJ):Prop:=∀(ps:TR)(t:Nat)(w:T1)(s:Int),Valid ps->t<=ps.length->WordOk ps t w->1<=s->s<=9->f [ae ps,.int (t:Int),wD w,.int s]=!(.deep,.bl ((w.zip (ps.drop t)).all λq=>decide (s<=(pkAt q).2)))
def Jj{g z l}(hg:qE g)(hz:wq z)(hl:nM l):wu (aR 4 6 (Ja g z l)):=λps t w s hv ht hk h1 h9=>by
 refine aq rfl ?_;have hs:ar 6 [ae ps,.int (t:Int),wD w,.int s]=[!_,!(.sh,.int (t:Int)),!_,!_,none,none]:=rfl;rw[hs];refine(seqF_nx (bV (d:=.non) ?_)).trans ?_
 .simp[hl ps t w hv ht hk]
 refine(seqF_nx ((aW ?_).trans rfl)).trans ?_
 .simp[hz s,h1,h9]
 refine aw (aV (evX_lf ?_ rfl));have hm:ah [4,5] (jX noV (aL g (aa (va 0) (aa (va 1) (aa (va 2) ag))))) (iZ 2 (ai (aM 4) (ai (aM 5) bc))) tQ (bin2 l5 (va 3) (va 5))
   [!(ae ps),!(.int (t:Int)),!(wD w),!(.int s),none,none]=!((w.zip (ps.drop t)).map λq=>.bl (decide (s<=(pkAt q).2))):=by
  refine aB (mk:=λq=>dY (pkAt q)) ?_ (λq hq=>?_) (jc hv t w)
  .simp[hg ps t w hv hk]
  .simp[dY]
 simp only[vw_some,vw_none,vw_nil,biF_a,consX_a,lsF_a,hm,nilX_a,map_some,Option.bind_some];exact cH (w.zip _) λq=>decide _
def gC{v:Nat->Int}(I:Nat->Ev->Prop)(o:J (eg Y)=!((List.range n).map λi=>D.int (v i)))(h0:I 0 Y)(l:∀(i:Nat)(Y:Ev),i<n->I i Y->∃Y',F (Y.set s (!(.sh,.int (v i))))=!(.nx Y')/\I (i+1) Y'):∃Y',lh J (gz s) F Y=!(.nx Y')/\I n Y':=by
 let⟨Y',e,i⟩:=eD (tg:=gz s) I o h0 (λi d Y hd hi=>by
  rw[getElem?_map]at hd;cases g:(List.range n)[i]? with
  |none=>rw[g]at hd;cases hd
  |some p=>
   rw[g]at hd;cases hd;let⟨j,e⟩:=Uk.mp g;rw[List.getElem_range]at e;subst e;rw[length_range]at j;exact l i Y j hi)
 grind
def vw_o(o:Option Sl)(Y:Ev):vw (o::Y)=o.map (·.2)::vw Y:=rfl
def sK{β γ:Type}{step}{mk}{out}{P:γ->Prop}:∀(xs:List β),(∀x∈xs,∃y,P y/\step (mk x)=!(!(out y)))->∃ys:List γ,ys.length=xs.length/\(∀y∈ys,P y)/\jv step (xs.map mk)=!(ys.map out)
 |[],_=>⟨[],rfl,λ_ h=>(nomatch h),rfl⟩
 |x::xs,h=>by
  let⟨y,py,e⟩:=h x Ul;let⟨ys,l,p,e2⟩:=sK xs λe he=>h e (Um _ he);refine⟨y::ys,by simp[l],λz hz=>?_,?_⟩
  .rcases mem_cons.mp hz with rfl|hz
   .exact py
   .exact p z hz
  .rw[List.map_cons];unfold jv;rw[e,e2];rfl
def sL{o j:Type}{Y:Vv}{xs:List o}{mk}{out}{P:j->Prop}(t:J Y=!(xs.map mk))(h:∀x∈xs,∃y,P y/\jw g ft fe (wipe ks Y) (mk x)=!(!(out y)))(r:xs.length<big):
  ∃ys:List j,ys.length=xs.length/\(∀y∈ys,P y)/\ah ks J g ft fe Y=!(ys.map out):=by
 let⟨ys,l,p,e⟩:=sK xs h
 refine⟨ys,l,p,?_⟩
 unfold ah
 rw[t]
 simp only[Option.bind_some]
 rw[e]
 unfold bw
 simp[l,r]
noncomputable def  bg(ns:T5):D:=.lst (ns.map D.int)
@[simp]def QX(ns:T5):seqD (bg ns)=!(ns.map D.int):=rfl
@[simp]def RY(ns:T5):gq (bg ns)=false:=rfl
def cK(g:T5):ib (g.map D.int)=true:=dc λd hd=>by
 let⟨p,_,rfl⟩:=Ut.mp hd;rfl
def pK(h:0<=i)(h2:i<ns.length):∃v,ixD (bg ns) (.int i)=!(.int v):=⟨_,D2 h h2⟩
def  AT(f:TJ):Prop:=∀(ns:T5)(k:Nat),f [bg ns,.int (k:Int)]=!(.deep,.int (ns[k]?.getD 0))
def Jk:AT (aR 2 2 nH):=λg k=>by
 refine aq rfl ?_;have j:ar 2 [bg g,.int (k:Int)]=[!_,!(.sh,.int (k:Int))]:=rfl;rw[j];by_cases h:k<g.length
 .refine aw ((ifS_t ?_).trans (aw (aV (evX_lf ?_ rfl))))
  .have:(k:Int)<(g.length:Int):=by omega
   simp[this]
  .simp[bg];exact atI_mapN (by simp[h])
 .refine(seqF_nx ((aW ?_).trans rfl)).trans (aw (aV (evX_lf ?_ rfl)))
  .have:¬ (k:Int)<(g.length:Int):=by omega
   simp[this]
  .simp[h]
def  AU(f:TJ):Prop:=∀(c:Int)(a:Nat),a<1000->∃v:Int,0<=v/\v<1000000/\f [.int c,.int (a:Int)]=!(.deep,.int v)
def Jl:AU (aR 2 3 sH):=λc a g=>by
 have L:=gC (J:=jX (MV (aa (va 1) ag)) (aT eR (aa (va 1) ag))) (s:=2) (F:=af (aD 0 (aY (bin2 bi (va 0) (cI 1000000)) noV noV)) aF)
  (λi Y=>∃x v o,Y=[!(x,.int v),!(.sh,.int (a:Int)),o]) (iz (by simp[ar];exact cJ (!3))) ⟨.sh,c,none,rfl⟩ (by
   rintro i Y hi ⟨x,v,o,rfl⟩;exact⟨_,seqF_nx (bj (evX_lf (by simp;exact dG (!4) (!4)) rfl)),⟨_,_,_,rfl⟩⟩)
 let⟨Y',e,x,v,o,rfl⟩:=L;refine⟨v%1000000,Int.emod_nonneg _ (!4),Int.emod_lt_of_pos _ (!4),aq rfl ?_⟩;refine(seqF_nx e).trans (aw (aV (evX_lf ?_ rfl)));simp;exact bC (!4)
def AV(h:0<=i)(h2:i<1000000000039):cF (.int i) (.int j)=!(.int (i*j)):=AB (Int.lt_of_lt_of_le (!4) h) (Int.lt_trans h2 (!4))
def  qF(f:TJ):Prop:=∀(ns:T5)(m:Nat),ns.length<1000->0<m->m<1000->∃cs:T5,cs.length=m/\f [bg ns,.int (m:Int)]=!(.deep,bg cs)
def md(i:Int)(h:0<j):0<=i%j/\i%j<j:=⟨Int.emod_nonneg _ (!3),Int.emod_lt_of_pos _ h⟩
def QY(i j:Int)(h:0<j):aI (.int i) (.int j)=!(.int (i%j)):=bC h
end L2
namespace L2
open PySem PySem.Spec PyProof.Rows
def QZ(q:Bool):decide (kd q=("pile":Str))=not q:=by cases q<;>decide
noncomputable def  lay(q:Bool)(a c:Int):Int:=if q=true then c else a-1-c
def  wv(f:TJ):Prop:=∀(q:Bool)(a c:Int),f [.str (kd q),.int a,.int c]=!(.deep,.int (lay q a c))
def Jm:wv (aR 3 3 I0):=λq a c=>by
 refine aq rfl ?_;refine aw (aV (evX_lf ?_ rfl));cases q<;>rfl
def  M7(s:Int×Int)(q:Nat×List Pk):Int×Int:=(s.1*q.2.length,q.1*s.1+lay (pkAt q).1 s.1 s.2)
def  walkC(s:Int×Int)(zs:List (Nat×List Pk)):Int×Int:=zs.foldl M7 s
def uU(s:Int×Int)(zs:List (Nat×List Pk))(i:Nat)(q)(h:zs[i]?=!q):walkC s (zs.take (i+1))=M7 (walkC s (zs.take i)) q:=by
 unfold walkC;rw[List.take_succ,h];simp
def  ahd(ps:TR)(t:Nat):Int:=(prod (ps.take t):Nat)
def  qG(ps:TR)(t:Nat)(w:T1):Int:=(walkC (ahd ps t,ahd ps t-1) (w.zip (ps.drop t))).2
def  ww(f:TJ):Prop:=∀(ps:TR)(t:Nat)(w:T1),Valid ps->t<=ps.length->WordOk ps t w->f [ae ps,.int (t:Int),wD w]=!(.deep,.int (qG ps t w))
def AW{i:Nat}(h:i<1000000):cF (.int (i:Int)) (.int j)=!(.int ((i:Int)*j)):=AB (lt_big (!3) (!3)).1 (lt_big (!3) (!3)).2
def pL(l:lm c)(ps:TR)(h:∀p∈ps,p.length<1000):c [.tup (ps.map bH)]=!(.deep,.int (prod ps:Nat)):=by
 have e:(ps.map λp=>((false,p):Bool×List Pk)).map ox=ps.map bH:=by rw[List.map_map];rfl
 have o:(ps.map λp=>((false,p):Bool×List Pk)).map (·.2)=ps:=by rw[List.map_map];exact List.map_id ps
 have:=l false (ps.map λp=>(false,p)) (λp j=>by
  let⟨q,g,rfl⟩:=Ut.mp j;exact h q g)
 rw[e,o]at this;exact this
def M8{ps:TR}{t:Nat}{w:T1}(hk:WordOk ps t w){i:Nat}{q:Nat×List Pk}(h:(w.zip (ps.drop t))[i]?=!q):w[i]?=!q.1/\ps[t+i]?=!q.2/\q.1<q.2.length/\mP (q.2.map dY) (q.1:Int)=!(dY (pkAt q)):=by
 let⟨h1,h2⟩:=List.getElem?_zip_eq_some.mp h;rw[List.getElem?_drop]at h2;have h3:=hk.each q (UA h);exact⟨h1,h2,h3,AS h3⟩
def Jn{fl la co lo}(hf:fl "Mill" "passes"=true)(hl:wv la)(hc:lm co)(hw:nM lo):ww (aR 3 7 (lT fl la co lo)):=λps t w hv ht hk=>by
 refine aq rfl ?_;have hs:ar 7 [ae ps,.int (t:Int),wD w]=[!(.sh,ae ps),!(.sh,.int (t:Int)),!(.sh,wD w),none,none,none,none]:=rfl;rw[hs];unfold lT;refine(seqF_nx (bV (d:=.non) ?_)).trans ?_
 .simp[hw ps t w hv ht hk]
 have hsm:∀p∈ps,p.length<1000:=λp hp=>by have:=(hv.p hp).2.1;omega
 refine(seqF_nx (bj (evX_lf (d:=.int (ahd ps t)) ?_ rfl))).trans ?_
 .simp only[vw_some,vw_none,vw_nil,clF_a,consX_a,nilX_a,AQ hf (Y:=[!(ae ps),!(.int (t:Int)),!(wD w),none,none,none,none]) rfl rfl,Option.bind_some,pL hc (ps.take t) (λp hp=>hsm p (List.mem_of_mem_take hp)),valO_some,ahd]
 refine(seqF_nx (bj (evX_lf (d:=.int (ahd ps t-1)) ?_ rfl))).trans ?_
 .simp
 have L:=eD (J:=jX (qw (aa (va 2) (aa (!6) ag))) (aT eR (aa (va 2) (aa (!6) ag)))) (tg:=Cr 2 (eh (gz 5) (eh (gz 6) oF)))
  (F:=af (aD 4 (aY (bin2 ay (bin2 cF (va 5) (va 3)) (aL la (aa (bin2 ixD (bin2 ixD (va 6) (va 5)) (cI 0)) (aa (va 3) (aa (va 4) ag))))) (catF (aS (bin2 cF (va 5) (va 3)) (lsF noV)) (aL la (aa (bin2 ixD (bin2 ixD (va 6) (va 5)) (cI 0)) (aa (va 3) (aa (va 4) ag))))) noV)) (af (aD 3 (aY (bin2 cF (va 3) (aT cb (aa (va 6) ag))) noV noV)) aF))
  (ds:=(w.zip (ps.drop t)).map λq=>.tup [.int (q.1:Int),bH q.2])
  (Y:=[!(.sh,ae ps),!(.sh,.int (t:Int)),!(.sh,wD w),!(.deep,.int (ahd ps t)),!(.deep,.int (ahd ps t-1)),none,none])
  (λi Y=>∃o5 o6,Y=[!(.sh,ae ps),!(.sh,.int (t:Int)),!(.sh,wD w),!(.deep,.int (walkC (ahd ps t,ahd ps t-1) ((w.zip (ps.drop t)).take i)).1),!(.deep,.int (walkC (ahd ps t,ahd ps t-1) ((w.zip (ps.drop t)).take i)).2),o5,o6])
  (nr (by
   simp only[iC,eV,eU,gB,D0,if_true,consX_a,va_a,shAt_s,shAt_0,nilX_a,Option.bind_some];rw[kr hf (ps:=ps) (t:=t) rfl rfl];simp only[Option.bind_some];rw[eX (xs:=w.map λ(i:Nat)=>.int (i:Int)) (ys:=(ps.drop t).map bH) rfl rfl,AR])) ⟨none,none,rfl⟩ (by
   rintro i d Y hd ⟨o5,o6,rfl⟩;rw[getElem?_map]at hd;cases hq:(w.zip (ps.drop t))[i]? with
   |none=>rw[hq]at hd;cases hd
   |some q=>
    rw[hq]at hd;cases hd;let⟨_,h2,h3,h4⟩:=M8 hk hq;rw[uU _ _ _ _ hq];generalize walkC (ahd ps t,ahd ps t-1) ((w.zip (ps.drop t)).take i)=s;have h6:q.2.length<=6:=(hv.p (UA h2)).2.1;have e0:∀k:Pk,ixD (dY k) (.int 0)=!(.str (kd k.1)):=λk=>nw _ _;have e6:ixD (bH q.2) (.int (q.1:Int))=!(dY (pkAt q)):=h4;have e7:seqD (bH q.2)=!(q.2.map dY):=rfl;refine⟨_,(seqF_nx (bj (evX_lf (d:=.int (q.1*s.1+lay (pkAt q).1 s.1 s.2)) ?_ rfl))).trans (seqF_nx (bj (evX_lf (d:=.int (s.1*q.2.length)) ?_ rfl))),⟨!(.sh,.int (q.1:Int)),!(.sh,bH q.2),rfl⟩⟩
    .simp only[set_cons_succ,set_cons_zero,vw_some,vw_none,vw_nil,bin2_a,clF_a,consX_a,nilX_a,va_a,shAt_s,shAt_0,shAt_1,cI_a,Option.bind_some,AW (show q.1<1000000 by omega),e6,e0,hl (pkAt q).1 s.1 s.2,valO_some,addD_ii]
    .simp only[set_cons_succ,set_cons_zero,vw_some,vw_none,vw_nil,bin2_a,biF_a,consX_a,nilX_a,va_a,shAt_s,shAt_0,shAt_1,Option.bind_some,bG,e7,length_map,sI (show q.2.length<1000 by omega)])
 let⟨Y',e,o5,o6,rfl⟩:=L;rw[length_map,List.take_length]at e;refine(seqF_nx e).trans (aw ?_);rfl
def  piles(zs:List (Nat×List Pk)):Nat:=(zs.filter λq=>not (pkAt q).1).length
def  iF(ps:TR)(t:Nat)(w:T1):Int:=1-2*((piles (w.zip (ps.drop t)):Int)%2)
def  AX(f:TJ):Prop:=∀(ps:TR)(t:Nat)(w:T1),Valid ps->t<=ps.length->WordOk ps t w->f [ae ps,.int (t:Int),wD w]=!(.deep,.int (iF ps t w))
def D9{β:Type}(zs:List β)(f:β->Str):ib (zs.map λq=>.str (f q))=true:=dc λd hd=>by
 let⟨p,_,rfl⟩:=Ut.mp hd;rfl
def Jo{po lo}(hp:qE po)(hw:nM lo):AX (aR 3 6 (AK po lo)):=λps t w hv ht hk=>by
 refine aq rfl ?_;have hs:ar 6 [ae ps,.int (t:Int),wD w]=[!(.sh,ae ps),!(.sh,.int (t:Int)),!(.sh,wD w),none,none,none]:=rfl;rw[hs];unfold AK;refine(seqF_nx (bV (d:=.non) ?_)).trans ?_
 .simp[hw ps t w hv ht hk]
 have hm:ah [4,5] (jX noV (aL po (aa (va 0) (aa (va 1) (aa (va 2) ag))))) (iZ 2 (ai (aM 4) (ai (aM 5) bc))) (ao (bin2 (aE false) (va 4) (cS "pile"))) (va 4)
   [!(ae ps),!(.int (t:Int)),!(wD w),none,none,none]=!(((w.zip (ps.drop t)).filter λq=>not (pkAt q).1).map λq=>.str (kd (pkAt q).1)):=by
  refine oI (mk:=λq=>dY (pkAt q)) ?_ (λq hq=>?_) (jc hv t w)
  .simp[hp ps t w hv hk]
  .simp only[dY,stepF_a,wipe_cons,wipe_nil,M3,AH,D1,gNm_a,set_cons_succ,set_cons_zero,length_cons,List.length_nil,if_true,Option.bind_some,testB_a,bin2_a,va_a,shAt_s,shAt_0,shAt_1,cS_a,AG,Bool.false_eq_true,if_false,asB_bl,QZ];cases(pkAt q).1<;>rfl
 refine(seqF_nx (bj (evX_lfs (d:=.lst (((w.zip (ps.drop t)).filter λq=>not (pkAt q).1).map λq=>.str (kd (pkAt q).1))) ?_ rfl hm (D9 _ _)))).trans ?_
 .show lsF _ [!(ae ps),!(.int (t:Int)),!(wD w),none,none,none]=_;rw[lsF_a,hm];rfl
 refine aw (aV (evX_lf ?_ rfl));have h2:(0:Int)<2:=by decide
 simp only[set_cons_succ,set_cons_zero,vw_some,vw_none,vw_nil,F5,testB_a,bin2_a,biF_a,consX_a,nilX_a,va_a,shAt_s,shAt_0,shAt_1,cI_a,Option.bind_some,bG,seqD_l,length_map,QY _ 2 h2,iB,Bool.false_eq_true,if_false,asB_bl,F0,AA,iF];show(if decide ((piles (w.zip (ps.drop t)):Int)%2=0)=true then _ else _)=_;generalize (piles (w.zip (ps.drop t)):Int)=n;have hn:=md n h2;by_cases h:n%2=0
 .simp[h]
 .have:n%2=1:=by omega
  simp[this]
end L2
namespace L2
open PySem PySem.Spec PyProof.Rows
def evX_fz{R L Sp}(h:R (vw Y)=!d)(f:gq d=false)(hl:L (vw Y)=none)(hs:Sp (vw Y)=none)(hl2:L (eg Y)=none)(h2:R (eg Y)=none):aY R L Sp Y=!((.sh,d),eN Y):=by
 unfold aY aS c8 km ql xy frX aS kj ic;grind
def Jp{K}{st}(n k:Nat)(X:K.In h)(T:h.Ns mainGlobals mg)(o:mg "law"=!(.ref fa))(S:FnScope N ["script"] (aj st))(b:bQ "law" st ["script"])(t:a8 K "law" st)(g:∀base:Heap,K.In base->base.Ns mainGlobals mg->GbOk P w K mg base G)(J:∀r:T5,r.length<=63->gT (tN n k N ["script"] st G [.lst (r.map D.int)])=!(.bl true)):
  ∃fd:FuncData,(∀(s:Shared)(v:Value),BindsTo s fd ⟨[v],[]⟩ [("script",v)])/\∀base:Heap,K.In base->base.Ns mainGlobals mg->FnOk P w K mg base rg (k+1) fa fd ["script"] (Ov K):=by
 let⟨f,oc,od,an,C,kV,p,pm,l,ct,h1,h2,h3,h4⟩:=t
 have e:=o.symm.trans (PySem.W.mg_of X T h1)
 cases e
 have Fn:=kP h2 h3 h4
 refine⟨_,λs v=>.of_eq (b "law" kV p pm an l ct [v] rfl),λbase KB U=>IX (Dq Fn S λl A j s H E I=>?_) J⟩
 exact(qv n).2 _ _ (pG (g base KB U) S l A j s H E I) _
def cn_int{K}(X:K.In h)(g:h.Ns mainGlobals mg)(t:∃t,nsIn K mainGlobals x=!(!(.int i t))):Cn K mg x (.int i):=by
 let⟨t,e⟩:=t;exact⟨_,_,PySem.W.mg_of X g e,(show RelV (.int i) _ from⟨t,rfl⟩),λH=>rfl⟩
def cn_2str{K}(X:K.In h)(r:h.Ns mainGlobals mg)(t:∃(a:Addr)(p:Option Addr)(n:Nat)(o:Array (TZ))(j:Tok)(g:Tok),nsIn K mainGlobals x=!(!(.ref a))/\K.lookup a=!⟨.type "tuple",p,.seq #[.str y j,.str z g] n,o⟩):Cn K mg x (.tup [.str y,.str z]):=by
 let⟨a,p,n,o,j,g,e,l⟩:=t;refine⟨.ref a,_,PySem.W.mg_of X r e,rfl,λH=>⟨a,[.str y,.str z],rfl,.inr ⟨_,_,n,l,rfl,rfl,?_,?_⟩,⟨_,_,rfl,rfl,⟨_,_,rfl,rfl,rfl⟩⟩⟩⟩
 .show 2<=sizeLine;decide
 .exact .cons ⟨j,rfl⟩ (.cons ⟨g,rfl⟩ .nil)
def fl_one{K}(t:∃Ca,nsIn K mainGlobals C=!(!(.ref Ca))/\findIn K (.ref Ca) m=!none)(h:f=m):∀Ca,nsIn K mainGlobals C=!(!(.ref Ca))->NoAttr K Ca f:=by grind [NoAttr]
def Ea{K}(c:TCls K C)(g:nsIn K mainGlobals C=!(!(.ref Ca))):Cls K Ca:=by
 let⟨l,e,j,_,_⟩:=c.ex;grind
def Q0{K}{st}{kV j pm g ct}(a:nsIn K mainGlobals x=!(!(.ref f)))(l:K.lookup f=!⟨r,p,.func (PySem.W.fnOf x x (cm st) (aU st) (aj st) .none kV j pm t g ct),o⟩)(c:PySem.W.codeIn K g x=true)(k:PySem.W.keepIn K (.ref f)=true):a8 K x st:=⟨f,r,p,t,o,kV,j,pm,g,ct,a,l,c,k⟩
def Jq{K}{st}{kV doc pm cdv ct}(a:nsIn K mainGlobals C=!(!(.ref Ca)))(n:findIn K (.ref Ca) m=!(!(.ref f)))(i:PySem.W.isFn K (.ref f)=true)(l:K.lookup f=!⟨oc,od,.func (PySem.W.fnOf m qual (cm st) (aU st) (aj st) .none kV doc pm an cdv ct),osl⟩)(c:PySem.W.codeIn K cdv qual=true)(k:PySem.W.keepIn K (.ref f)=true):oH K C m qual st:=by grind [cm,aU,aj,oH]
def Q1{K}(a:nsIn K mainGlobals C=!(!(.ref Ca)))(j:PySem.W.plainGet K Ca Str.empty=true)(hd:PySem.W.hasDictIn K Ca=true)(po:PySem.W.plainOver K Ca=true)(g:findIn K (.ref Ca) "__setattr__"=!(!(.builtin "object.__setattr__")))(mk:PySem.W.makesIn K Ca=true)(l:PySem.W.keepIn K (.ref Ca)=true):TCls K C:=⟨Ca,a,⟨j,hd,po,g⟩,mk,l⟩
def Tp{K}(a:nsIn K mainGlobals C=!(!(.ref Ca)))(n:findIn K (.ref Ca) m=!none):∃Ca,nsIn K mainGlobals C=!(!(.ref Ca))/\findIn K (.ref Ca) m=!none:=⟨Ca,a,n⟩
def yd{K}(a:nsIn K mainGlobals x=!(!(.int i t))):∃t,nsIn K mainGlobals x=!(!(.int i t)):=⟨t,a⟩
def M9{K}(e:nsIn K mainGlobals x=!(!(.ref a)))(l:K.lookup a=!⟨.type "tuple",od,.seq #[.str y t0,.str z t1] n,sl⟩):
 ∃(a:Addr)(od:Option Addr)(n:Nat)(sl:Array (TZ))(t0:Tok)(t1:Tok),nsIn K mainGlobals x=!(!(.ref a))/\K.lookup a=!⟨.type "tuple",od,.seq #[.str y t0,.str z t1] n,sl⟩:=⟨a,od,n,sl,t0,t1,e,l⟩
structure Chg(S:List Addr)(N:Addr->Prop)(h h':Heap):Prop where
 keep:∀b o,h.get? b=!o->b ∉ S->¬N b->h'.get? b=!o
 slot:∀b o,h.get? b=!o->¬N b->∃sl,h'.get? b=some {o with slots:=sl}
 there:∀b o,h.get? b=!o->∃o',h'.get? b=!o'
def Chg.trans{S:List Addr}{N:Addr->Prop}{h k1 h2:Heap}(a:Chg S N h k1)(b:Chg S N k1 h2):Chg S N h h2 where
 keep:=λc o q x y=>b.keep c o (a.keep c o q x y) x y
 slot:=λc o q y=>by
  let⟨sl,e⟩:=a.slot c o q y;let⟨sl',e'⟩:=b.slot c _ e y;exact⟨sl',e'⟩
 there:=λc o q=>by
  let⟨o',e⟩:=a.there c o q;exact b.there c o' e
def Chg.of{S:List Addr}{N:Addr->Prop}{h h':Heap}(k:∀b o,h.get? b=!o->h'.get? b=!o):Chg S N h h':=
 ⟨λb o q _ _=>k b o q,λb o q _=>⟨o.slots,k b o q⟩,λb o q=>⟨o,k b o q⟩⟩
def Chg.upd{S:List Addr}{N:Addr->Prop}{h:Heap}{a:Addr}{o:Obj}{vs:T7}(f:T7->T7)(e:h.get? a=!o)(d:o.data=.fields vs)(n:N a):Chg S N h (h.update a (Obj.mapFields f)) where
 keep:=λb u q _ y=>by
  have hb:b≠a:=λz=>y (z▸n);rw[Heap.get?_update_other _ _ (Ne.symm hb)];exact q
 slot:=λb u q y=>by
  have hb:b≠a:=λz=>y (z▸n);exact⟨u.slots,by rw[Heap.get?_update_other _ _ (Ne.symm hb)];exact q⟩
 there:=λb u q=>by
  by_cases hb:b=a
  .subst hb;exact⟨_,Heap.get?_update_self _ e (Obj.isFreed_of_fields (Obj.data_mapFields d f))⟩
  .exact⟨u,by rw[Heap.get?_update_other _ _ (Ne.symm hb)];exact q⟩
def AY(f:T7->T7)(o:Obj):(Obj.mapFields f o).dict=o.dict:=by
 unfold Obj.mapFields;split<;>rfl
def  TrX(h:Heap)(N:Addr->Prop)(e:Addr)(cls fl:Value):Prop:=
 ∃oe vs T oT ts,h.get? e=!oe/\(oe.cls=cls/\oe.dict=none)/\oe.data=.fields vs/\N e/\vs[1]?=!(.ref T)/\N T/\T≠e/\h.get? T=!oT/\oT.data=.fields ts/\ts[3]?=!fl
def  Tq(h:Heap)(N:Addr->Prop)(e:Addr)(cls:Value):Prop:=
 ∃oe vs,h.get? e=!oe/\(oe.cls=cls/\oe.dict=none)/\oe.data=.fields vs/\N e/\vs[1]?=some .none
def TrX.mono{h:Heap}{N N':Addr->Prop}{e:Addr}{cls fl:Value}(i:∀b,N b->N' b):TrX h N e cls fl->TrX h N' e cls fl:=
 λ⟨oe,vs,T,oT,ts,a1,a2,a3,a4,a5,a6,a7⟩=>⟨oe,vs,T,oT,ts,a1,a2,a3,i _ a4,a5,i _ a6,a7⟩
def  AnyX(h:Heap)(N:Addr->Prop)(e:Addr)(cls:Value)(L:Addr):Prop:=Tq h N e cls\/TrX h N e cls .none\/TrX h N e cls (rawInt L)
def AnyX.mono{h:Heap}{N N':Addr->Prop}{e:Addr}{cls:Value}{L:Addr}(i:∀b,N b->N' b):AnyX h N e cls L->AnyX h N' e cls L
 |.inl ⟨oe,vs,a1,a2,a3,a4,a5⟩=>.inl ⟨oe,vs,a1,a2,a3,i _ a4,a5⟩
 |.inr (.inl t)=>.inr (.inl (t.mono i))
 |.inr (.inr t)=>.inr (.inr (t.mono i))
section
variable{M:Model}{A:Around}{E:TX}{s:Shared}{N:Addr->Prop}
def AZ{base:Heap}{env:Env}{outer:List Env}{L e:Addr}{oe:Obj}{vs:T7}{hd:Value}{b:Bool}{Q:Unit->Shared->Prop}
  (fq:A.frames=!(env::outer)) (lf:s.heap.FunFrames base (env::outer)) (ff:env.frame=!L)
  (ge:s.heap.get? e=!oe) (dn:oe.dict=none) (hd1:oe.data=.fields vs) (hsz:1<vs.size) (hN:∀b,s.heap.get? b=none->N b) (ne:N e)
  (h:∀h',Chg (frs (env::outer)) N s.heap h'->TrX h' N e oe.cls (rawInt L)->Q () {s with heap:=h'}):
  wpAny M A (do let a<-frameOf env;let pk<-entryPlaceOf L b;let c<-EntryCells.newEntry hd a .none (rawInt L) .none pk;setField (.ref e) 1 c) Q E s:=by
 refine Ud (wpAny_frameOf_fun fq lf ff λg₁ so=>?_)
 refine Ud (wpAny_entryPlaceOf λpk pq=>?_)
 have fr:e ∉ frs (env::outer):=λz=>by
  let⟨_,o,q,w⟩:=lf.mem z;rw[ge]at q;cases q;exact w vs hd1
 have c1:Chg (frs (env::outer)) N s.heap g₁:=⟨λc o q x _=>(so.2.1 c x).trans q,λc o q _=>so.2.2 c o q,λc o q=>(so.2.2 c o q).elim λsl z=>⟨_,z⟩⟩
 have he₁:g₁.get? e=!oe:=(so.2.1 e fr).trans ge
 unfold EntryCells.newEntry newFields
 refine Ud (wpAny_newObj_type ?_ (pq.sizeOk5 _ _ _ _ _))
 have he₂:=Ue (h:=g₁) {cls:=.type "traceback",data:=.fields ([hd,.ref L,.none,rawInt L,.none]++(if pk.isEmpty then List.replicate 6 Value.none else pk)).toArray} he₁
 have c2:Chg (frs (env::outer)) N g₁ (g₁.push {cls:=.type "traceback",data:=.fields ([hd,.ref L,.none,rawInt L,.none]++(if pk.isEmpty then List.replicate 6 Value.none else pk)).toArray}):=Chg.of λc o q=>Ue _ q
 refine wpAny_setField he₂ hd1 hsz (h _ ((c1.trans c2).trans (Chg.upd _ he₂ hd1 ne)) ?_)
 have ne':g₁.objs.size≠e:=Nat.ne_of_gt (Uh he₁)
 have nT:N g₁.objs.size:=hN _ (Heap.get?_none_of_le (by rw[so.1];exact UB _))
 have d3:=Obj.data_mapFields hd1 (·.setIfInBounds 1 (Value.ref g₁.objs.size))
 refine⟨_,_,g₁.objs.size,_,_,Heap.get?_update_self _ he₂ (Obj.isFreed_of_fields d3),⟨Obj.cls_mapFields _ _,(AY _ _).trans dn⟩,d3,ne,by simp[hsz],nT,ne',(Heap.get?_update_other _ _ (Ne.symm ne')).trans (Ui g₁ rfl),rfl,?_⟩
 first|(simp;done)|(rcases pq with rfl|⟨_,_,_,_,_,_,_,rfl⟩<;>simp)
def A4{base:Heap}{env:Env}{outer:List Env}{L e:Addr}{cls:Value}{Q:Unit->Shared->Prop}
  (fq:A.frames=!(env::outer)) (lf:s.heap.FunFrames base (env::outer)) (ff:env.frame=!L) (hN:∀b,s.heap.get? b=none->N b)
  (hx:AnyX s.heap N e cls L)
  (h:∀h',Chg (frs (env::outer)) N s.heap h'->TrX h' N e cls (rawInt L)->Q () {s with heap:=h'}):
  wpAny M A (noteFrame (.ref e) env) Q E s:=by
 unfold noteFrame
 simp only[ff]
 rcases hx with⟨oe,vs,ge,⟨hc,dn⟩,hd,ne,k1⟩|⟨oe,vs,T,oT,ts,ge,⟨hc,dn⟩,hd,ne,k1,nT,hT,eT,dT,k3⟩|t
 .subst hc;refine Ud (wpAny_field ge hd k1 ?_);rw[if_neg (!4)];exact AZ fq lf ff ge dn hd (Array.getElem?_eq_some_iff.mp k1).1 hN ne h
 .subst hc;refine Ud (wpAny_field ge hd k1 ?_);rw[if_pos (show(Value.ref T !=Value.none)=true by simp)];refine Ud (wpAny_field eT dT k3 ?_);rw[if_neg (show¬ ((Value.none==rawInt L)=true)by simp[rawInt])];refine Ud (wpAny_setField eT dT (Array.getElem?_eq_some_iff.mp k3).1 ?_);have c0:Chg (frs (env::outer)) N s.heap (s.heap.update T (Obj.mapFields (·.setIfInBounds 3 Value.none))):=Chg.upd _ eT dT nT;refine AZ (base:=base) (s:={s with heap:=s.heap.update T (Obj.mapFields (·.setIfInBounds 3 Value.none))}) (oe:=oe) (vs:=vs) fq ?_ ff ?_ dn hd (Array.getElem?_eq_some_iff.mp k1).1 ?_ ne λh' c t=>h h' (c0.trans c) t
  .refine lf.of_keeps λb o q w=>?_;have hb:b≠T:=λz=>by
    rw[z,eT]at q;cases q;exact w ts dT
   exact⟨o,by rw[Heap.get?_update_other _ _ (Ne.symm hb)];exact q,rfl⟩
  .rw[Heap.get?_update_other _ _ hT];exact ge
  .intro b q;cases e2:s.heap.get? b with
   |none=>exact hN b e2
   |some o=>
    let⟨o',z⟩:=c0.there b o e2;rw[z]at q;cases q
 .have t':=t;let⟨oe,vs,T,oT,ts,ge,hc,hd,ne,k1,nT,hT,eT,dT,k3⟩:=t;refine Ud (wpAny_field ge hd k1 ?_);rw[if_pos (show(Value.ref T !=Value.none)=true by simp)];refine Ud (wpAny_field eT dT k3 ?_);rw[if_pos (show(rawInt L==rawInt L)=true by simp)];exact Ug (h s.heap (Chg.of λ_ _ q=>q) t')
def qH{S:List Addr}{e:Addr}{cls fl:Value}{Q:Unit->Shared->Prop}(hx:TrX s.heap N e cls fl)
  (h:∀h',Chg S N s.heap h'->TrX h' N e cls .none->Q () {s with heap:=h'}):wpAny M A (setFlight (.ref e) none) Q E s:=by
 let⟨oe,vs,T,oT,ts,ge,hc,hd,ne,k1,nT,hT,eT,dT,k3⟩:=hx
 have z3:3<ts.size:=(Array.getElem?_eq_some_iff.mp k3).1
 unfold setFlight
 refine Ud (wpAny_field ge hd k1 ?_)
 rw[if_pos (show(Value.ref T !=Value.none)=true by simp)]
 refine wpAny_setField eT dT z3 (h _ (Chg.upd _ eT dT nT) ?_)
 refine⟨oe,vs,T,_,_,?_,hc,hd,ne,k1,nT,hT,Heap.get?_update_self _ eT (Obj.isFreed_of_fields (Obj.data_mapFields dT _)),Obj.data_mapFields dT _,by simp[z3]⟩
 rw[Heap.get?_update_other _ _ hT];exact ge
def Eb{S:List Addr}{e:Addr}{cls fl:Value}{L:Addr}{Q:Unit->Shared->Prop}(hx:TrX s.heap N e cls fl)
  (h:∀h',Chg S N s.heap h'->TrX h' N e cls (rawInt L)->Q () {s with heap:=h'}):wpAny M A (do
   if(<-field (.ref e) 1)==.none then unsupported "frame.own-activation:exception-without-traceback"
   setFlight (.ref e) (!L)) Q E s:=by
 let⟨oe,vs,T,oT,ts,ge,hc,hd,ne,k1,nT,hT,eT,dT,k3⟩:=hx
 have z3:3<ts.size:=(Array.getElem?_eq_some_iff.mp k3).1
 refine Ud (wpAny_field ge hd k1 ?_)
 rw[if_neg (show¬ ((Value.ref T==Value.none)=true)by simp)]
 have step:wpAny M A (setFlight (.ref e) (!L)) Q E s:=by
  unfold setFlight;refine Ud (wpAny_field ge hd k1 ?_);rw[if_pos (show(Value.ref T !=Value.none)=true by simp)];refine wpAny_setField eT dT z3 (h _ (Chg.upd _ eT dT nT) ?_);refine⟨oe,vs,T,_,_,?_,hc,hd,ne,k1,nT,hT,Heap.get?_update_self _ eT (Obj.isFreed_of_fields (Obj.data_mapFields dT _)),Obj.data_mapFields dT _,by simp[z3]⟩;rw[Heap.get?_update_other _ _ hT];exact ge
 first
  |exact Ud (Ug step)
  |exact step
def Jr{base:Heap}{env:Env}{outer:List Env}{L e:Addr}{cls:Value}{Q:Unit->Shared->Prop}
  (fq:A.frames=!(env::outer)) (lf:s.heap.FunFrames base (env::outer)) (ff:env.frame=!L) (hN:∀b,s.heap.get? b=none->N b)
  (hx:AnyX s.heap N e cls L)
  (h:∀h',Chg (frs (env::outer)) N s.heap h'->TrX h' N e cls .none->Q () {s with heap:=h'}):
  wpAny M A (leaving env (.ref e)) Q E s:=by
 unfold leaving
 refine Ud (A4 fq lf ff hN hx λk1 c1 t1=>?_)
 exact qH (s:={s with heap:=k1}) t1 λh2 c2 t2=>h h2 (c1.trans c2) t2
end
def ObjOk.has{P:Program}{w:World}{H:Hp}{h:Heap}{a:Addr}{o:HO}(x:ObjOk P w H h a o):∃u,h.get? a=!u:=by
 cases o with
 |lst xs=>let⟨_,_,_,_,e⟩:=x;exact⟨_,e⟩
 |tup xs=>let⟨_,_,_,_,e,_⟩:=x;exact⟨_,e⟩
 |dK kvs=>let⟨_,_,_,_,o,_,_,e,_⟩:=x;exact⟨_,e⟩
 |dT kvs=>let⟨_,_,_,_,o,_,_,e,_⟩:=x;exact⟨_,e⟩
 |set S n=>let⟨o,_,_,_,e,_⟩:=x;exact⟨_,e⟩
 |ins C dx fs=>let⟨_,_,_,e,_⟩:=x;exact⟨_,e⟩
 |own y=>let⟨_,e⟩:=x;exact⟨_,e⟩
 |xd fs=>let⟨_,⟨_,_,_,e,_⟩,_⟩:=x;exact⟨_,e⟩
 |rng lo hi=>let⟨_,_,_,e⟩:=x;exact⟨_,e⟩
 |frz ob u=>let⟨e,_⟩:=x;exact⟨_,e⟩
 |tbl ps=>exact⟨_,(show h.get? a=some _ from x)⟩
 |met f y=>exact⟨_,(show h.get? a=some _ from x)⟩
 |ext φ=>let⟨_,⟨_,e⟩,_⟩:=x;exact⟨_,e⟩
def  Na(g:Heap)(H:Hp)(b:Addr):Prop:=g.get? b=none/\H b=none
def Un.chg{fs:List Addr}{L:Addr}{H0 H:Hp}{g h h':Heap}(u:Un fs [] H0 H g h)(c:Chg (L::fs) (Na g H) h h')(hL:g.get? L=none):Un fs [] H0 H g h' where
 keep:=λb o q n x y=>c.keep b o (u.keep b o q n x y) (λz=>(mem_cons.mp z).elim (λe=>by rw[e,hL]at q;cases q) x) λz=>by rw[z.1]at q;cases q
 slot:=λb o q n x y=>by
  let⟨sl,e⟩:=u.slot b o q n x y;let⟨sl',e'⟩:=c.slot b _ e λz=>by rw[z.1]at q;cases q
  exact⟨sl',e'⟩
 free:=u.free
 there:=λb o q y=>by
  let⟨o',e⟩:=u.there b o q y;exact c.there b o' e
 tups:=u.tups
 frzs:=u.frzs
 tbls:=u.tbls
def HOk.chg{P:Program}{w:World}{S:List Addr}{g h h':Heap}{H:Hp}(x:HOk P w H h)(c:Chg S (Na g H) h h')(hS:∀b∈S,H b=none):HOk P w H h':=λa o e=>
 (x a o e).stay (λb u z q=>by
  have hb:H b≠none:=by
   rcases z with rfl|z
   .rw[e];intro y;cases y
   .rw[z];intro y;cases y
  exact c.keep b u q (λy=>hb (hS b y)) λy=>hb y.2) (λ_ q=>q) λ_ _ q=>q
def  F9(P:Program)(w:World):Cp:=λouter H s E e s'=>
 ∃a C H',e=.ref a/\TrX s'.heap (Na s.heap H') a (.ref C) .none/\s'.os=s.os/\AllBare s'.gens/\Un (frs outer) [] H H' s.heap s'.heap/\HOk P w H' s'.heap/\E (.ref C) none H'
def Q2{P:Program}{w:World}{K:Frag}{mg:Str->TZ}{base:Heap}{NN:T3}{qual:Str}{scope:Scope}{f:Addr}{cd:Value}{A:Around}{outer:List Env}{s0:Shared}{H0:Hp}{E:XK}{pins:TU}{σ:St}{H:Hp}{s':Shared}{e C:Addr}(I:Inv (jK (F9 P w) P w K mg base NN qual scope f cd A outer s0 H0 E) pins σ H s')
  (hx:AnyX s'.heap (Na s0.heap H) e (.ref C) s0.heap.objs.size) (q:E (.ref C) none H):
  (jK (F9 P w) P w K mg base NN qual scope f cd A outer s0 H0 E).xe (.ref e) s':=by
 have ff:(envOfC qual scope s0.heap.objs.size f cd).frame=!s0.heap.objs.size:=rfl
 have hN:∀b,s'.heap.get? b=none->Na s0.heap H b:=λb z=>by
  refine⟨?_,?_⟩
  .cases e2:s0.heap.get? b with
   |none=>rfl
   |some o=>
    let⟨o',y⟩:=I.base.there b o e2 (by intro y;cases y);rw[y]at z;cases z
  .cases e2:H b with
   |none=>rfl
   |some o=>
    let⟨o',z'⟩:=(I.hok b o e2).has;rw[z']at z;cases z
 refine Jr (base:=base) I.ok.frames I.stack ff hN hx λh' c t=>?_
 refine⟨e,C,H,rfl,t,I.os,I.bare,?_,?_,q⟩
 .refine Un.chg (L:=s0.heap.objs.size) I.base ?_ (Heap.get?_none_of_le (UB _));exact c
 .exact HOk.chg I.hok c I.stkFree
def  NP(X:Cx)(pins:TU)(H:Hp)(b:Addr):Prop:=
 X.s₀.heap.get? b=none/\H b=none/\b≠X.env.locals/\(∀x c,X.env.cells.lookup x=!c->c≠b)/\(∀p∈X.pn++pins,p.1≠b)/\b ∉ frs X.stack
section
variable{X:Cx}{pins:TU}{σ:St}{H H':Hp}{s s':Shared}
def Inv.nowh(I:Inv X pins σ H s)(hx:X.ex=[]){b:Addr}(q:s.heap.get? b=none):NP X pins H b:=by
 refine⟨?_,?_,?_,?_,?_,?_⟩
 .cases e:X.s₀.heap.get? b with
  |none=>rfl
  |some o=>
   let⟨o',y⟩:=I.base.there b o e (by rw[hx];intro z;cases z);rw[y]at q;cases q
 .cases e:H b with
  |none=>rfl
  |some o=>
   let⟨o',y⟩:=(I.hok b o e).has;rw[y]at q;cases q
 .rintro rfl;let⟨m,⟨o,_,_,e,_⟩,_⟩:=I.loc;rw[e]at q;cases q
 .rintro x c e rfl;let⟨v,o,e1,_⟩:=I.cell x c e;rw[e1]at q;cases q
 .rintro p hp rfl;have:=(I.pin p hp).1;rw[this]at q;cases q
 .intro z;let⟨_,o,e,_⟩:=I.stack.mem z;rw[e]at q;cases q
def Inv.chg(I:Inv X pins σ H s)(hx:X.ex=[]){h':Heap}(c:Chg (frs X.stack) (NP X pins H) s.heap h'):Inv X pins σ H {s with heap:=h'}:=by
 have out:∀b,b∈frs X.stack->b≠X.env.locals->b∈X.fs:=λb z n=>(mem_cons.mp (I.stkSub b z)).elim (λe=>absurd e n) id;refine⟨I.ok,I.os,I.bare,?_,?_,?_,I.free,I.freeC,?_,?_,I.len⟩
 .have u:=I.base;refine⟨λb o q n x y=>?_,λb o q n x y=>?_,u.free,λb o q y=>?_,u.tups,u.frzs,u.tbls⟩
  .refine c.keep b o (u.keep b o q n x y) (λz=>?_) λz=>?_
   .rcases mem_cons.mp (I.stkSub b z)with e|e
    .rw[e]at q;exact absurd (Uh q) (Nat.not_lt_of_le I.ok.above)
    .exact x e
   .rw[z.1]at q;cases q
  .let⟨sl,e⟩:=u.slot b o q n x y;let⟨sl',e'⟩:=c.slot b _ e λz=>by rw[z.1]at q;cases q
   exact⟨sl',e'⟩
  .let⟨o',e⟩:=u.there b o q y;exact c.there b o' e
 .let⟨m,⟨o,es,ep,e,r⟩,f⟩:=I.loc;let⟨sl,e'⟩:=c.slot _ o e λz=>z.2.2.1 rfl;refine⟨m,⟨_,es,ep,e',r⟩,λi x v a1 a2 a3=>?_⟩;let⟨u,r',l⟩:=f i x v a1 a2 a3;refine⟨u,r',?_⟩;rcases l with l|⟨l1,k,l2,o2,e2,d2⟩
  .exact .inl l
  .let⟨sl2,e3⟩:=c.slot k o2 e2 λz=>z.2.2.2.1 x k l2 rfl;exact .inr ⟨l1,k,l2,_,e3,d2⟩
 .intro x k l;let⟨v,o2,e2,d2⟩:=I.cell x k l;let⟨sl2,e3⟩:=c.slot k o2 e2 λz=>z.2.2.2.1 x k l rfl;exact⟨v,_,e3,d2⟩
 .intro p hp;let⟨a1,a2,a3,a4,a5⟩:=I.pin p hp;refine⟨c.keep p.1 p.2 a1 (λz=>?_) (λz=>z.2.2.2.2.1 p hp rfl),a2,a3,a4,a5⟩;rcases mem_cons.mp (I.stkSub _ z)with e|e
  .exact a3 e
  .exact a4 e
 .exactλa o e=>(I.hok a o e).stay (λb u z q=>by
   have hb:H b≠none:=by
    rcases z with rfl|z
    .rw[e];intro y;cases y
    .rw[z];intro y;cases y
   exact c.keep b u q (λy=>hb (I.stkFree b y)) λy=>hb y.2.1) (λ_ q=>q) λ_ _ q=>q
def Inv.raised{P:Program}{w:World}{E:XK}{e:Value}(I:Inv X pins σ H s)(hx:X.ex=[])(hc:F9 X.prog X.w X.stack H s E e s'):
  ∃a C H',e=.ref a/\Inv X pins σ H' s'/\TrX s'.heap (NP X pins H') a (.ref C) .none/\E (.ref C) none H':=by
 let⟨a,C,H',rfl,t,os,br,u,ok,q⟩:=hc
 have I':=I.call' os u ok br λb z=>by cases z
 refine⟨a,C,H',rfl,I',t.mono λb z=>?_,q⟩
 have n:=I.nowh hx z.1
 exact⟨n.1,z.2,n.2.2⟩
end
def  SX(X:Cx)(B:Bs)(x:Str)(e:Value)(s:Shared):Prop:=
 ∃a C pins σ H O Y,e=.ref a/\Inv X pins σ H s/\EnvOk X.K B O σ H Y/\nsIn X.K mainGlobals x=!(!(.ref C))/\AnyX s.heap (NP X pins H) a (.ref C) X.env.locals
structure Own(X:Cx):Prop where
 ex:X.ex=[]
 stk:X.stack=X.env::X.outer
 fr:X.env.frame=!X.env.locals
def SX.pass{X:Cx}(o:Own X)(B:Bs)(x:Str):PassesOwn (!5) X.A X.env (SX X B x):=by
 rintro _ s ⟨a,C,pins,σ,H,O,Y,rfl,I,E,hC,t⟩;have fr:X.A.frames=!(X.env::X.outer):=by rw[I.ok.frames,o.stk]
 have st:s.heap.FunFrames X.base (X.env::X.outer):=by rw[<-o.stk];exact I.stack
 refine A4 fr st o.fr (λb q=>I.nowh o.ex q) t λh1 c1 t1=>?_;have I1:=I.chg o.ex (h':=h1) (by rw[o.stk];exact c1);show wpAny _ _ _ _ _ _;rw[o.fr];refine Eb (S:=frs X.stack) (s:={s with heap:=h1}) t1 λh2 c2 t2=>?_;exact⟨a,C,pins,σ,H,O,Y,rfl,I1.chg o.ex c2,E,hC,.inr (.inr t2)⟩
def  PZ(X:Cx)(st:List Stmt)(G:Ev->Option Str):Prop:=∀B O Y x pins s σ H,G Y=!x->Inv X pins σ H s->EnvOk X.K B O σ H Y->
 wpAny (!5) X.A (execs st X.env) (λ_ _=>False) (SX X B x) s
def  uV(X:Cx)(st:Stmt)(G:Ev->Option Str):Prop:=∀B O Y x pins s σ H,G Y=!x->Inv X pins σ H s->EnvOk X.K B O σ H Y->
 wpAny (!5) X.A (exec st X.env) (λ_ _=>False) (SX X B x) s
noncomputable def  jj:Ev->Option Str:=λ_=>none
noncomputable def  OF(F:TM)(G:Ev->Option Str):Ev->Option Str:=λY=>(F Y).bind λo=>match o with|.nx Y'=>G Y'|_=>none
section
variable{X:Cx}{st:Stmt}{rest:List Stmt}{F:TM}{G G':Ev->Option Str}
def Ga:PZ X rest jj:=λ_ _ _ _ _ _ _ _ q=>by cases q
def iG:uV X st jj:=λ_ _ _ _ _ _ _ _ q=>by cases q
def Nb(h:PZ X rest G)(h':PZ X rest G'):PZ X rest (aS G G'):=λB O Y x pins s σ H q I E=>by
 rcases or_some q with q|q
 .exact h B O Y x pins s σ H q I E
 .exact h' B O Y x pins s σ H q I E
def wx(h:uV X st G):PZ X (st::rest) G:=λB O Y x pins s σ H q I E=>
 wpAny_execs_cons (bu (h B O Y x pins s σ H q I E) λ_ _ z=>False.elim z)
def Nc(h:PR X.nox st F){B:Bs}{O:T6}{Y Y':Ev}{pins:TU}{s:Shared}{σ:St}{H:Hp}{E':TX}{Q:Flow->Shared->Prop}(q:F Y=!(.nx Y'))(I:Inv X pins σ H s)(E:EnvOk X.K B O σ H Y)
  (k:∀O' σ' H' s',Inv X pins σ' H' s'->EnvOk X.K B O' σ' H' Y'->Q .next s'):wpAny (!5) X.A (exec st X.env) Q E' s:=by
 refine UC (h B O Y pins s σ H {nx:=λσ' H'=>∃O',EnvOk X.K B O' σ' H' Y',rt:=λ_ _=>False} (I.wish _) ⟨E,_,q,λσ' H' O' _ E'=>⟨O',E'⟩⟩) (λf s' z=>?_) λ_ _ z=>False.elim z
 cases f with
 |next=>
  let⟨σ',H',I',O',E'⟩:=z;exact k O' σ' H' s' I'.unwish E'
 |brk=>let⟨_,_,_,z⟩:=z;exact False.elim z
 |cont=>let⟨_,_,_,z⟩:=z;exact False.elim z
 |ret u=>let⟨_,_,_,_,_,z⟩:=z;exact False.elim z
def Ec(h:PR X.nox st F)(h':PZ X rest G):PZ X (st::rest) (OF F G):=λB O Y x pins s σ H q I E=>by
 let⟨o,q1,q2⟩:=UD q;cases o with
 |nx Y'=>exact wpAny_execs_cons (Nc h q1 I E λO' σ' H' s' I' E'=>h' B O' Y' x pins s' σ' H' q2 I' E')
 |_=>cases q2
end
noncomputable abbrev Q3:TY:=[.type "ValueError",.type "Exception",.type "BaseException",.type "object"]
structure RCls(K:Frag)(mg:Str->TZ)(base:Heap)(x:Str):Prop where
 ex:∃C,nsIn K mainGlobals x=!(!(.ref C))/\OwnCls x C Q3 "ValueError.__new__" mg base
noncomputable def  Ed(x:Str):Ev->Option Str:=λ_=>!x
def A5{X:Cx}{x:Str}(o:Own X)(hc:X.calm=true)(c:RCls X.K X.mg X.base x)(gl:Gl X x){m:Str}{j:Nat}{np mp cpos pos:Pos}(hd:(!8)=false):uV X (.Raise (!(.Call (.Name x np) [.Constant (.str m) j mp] [] cpos)) none pos) (Ed x):=by
 intro B O Y y pins s σ H q I E;cases q;let⟨C,hC,oc⟩:=c.ex;let⟨tl,N,nm,qn,bs,hdct,sn,sub,ab,col,dd,k0,k1,k2,k3,k5,mN,hO,hN,hni,T⟩:=oc.obj;refine wpAny_Raise_call_subT (C:=C) (nm:=nm) (q:=qn) (N:=N) (bs:=bs) (bm:=tl) (hdct:=hdct) (sn:=sn) (sub:=sub) (ab:=ab) (col:=col) (dd:=dd) (k0:=k0) (k1:=k1) (k2:=k2) (k3:=k3) (k5:=k5)
  PySem.F.excBase_ValueError (mN:=mN) (T.hasType PySem.F.excBase_ValueError.hasBase) (I.ok.hd hc) rfl hni (gr I gl oc.bound ⟨rfl,?_⟩ hd)
 have h:=(bv (X:=X.wish (SX X B x)) (pe_str (x:=m) (j:=j) (pos:=mp)) pa_nil) cpos pins s σ H (λvs H1=>vs.length<=sizeLine/\H1=H) (I.wish _) ⟨(show 1<=sizeLine by decide),rfl⟩;refine Calls.evalArgs_plain (UC h (λus s2 z=>?_) λ_ _ z=>z);let⟨vs,H1,I2,r,hl,rfl⟩:=z;have I2:=I2.unwish;refine⟨rfl,by rw[<-r.length];exact hl,I2.bk _ _ hO,hN.keeps I2.bk,T.keeps I2.bk,λh' e mk=>?_⟩;have I3:Inv X pins σ H1 {s2 with heap:=h'}:=I2.kept (t':=s2.toks) mk.keeps;let⟨t,he,_,_⟩:=mk.there;exact⟨e,C,pins,σ,H1,O,Y,rfl,I3,E,hC,.inl ⟨_,_,he,⟨rfl,rfl⟩,rfl,I2.nowh o.ex mk.new,rfl⟩⟩
def  EX(X:Cx)(B:Bs)(O:T6)(Y:Ev)(pins:TU)(σ:St)(H0:Hp)(x:Str)(e:Value)(s:Shared):Prop:=
 ∃a C H,e=.ref a/\Same H0 H/\Inv X pins σ H s/\EnvOk X.K B O σ H Y/\nsIn X.K mainGlobals x=!(!(.ref C))/\TrX s.heap (NP X pins H) a (.ref C) .none
def EX.sx{X:Cx}{B:Bs}{O:T6}{Y:Ev}{pins:TU}{σ:St}{H0:Hp}{x:Str}{e:Value}{s:Shared}:EX X B O Y pins σ H0 x e s->SX X B x e s:=
 λ⟨a,C,H,h1,_,h2,h3,h4,h5⟩=>⟨a,C,pins,σ,H,O,Y,h1,h2,h3,h4,.inr (.inl h5)⟩
def  PZE(X:Cx)(e:Expr)(G:Ev->Option Str):Prop:=∀B O Y x pins s σ H,G Y=!x->Inv X pins σ H s->EnvOk X.K B O σ H Y->
 wpAny (!5) X.A (eval e X.env) (λ_ _=>False) (EX X B O Y pins σ H x) s
def  Nd(K:Frag)(g:T9->Option Str):Sp:=λvs H _ E=>∃O ds x,(∀b,O b=true->Hid (H b))/\IsL K (msk O H) ds vs/\g ds=!x/\∀C H',nsIn K mainGlobals x=!(!(.ref C))->Same H H'->E (.ref C) none H'
structure Dx(P:Program)(w:World)(K:Frag)(mg:Str->TZ)(base:Heap)(f:Str)(k:Nat)(g:T9->Option Str):Prop where
 ex:∃(a:Addr)(fd:FuncData)(ps:T3),mg f=!(.ref a)/\PySem.W.keepIn K (.ref a)=true/\Binds K fd ps []/\FnOk P w K mg base (F9 P w) k a fd ps (Nd K g)
structure Mx(P:Program)(w:World)(K:Frag)(mg:Str->TZ)(base:Heap)(C:Str)(k:Nat)(g:T9->Option Str):Prop where
 ex:∃(Ca fa:Addr)(fd:FuncData)(ps:T3)(g':T9->Option Str),mg C=!(.ref Ca)/\Mk K Ca fa/\Binds K fd ps []/\FnOk P w K mg base (F9 P w) k fa fd ps (Nd K g')/\∀ds x,g ds=!x->∀y,g' (.adr y::ds)=!x
def  rp(xs:TK)(g:T9->Option Str):Ev->Option Str:=λY=>(xs (vw Y)).bind g
section
variable{X:Cx}{x f:Str}{e:Expr}{es:Ua}{p pos:Pos}{k:Nat}{g:T9->Option Str}{fa:TK}
def A6(o:Own X)(D:Dx X.prog X.w X.K X.mg X.base f k g)(hr:Room k X.A)(gl:Gl X f)(ha:∀E,PX (X.wish E) (e::es) fa)(hdb:(f==("__debug__":Str))=false)
  (he:starEach (e::es) X.env=(false,eval e X.env)::starEach es X.env) (hpl:(!18).any (·.1)=false):PZE X (.Call (.Name f p) (e::es) [] pos) (rp fa g):=by
 intro B O Y x pins s σ H q I E
 let⟨ds,q1,q2⟩:=UD q
 let⟨a,fd,ps,hm,hk,hb,F⟩:=D.ex
 refine wpAny_Call_Name_kw (gr I gl hm ?_ hdb)
 refine PySem.W.callWith_K (h₀:=X.base) I.ok.mod.kin hk (bu ((ha (EX X B O Y pins σ H x)) j3 (vw Y) pos pins s σ H (λvs H1=>Same H H1/\IsL X.K H1 ds vs) (I.wish _) ⟨E.view,ds,q1,λvs H1 s1 il=>⟨s1,by rw[gy]at il;exact il⟩⟩) λus s1 ⟨vs,H1,I1,r,s2,il⟩=>⟨I1.unwish.kIn,?_⟩) he hpl
 have I1:=I1.unwish
 have hsp:Nd X.K g vs H1 (λ_ _=>False) (λcl _ H'=>Same H1 H'/\∃C,cl=.ref C/\nsIn X.K mainGlobals x=!(!(.ref C))):=⟨j3,ds,x,λ_ z=>(nomatch z),by rw[gy];exact il,q2,λC H' hC s=>⟨s,C,rfl,hC⟩⟩
 have hl:us.length=ps.length:=by rw[<-r.length];exact F.len _ _ _ _ hsp
 have hb':=hb s1 us I1.kIn (by rw[List.append_nil];exact hl)
 rw[List.append_nil]at hb'
 refine wpAny_call (codeAny_mono (F.run X.A X.stack s1 H1 ⟨us,[]⟩ us vs _ _ hr I1.env0 hb' r hsp) λr s' hq=>?_)
 cases r with
 |error ev=>
  let⟨a,C,H',rfl,I2,t,s3,C',e1,hC⟩:=I1.raised (P:=X.prog) (w:=X.w) (e:=ev) (s':=s') (E:=λcl _ H'=>Same H1 H'/\∃C,cl=.ref C/\nsIn X.K mainGlobals x=!(!(.ref C))) o.ex hq;cases e1;exact⟨a,C,H',rfl,s2.trans s3,I2,E.grow (s2.trans s3),hC,t⟩
 |ok fl=>
  cases fl with
  |ret u=>let⟨_,_,_,_,_,_,_,z⟩:=hq;exact False.elim z
  |next=>exact False.elim hq
  |brk=>exact False.elim hq
  |cont=>exact False.elim hq
def A7(o:Own X)(D:Mx X.prog X.w X.K X.mg X.base f k g)(hr:Room (k+1) X.A)(gl:Gl X f)(ha:∀E,PX (X.wish E) (e::es) fa)(hdb:(f==("__debug__":Str))=false)
  (he:starEach (e::es) X.env=(false,eval e X.env)::starEach es X.env) (hpl:(!18).any (·.1)=false):PZE X (.Call (.Name f p) (e::es) [] pos) (rp fa g):=by
 intro B O Y x pins s σ H q I E
 let⟨ds,q1,q2⟩:=UD q
 let⟨Ca,f1,fd,ps,g',hm,M,hb,F,hg⟩:=D.ex
 refine wpAny_Call_Name_kw (gr I gl hm ?_ hdb)
 refine PySem.W.callWith_K (h₀:=X.base) I.ok.mod.kin M.kp (bu ((ha (EX X B O Y pins σ H x)) j3 (vw Y) pos pins s σ H (λvs H1=>Same H H1/\IsL X.K H1 ds vs) (I.wish _) ⟨E.view,ds,q1,λvs H1 s1 il=>⟨s1,by rw[gy]at il;exact il⟩⟩) λus s1 ⟨vs,H1,I1,r,s2,il⟩=>⟨I1.unwish.kIn,?_⟩) he hpl
 have I1:=I1.unwish
 have I2:=Inv.made (C:=Ca) I1
 have f0:H1 s1.heap.objs.size=none:=I1.hok.fresh (UB _)
 have f1':H1 (s1.heap.objs.size+1)=none:=I1.hok.fresh (Nat.le_succ _)
 have sm:Same H1 (upd (upd H1 s1.heap.objs.size (.own (s1.heap.objs.size+1))) (s1.heap.objs.size+1) (.ins Ca s1.heap.objs.size [])):=λb u z=>by
  have n0:b≠s1.heap.objs.size:=λy=>by rw[y,f0]at z;cases z
  have n1:b≠s1.heap.objs.size+1:=λy=>by rw[y,f1']at z;cases z
  rw[al n1,al n0];exact z
 have hsp:Nd X.K g' (.ref (s1.heap.objs.size+1)::vs) (upd (upd H1 s1.heap.objs.size (.own (s1.heap.objs.size+1))) (s1.heap.objs.size+1) (.ins Ca s1.heap.objs.size [])) (λ_ _=>False) (λcl _ H'=>Same H1 H'/\∃C,cl=.ref C/\nsIn X.K mainGlobals x=!(!(.ref C))):=
  ⟨j3,.adr (s1.heap.objs.size+1)::ds,x,λ_ z=>(nomatch z),by rw[gy];exact⟨_,_,rfl,rfl,IsL.mono sm _ _ il⟩,hg ds x q2 _,λC H' hC s=>⟨sm.trans s,C,rfl,hC⟩⟩
 have r2:Vals (V.ref (s1.heap.objs.size+1)::vs) (Value.ref (s1.heap.objs.size+1)::us):=.cons rfl r
 have hl:(Value.ref (s1.heap.objs.size+1)::us).length=ps.length:=by rw[<-r2.length];exact F.len _ _ _ _ hsp
 have hb':=hb _ (Value.ref (s1.heap.objs.size+1)::us) I2.kIn (by rw[List.append_nil];exact hl)
 rw[List.append_nil]at hb'
 refine wpAny_call (rJ (f:=f1) I1.kIn M.makes M.init (beq_iff_eq.mp M.fn) (codeAny_mono (F.run _ X.stack _ _ ⟨Value.ref (s1.heap.objs.size+1)::us,[]⟩ (Value.ref (s1.heap.objs.size+1)::us) _ _ _ (hr.make Ca us [])
  (I2.env0.make Ca us []) hb' r2 hsp) λr s' hq=>?_))
 cases r with
 |error ev=>
  let⟨a,C,H',rfl,I3,t,s3,C',e1,hC⟩:=I2.raised (P:=X.prog) (w:=X.w) (e:=ev) (s':=s') (E:=λcl _ H'=>Same H1 H'/\∃C,cl=.ref C/\nsIn X.K mainGlobals x=!(!(.ref C))) o.ex hq;cases e1;exact⟨a,C,H',rfl,s2.trans s3,I3,E.grow (s2.trans s3),hC,t⟩
 |ok fl=>
  cases fl with
  |ret u=>let⟨_,_,_,_,_,_,_,z⟩:=hq;exact False.elim z
  |next=>exact False.elim hq
  |brk=>exact False.elim hq
  |cont=>exact False.elim hq
end
section
variable{X:Cx}{e c tg iter:Expr}{st:Stmt}{pos:Pos}{G G':Ev->Option Str}{a b body:List Stmt}
def Js(h:uV X st G)(h':uV X st G'):uV X st (aS G G'):=λB O Y x pins s σ H q I E=>by
 rcases or_some q with q|q
 .exact h B O Y x pins s σ H q I E
 .exact h' B O Y x pins s σ H q I E
def  tZ(K:Frag)(B:Bs)(G:Ev->Option Str)(x:Str):TE:=λσ H _=>∃O Y,EnvOk K B O σ H Y/\G Y=!x
def PZE.pe(h:PZE X e G)(B:Bs)(x:Str):PE (X.wish (SX X B x)) e (tZ X.K B G x):=λpins s σ H Q I ⟨O,Y,E,q⟩=>
 UC (h B O Y x pins s σ H q I.unwish E) (λ_ _ z=>False.elim z) λ_ _ z=>z.sx
noncomputable def  nE:Ends:={nx:=λ_ _=>False,rt:=λ_ _=>False}
def A8{pins:TU}{f:Flow}{s:Shared}:SP X pins nE f s->False:=λz=>by
 cases f with
 |next=>let⟨_,_,_,z⟩:=z;exact z
 |brk=>let⟨_,_,_,z⟩:=z;exact z
 |cont=>let⟨_,_,_,z⟩:=z;exact z
 |ret u=>let⟨_,_,_,_,_,z⟩:=z;exact z
def nN{t:Bs->Str->TS}(h:∀B x,PS (X.wish (SX X B x)) st (t B x))(k:∀B O Y x σ H,G Y=!x->EnvOk X.K B O σ H Y->t B x nE σ H):uV X st G:=λB O Y x pins s σ H q I E=>
 bu (h B x pins s σ H nE (I.wish _) (k B O Y x σ H q E)) λ_ _ z=>A8 z
def Ee(h:PZE X e G)(hs:swapsWith e none pos.line X.env=pure false):uV X (.Expr e pos) G:=
 nN (λB x=>gu (h.pe B x) hs) λB O Y x σ H q E=>⟨O,Y,E,q⟩
def Jt(h:PZE X e G):uV X (.Return (!e) pos) G:=
 nN (λB x=>tR (h.pe B x)) λB O Y x σ H q E=>⟨O,Y,E,q⟩
def Ju{i:Nat}{y:Str}{pos':Pos}(h:PZE X e G)(hN:X.N.Nodup)(hi:X.N[i]?=!y)(hx:Co X.env.scope y)(hs:swapsWith e (!(.Name y pos')) pos.line X.env=pure false)(hf:X.fn y=true\/X.env.scope.names.lookup y=some .local):uV X (.Assign [.Name y pos'] e pos) G:=
 nN (λB x=>yI (X:=X.wish (SX X B x)) hN hi hx (h.pe B x) hs hf) λB O Y x σ H q E=>⟨O,Y,E,q⟩
def  rr(fc:TN)(G G':Ev->Option Str):Ev->Option Str:=λY=>(fc (vw Y)).bind λc=>if c=true then G Y else G' Y
def PZ.ps(h:PZ X a G)(B:Bs)(x:Str):PSs (X.wish (SX X B x)) a (λ_ σ H=>∃O Y,EnvOk X.K B O σ H Y/\G Y=!x):=λpins s σ H D I ⟨O,Y,E,q⟩=>
 bu (h B O Y x pins s σ H q I.unwish E) λ_ _ z=>False.elim z
def Nf{fc}(hc:∀E,PQ (X.wish E) c fc)(ha:PZ X a G)(hb:PZ X b G'):uV X (.If c a b pos) (rr fc G G'):=
 nN (t:=λB x En σ H=>∃O Y,EnvOk X.K B O σ H Y/\rr fc G G' Y=!x) (λB x pins s σ H D I ⟨O,Y,E,q⟩=>by
  let⟨d,q1,q2⟩:=UD q;refine yE (hc _ j3 (vw Y)) (ha.ps B x) (hb.ps B x) pins s σ H D I ⟨E.view,d,q1,λH' s'=>?_⟩;cases d with
  |true=>rw[if_pos rfl]at q2;exact CQ ⟨O,Y,E.grow s',q2⟩
  |false=>rw[if_neg Bool.false_ne_true]at q2;exact CP ⟨O,Y,E.grow s',q2⟩) λB O Y x σ H q E=>⟨O,Y,E,q⟩
end
noncomputable def  gd(N:D->TM)(Z:D->Ev->Option Str):T9->Ev->Option Str
 |[],_=>none
 |d::ds,Y=>match Z d Y with
  |some x=>!x
  |none=>(N d Y).bind λo=>match o with
   |.nx Y'=>gd N Z ds Y'
   |.ct Y'=>gd N Z ds Y'
   |_=>none
noncomputable def  l9(g:D->Ev->Option Ev)(G:Ev->Option Str):D->Ev->Option Str:=λd Y=>(g d Y).bind G
def  OG(fi:TK)(g:D->Ev->Option Ev)(F:TM)(G:Ev->Option Str):Ev->Option Str:=λY=>(fi (eg Y)).bind λds=>gd (ig g F) (l9 g G) ds Y
def  OH(fi:TK)(g:D->Ev->Option Ev)(F:TM)(G:Ev->Option Str):Ev->Option Str:=λY=>(fi (vw Y)).bind λds=>gd (ig g F) (l9 g G) ds (eN Y)
section
variable{X:Cx}{tg iter:Expr}{pos:Pos}{body:List Stmt}{fi:TK}{g:D->Ev->Option Ev}{F:TM}{G:Ev->Option Str}
def  RZ(K:Frag)(B:Bs)(F:TM)(G:Ev->Option Str)(x:Str):TS:=λEn σ H=>∃z:(T6)×Ev,tS K B z.1 z.2 (F z.2) En σ H\/(EnvOk K B z.1 σ H z.2/\G z.2=!x)
def sM{K:Frag}{B:Bs}{O:T6}{Y:Ev}{o:TV}{Yv:Vv}{x:Str}{σ:St}{H:Hp}(E:EnvOk K B O σ H Y)(V:VE K O σ H Yv)(q:(o.bind λds=>gd (ig g F) (l9 g G) ds Y)=!x):
  GT (tJ K O Yv o) (λv σ H Q=>∃z:(T6)×Ev×D,P2 K B z.1 z.2.1 z.2.2 (g z.2.2 z.2.1) v σ H Q) (RZ K B F G x) nE σ H:=by
 let⟨ds,q1,q⟩:=UD q
 refine⟨V,ds,q1,λJ H1 s1 it=>⟨λi m σ' H'=>i<=ds.length/\m=ds.length-i/\∃O' Y',Same (msk O H1) (msk O' H')/\EnvOk K B O' σ' H' Y'/\gd (ig g F) (l9 g G) (ds.drop i) Y'=!x,
  ⟨ds.length,Nat.zero_le _,by simp,O,Y,Same.refl _,E.grow s1,by simpa using q⟩,?_⟩⟩
 rintro i m σ2 H2 ⟨hi,rfl,O2,Y2,s2,E2,e2⟩
 have hit:=it i H2 O2 s2 E2.dom
 by_cases hlt:i<ds.length
 .refine .inr ?_;have hd:ds[i]?=some ds[i]:=getElem?_eq_getElem hlt;let⟨go,yl⟩:=hit.1 _ hd;refine⟨go,λσ' H'=>i+1<=ds.length/\∃O' Y',Same (msk O H1) (msk O' H')/\EnvOk K B O' σ' H' Y'/\gd (ig g F) (l9 g G) (ds.drop (i+1)) Y'=!x,λσ' H' ⟨a,b⟩=>⟨ds.length-(i+1),by omega,a,rfl,b⟩,λv H3 hy=>?_⟩;let⟨s3,ix⟩:=yl v H3 hy;rw[List.drop_eq_getElem_cons hlt]at e2;have s4:Same (msk O H1) (msk O2 H3):=s2.trans s3.msk;cases g3:g ds[i] Y2 with
  |none=>
   unfold gd l9 ig at e2;rw[g3]at e2;cases e2
  |some Y3=>
   refine⟨⟨O2,Y2,ds[i]⟩,E2.grow s3,ix,Y3,g3,λσ4 E4=>⟨⟨O2,Y3⟩,?_⟩⟩;cases hG:G Y3 with
   |some y=>
    have e3:gd (ig g F) (l9 g G) (ds[i]::ds.drop (i+1)) Y2=!y:=by
     have z:l9 g G ds[i] Y2=!y:=by unfold l9;rw[g3];exact hG
     unfold gd;rw[z]
    rw[e3]at e2;cases e2;exact .inr ⟨E4,by first|exact hG|rfl⟩
   |none=>
    have z:l9 g G ds[i] Y2=none:=by unfold l9;rw[g3];exact hG
    unfold gd at e2;rw[z]at e2;let⟨o1,e3,e4⟩:=UD (show(ig g F ds[i] Y2).bind _=some x from e2);have f3:F Y3=!o1:=by
     unfold ig at e3;rw[g3]at e3;exact e3
    refine .inl ⟨E4,o1,f3,?_⟩;cases o1 with
    |nx Y5=>exactλσ5 H5 O5 s5 E5=>⟨hlt,O5,Y5,s4.trans s5,E5,e4⟩
    |ct Y5=>exactλσ5 H5 O5 s5 E5=>⟨hlt,O5,Y5,s4.trans s5,E5,e4⟩
    |bk Y5=>cases e4
    |rt d=>cases e4
 .have hie:i=ds.length:=by omega
  subst hie;rw[List.drop_of_length_le (le_refl _)]at e2;cases e2
def Gc(hb:r6 X.nox body F)(hz:PZ X body G)(B:Bs)(x:Str):PSs (X.wish (SX X B x)) body (RZ X.K B F G x):=λpins s σ H D I ⟨z,h⟩=>by
 rcases h with h|⟨E,q⟩
 .exact PSs.nox (X:=X.wish (SX X B x)) (hb B z.1 z.2) pins s σ H D I h
 .exact bu (hz B z.1 z.2 x pins s σ H q I.unwish E) λ_ _ z=>False.elim z
def Jv(o:Own X)(hc:X.calm=true)(hi:∀E,PJ (X.wish E) tg iter fi)(hg:∀E,Dm (X.wish E) tg g)(hb:r6 X.nox body F)(hz:PZ X body G)
  (hs:∀x,foldedSetIterable iter X.env x=pure x):uV X (.For tg iter body [] pos) (OG fi g F G):=λB O Y x pins s σ H q I E=>
 bu (pW (X:=X.wish (SX X B x)) (SX.pass o B x) hc (hi _ O (eg Y)) (PG.ex λz:(T6)×Ev×D=>hg _ B z.1 z.2.1 z.2.2) (Gc hb hz B x) hs pins s σ H nE (I.wish _) (sM E E.viewS q)) λ_ _ z=>A8 z
def Eg(o:Own X)(hc:X.calm=true)(hi:∀E,PJ (X.wish E) tg iter fi)(hg:∀E,Dm (X.wish E) tg g)(hb:r6 X.nox body F)(hz:PZ X body G)
  (hs:∀x,foldedSetIterable iter X.env x=pure x):uV X (.For tg iter body [] pos) (OH fi g F G):=λB O Y x pins s σ H q I E=>
 bu (pW (X:=X.wish (SX X B x)) (SX.pass o B x) hc (hi _ B.O (vw Y)) (PG.ex λz:(T6)×Ev×D=>hg _ B z.1 z.2.1 z.2.2) (Gc hb hz B x) hs pins s σ H nE (I.wish _) (sM E.frozen.1 E.viewF q)) λ_ _ z=>A8 z
end
structure Zn where
 cl:Str->Bool
 df:Str->Option (Nat×(T9->Option Str))
 mz:Str->Option (Nat×(T9->Option Str))
structure ZOk(P:Program)(w:World)(K:Frag)(mg:Str->TZ)(base:Heap)(Z:Zn):Prop where
 cl:∀x,Z.cl x=true->RCls K mg base x
 df:∀f k g,Z.df f=!(k,g)->Dx P w K mg base f k g
 mz:∀f k g,Z.mz f=!(k,g)->Mx P w K mg base f k g
def  OI(S:Sn)(Z:Zn)(f:Str)(xs:TK):Ev->Option Str:=match Z.df f with
 |some (k,g)=>if k<=S.k then rp xs g else jj
 |none=>match Z.mz f with
  |some (k,g)=>if k+1<=S.k then rp xs g else jj
  |none=>jj
def  kt(n:Nat)(S:Sn)(Z:Zn):Expr->Ev->Option Str
 |.Call (.Name f _) (a::as) [] _=>if lg S f&&(a::as).all aH then OI S Z f (rx n S (a::as))else jj
 |.Subscript (.Call (.Name f _) (a::as) [] _) _ _=>if lg S f&&(a::as).all aH then OI S Z f (rx n S (a::as))else jj
 |_=>jj
noncomputable def  R0:Option Expr->Option Expr->Option Str
 |some (.Call (.Name x _) [.Constant (.str _) _ _] [] _),none=>!x
 |_,_=>none
noncomputable def  zq:Stmt->Bool
 |.Assign _ _ _=>true
 |.For _ _ _ _ _=>true
 |.Return _ _=>true
 |_=>false
noncomputable def  Q4:Expr->Bool
 |.Call _ _ _ _=>true
 |_=>false
def  Jw(S:Sn):Expr->Option Expr
 |.Call (.Name f _) [.ListComp _ [g] sc _] [] _=>if f=("any":Str)/\lg S f=true/\S.G.no f=true/\i8 S sc=true/\io g.iter=true/\g.is_async=0/\Q4 g.iter=true then !g.iter else none
 |_=>none
mutual
noncomputable def  zx:Nat->Sn->Zn->Stmt->Ev->Option Str
 |0=>λ_ _ _=>jj
 |n+1=>λS Z st=>match st with
  |.Raise a b _=>(match R0 a b with|some x=>if lg S x&&Z.cl x then Ed x else jj|none=>jj)
  |.If c a b _=>(match Jw S c with|some it=>kt n S Z it|none=>rr (rq n S c) (Gd n S Z a) (Gd n S Z b))
  |.For tg iter body els _=>if els.isEmpty&&io iter then aS (OG (rj n S tg iter) (IM S n tg) (Ay n S body) (Gd n S Z body)) (OH (rj n S tg iter) (IM S n tg) (Ay n S body) (Gd n S Z body))else jj
  |.Expr e _=>kt n S Z e
  |.Return (!e) _=>kt n S Z e
  |.Assign [.Name y _] e _=>(match pE S y with|some _=>kt n S Z e|none=>jj)
  |_=>jj
noncomputable def  Gd:Nat->Sn->Zn->List Stmt->Ev->Option Str
 |0=>λ_ _ _=>jj
 |n+1=>λS Z st=>match st with
  |[]=>jj
  |s::r=>if r.all zq then zx n S Z s else aS (zx n S Z s) (OF (ex n S s) (Gd n S Z r))
end
section
variable{X:Cx}{S:Sn}{Z:Zn}
def SnOk.wish(o:SnOk X.nox S)(E:TX):SnOk (X.wish E) S:=⟨o.g,o.N,o.nd,o.calm,o.room,o.loc,o.cel,o.fre,o.glo⟩
def nO{e:Expr}:PZE X e jj:=λ_ _ _ _ _ _ _ _ q=>by cases q
def Ge(w:Own X)(o:TnOk X.nox S)(z:ZOk X.prog X.w X.K X.mg X.base Z)(n:Nat){f:Str}{p q:Pos}{a:Expr}{as:Ua}:PZE X (.Call (.Name f p) (a::as) [] q) (if lg S f&&(a::as).all aH then OI S Z f (rx n S (a::as))else jj):=by
 split
 .rename_i h;rw[and_eq_true]at h;let⟨ok,gl⟩:=aP o.s h.1;have gl:Gl X f:=gl;let⟨n1,_,_⟩:=bZ ok;have ha:=h.2;rw[List.all_cons,and_eq_true]at ha;unfold OI;split
  .rename_i k g hf;split
   .rename_i hk;exact A6 w (z.df f k g hf) (o.s.room.mono hk) gl (λE=>(sound n).rx _ S (o.s.wish E) _) n1 (star1 ha.1) (ss ha.2)
   .exact nO
  .split
   .rename_i k g hf;split
    .rename_i hk;exact A7 w (z.mz f k g hf) (o.s.room.mono hk) gl (λE=>(sound n).rx _ S (o.s.wish E) _) n1 (star1 ha.1) (ss ha.2)
    .exact nO
   .exact nO
 .exact nO
def Eh{e i:Expr}{pos:Pos}{G:Ev->Option Str}(h:PZE X e G):PZE X (.Subscript e i pos) G:=λB O Y x pins s σ H q I E=>Subscript_ (UC (h B O Y x pins s σ H q I E) (λ_ _ z=>z.elim) λ_ _ z=>z)
def s_zcall(w:Own X)(o:TnOk X.nox S)(z:ZOk X.prog X.w X.K X.mg X.base Z)(n:Nat)(e:Expr):PZE X e (kt n S Z e):=by
 unfold kt;split
 .exact Ge w o z n
 .exact Eh (Ge w o z n)
 .exact nO
def gD{n:Nat}{e:Expr}(h:bP e=true):kt n S Z e=jj:=by
 cases e<;>first|rfl|cases h
def A9{ks:T1}{tg iter elt:Expr}{ifs:Ua}{sc:Scope}{pos:Pos}{G:Ev->Option Str}(C:CSc X sc ks)(hs:∀x,foldedSetIterable iter X.env x=pure x)(h:PZE X iter G):PZE X (.ListComp elt [⟨tg,iter,ifs,0⟩] sc pos) G:=λB O Y x pins s σ H q I E=>by
 rw[eval_ListComp];exact wpAny_comprehension_free (use:=none) rfl hs (jL (I.cells_of C)) C.kind C.names (UC (h B O Y x pins s σ H q I E) (λ_ _ z=>z.elim) λ_ _ z=>z)
def Jx{x:Str}{p pos:Pos}{id:String}{e:Expr}{G:Ev->Option Str}(hg:Gl X x)(hm:X.mg x=none)(hv:bootBuiltins x=!(.builtin id))(h:PZE X e G)(he:starEach [e] X.env=(false,eval e X.env)::starEach [] X.env)(hn:x≠"__name__":=by decide)(hdb:(!8)=false:=by decide):PZE X (.Call (.Name x p) [e] [] pos) G:=λB O Y y pins s σ H q I E=>by
 refine wpAny_Call_Name_kw (db I hg hm hv ?_ hn hdb);refine PyProof.Rows.callWith_builtin1 ?_ he rfl;rw[he];exact Calls.spliced_cons (UC (h B O Y y pins s σ H q I E) (λ_ _ z=>z.elim) λ_ _ z=>z)
def pz_any(o:TnOk X.nox S){c it:Expr}{a b:List Stmt}{pos:Pos}{G:Ev->Option Str}(hc:Jw S c=!it)(h:PZE X it G):uV X (.If c a b pos) G:=by
 unfold Jw at hc;split at hc
 .rename_i f p elt g sc p2 p3;split at hc
  .rename_i q;let⟨rfl,g1,g2,g3,g4,g5,_⟩:=q;cases hc;let⟨tg,iter,ifs,as⟩:=g;cases g5;let⟨_,gl⟩:=aP o.s g1;have cs:CSc X sc (sv S.N sc.names):=let c:=qu o.s g3;{c with};have hp:=Jx (X:=X) (p:=p) (pos:=p3) (id:="any") gl (o.s.g.no _ g2) (!20) (A9 (X:=X) (elt:=elt) (tg:=tg) (ifs:=ifs) (pos:=p2) cs (cW g4) h) rfl;exact nN (λB x=>yE (rH (hp.pe B x) λ_=>rfl) pss_never pss_never) λB O Y x σ H q E=>⟨O,Y,E,q⟩
  .cases hc
 .cases hc
def Q5(w:Own X)(o:TnOk X.nox S)(z:ZOk X.prog X.w X.K X.mg X.base Z):∀n,(∀st,uV X st (zx n S Z st))/\∀st,PZ X st (Gd n S Z st):=by
 intro n;induction n with
 |zero=>exact⟨λst=>iG,λst=>Ga⟩
 |succ n ih=>
  refine⟨λst=>?_,λst=>?_⟩
  .unfold zx;split
   .rename_i a b p;split
    .rename_i x h;split
     .rename_i c;rw[and_eq_true]at c;let⟨ok,gl⟩:=aP o.s c.1;unfold R0 at h;split at h
      .cases h;exact A5 w o.s.calm (z.cl x c.2) gl (bZ ok).1
      .cases h
     .exact iG
    .exact iG
   .split
    .rename_i h;exact pz_any o h (s_zcall w o z n _)
    .exact Nf (λE=>(sound n).rq _ S (o.s.wish E) _) (ih.2 _) (ih.2 _)
   .rename_i tg iter body els p;split
    .rename_i h;rw[and_eq_true]at h;cases els with
     |nil=>
      exact Js (Jv w o.s.calm (λE=>(sound n).rj _ S (o.s.wish E) tg iter) (λE=>(vZ (o.s.wish E) o.fn n).1 _) ((qv n).2 _ S o body) (ih.2 body) (cW h.2))
       (Eg w o.s.calm (λE=>(sound n).rj _ S (o.s.wish E) tg iter) (λE=>(vZ (o.s.wish E) o.fn n).1 _) ((qv n).2 _ S o body) (ih.2 body) (cW h.2))
     |cons _ _=>cases h.1
    .exact iG
   .rename_i e p;cases hc:bP e with
    |true=>rw[gD hc];exact iG
    |false=>exact Ee (s_zcall w o z n e) (swaps_no hc _ _ _)
   .exact Jt (s_zcall w o z n _)
   .rename_i y p e q;split
    .rename_i i hi;let⟨ok,lc,hN⟩:=jS o hi;cases hc:bP e with
     |true=>rw[gD hc];exact iG
     |false=>exact Ju (s_zcall w o z n e) (by have:=o.s.N;rw[show X.N=S.N from this];exact o.s.nd) hN lc (swaps_no hc _ _ _) (.inl (o.fn y))
    .exact iG
   .exact iG
  .unfold Gd;split
   .exact Ga
   .split
    .exact wx (ih.1 _)
    .exact Nb (wx (ih.1 _)) (Ec ((qv n).1 _ S o _) (ih.2 _))
end
def  mf(n m:Nat)(G:Ev->Option Str)(ds:T9):Option Str:=if ds.length=n then G (ar m ds)else none
section
variable{P:Program}{w:World}{K:Frag}{mg:Str->TZ}{base:Heap}
def Q6{x qual:Str}{st:Stmt}{f:Addr}{fd:FuncData}{N ps:T3}{k:Nat}{G:Ev->Option Str}(Fn:Fun K x qual st f fd)(S:FnScope N ps (aj st))
  (hb:∀(cdv:Value)(A:Around)(outer:List Env)(s:Shared)(H:Hp)(E:XK),Room k (A.deeper (envOfC qual (aj st) s.heap.objs.size f cdv))->PZ (jK (F9 P w) P w K mg base N qual (aj st) f cdv A outer s H E) (aU st) G):
  FnOk P w K mg base (F9 P w) (k+1) f fd ps (Nd K (mf ps.length N.length G)):=by
 let⟨oc,od,kV,doc,pm,an,cdv,ct,osl,rfl,lk,hcd⟩:=Fn.ex
 refine FA lk hcd S (λvs H Q E ⟨O,ds,x,_,il,e,_⟩=>?_) λA outer s H vs Q E hr ⟨O,ds,x,hO,il,e,kk⟩=>?_
 .rw[<-il.len];unfold mf at e;split at e
  .assumption
  .cases e
 .have q:G (ar N.length ds)=!x:=by
   unfold mf at e;split at e
   .exact e
   .cases e
  refine⟨λEn σ H'=>σ=gZ N vs/\H'=H,λpins s1 σ H' D I ⟨e1,e2⟩=>?_,rfl,rfl⟩;subst e1;subst e2;refine UC (hb cdv A outer s H' E hr ⟨H',O⟩ O (ar N.length ds) x pins s1 _ _ q I (nb hO il)) (λ_ _ z=>False.elim z) λev s2 z=>?_;let⟨a,C,pins',σ',H2,O',Y',rfl,I',E',hC,t⟩:=z;exact Q2 I' (t.mono λb n=>⟨n.1,n.2.1⟩) (kk C H2 hC E'.same)
def Ba{CX:Cp}{N:T3}{qual:Str}{scope:Scope}{f:Addr}{cd:Value}{A:Around}{outer:List Env}{s:Shared}{H:Hp}{E:XK}:Own (jK CX P w K mg base N qual scope f cd A outer s H E):=⟨rfl,rfl,rfl⟩
def  Cu(n k:Nat)(N ps:T3)(st:Stmt)(G:Gb)(Z:Zn):T9->Option Str:=mf ps.length N.length (Gd n (uP N st k G) Z (aU st))
def Ng{G:Gb}{Z:Zn}(g:GbOk P w K mg base G)(z:ZOk P w K mg base Z){h:Heap}(KX:K.In h)(hN:h.Ns mainGlobals mg){N ps:T3}{st:Stmt}{x:Str}(n k:Nat)(S:FnScope N ps (aj st))(b:bQ x st ps)(t:a8 K x st):Dx P w K mg base x (k+1) (Cu n k N ps st G Z):=by
 let⟨f,oc,od,an,osl,kV,doc,pm,cdv,ct,h1,h2,h3,h4⟩:=t;have Fn:=kP (st:=st) h2 h3 h4;refine⟨f,_,ps,PySem.W.mg_of KX hN h1,h4,Fn.binds λkV doc pm an cdv ct us hl=>b x kV doc pm an cdv ct us hl,Q6 Fn S λcdv A outer s H E hr=>?_⟩;exact(Q5 (X:=jK (F9 P w) P w K mg base N _ (aj st) f cdv A outer s H E) Ba (pG g S cdv A outer s H E hr) z n).2 _
end
section
variable{prog:Program}{w:World}{A:Around}{E:TX}{h:Heap}{g:Array GenState}{d:Drawn}{t:Nat}{os:OsState}{K:Frag}{a C:Addr}{oe:Obj}
structure XCls(K:Frag)(C:Addr):Prop where
 ga:findIn K (.ref C) "__getattribute__"=!(!(.builtin "BaseException.__getattribute__"))
 gt:findIn K (.ref C) "__getattr__"=!none
 ca:findIn K (.ref C) "__class__"=!(!(.builtin "object.__class__"))
 sb:PySem.W.subIn K (.ref C) (!10)=!true
 mo:PySem.W.mroIn K C (.type "object")=!true
 cl:(PySem.W.clsIn K C).isSome=true
def Bb{tk:Tok}{Q:Fin->Shared->Prop}(X:K.In h)(I:PySem.W.InstAt h a oe C none)(c:XCls K C)(hq:Q (.done (.ret (.ref C))) ⟨h,g,d,t,os⟩):
  wpAny (!7) A (Builtin.«object.__getattribute__» ⟨[.ref a,.str "__class__" tk],[]⟩) Q E ⟨h,g,d,t,os⟩:=by
 have L0:=I.type (M:=model prog w)
 have L1:=PySem.W.looks_findIn (M:=model prog w) X c.ca
 have hT5:(⟨h,g,d,t,os⟩:Shared).TypeIs (.builtin "object.__class__") "getset_descriptor":=PySem.F.typeOf_object_class
 have f5:=PySem.F.typeOf_object_class
 have f6:=PySem.F.slot_gs_get.lookup
 have f7:=PySem.F.slot_gs_set.lookup
 repeat (any_goals (first|assumption|with_reducible refine L0.at ?_|with_reducible refine L1.at ?_|wp_step))
 refine PySem.W.class_get X I c.mo ?_
 repeat (any_goals (first|assumption|wp_step))
def Bc{nameV:Value}{Q:Unit->Shared->Prop}(X:K.In h)(I:PySem.W.InstAt h a oe C none)(c:XCls K C)(hq:Q () ⟨h,g,d,t,os⟩):wpAny (!7) A (checkBuiltinCall "BaseException.__getattribute__" ⟨[.ref a,nameV],[]⟩) Q E ⟨h,g,d,t,os⟩:=by
 have kb:builtinKind "BaseException.__getattribute__"=some .slot:=by decide+kernel
 have ks:splitId "BaseException.__getattribute__"=!("BaseException","__getattribute__"):=by decide+kernel
 have L0:=I.type (M:=model prog w);have L1:=PySem.W.looks_subIn (M:=model prog w) X c.sb;have ha:=PySem.F.args_bexc_ga (.ref a) nameV;simp only[checkBuiltinCall,kb,ks];refine Ud ?_
 .unfold isInstance;repeat (first|with_reducible refine L0.at ?_|with_reducible refine L1.at ?_|wp_step)
  exact hq
def Nh{tk:Tok}{Q:TX}(X:K.In h)(I:PySem.W.InstAt h a oe C none)(c:XCls K C)(hq:Q (.ref C) ⟨h,g,d,t,os⟩):wpAny (!7) A (getAttrBy (.ref a) (.str "__class__" tk) false) Q E ⟨h,g,d,t,os⟩:=by
 have L0:=I.type (M:=model prog w);have L1:=PySem.W.looks_findIn (M:=model prog w) X c.ga;have L2:=PySem.W.looks_findIn (M:=model prog w) X c.gt;have f3:=PySem.F.attr_ValueError.ga.bind (.ref a);have b0:(false&&onTheHeap (Value.builtin "BaseException.__getattribute__"))=false:=rfl;have b2:(Value.builtin "BaseException.__getattribute__"==Value.builtin "object.__getattribute__")=false:=by decide+kernel
 have b1:(onTheHeap (Value.ref C)&&Value.builtin "BaseException.__getattribute__"==Value.builtin "object.__getattribute__")=false:=by rw[b2];rfl
 repeat (any_goals (first|assumption|with_reducible refine L0.at ?_|with_reducible refine L1.at ?_|with_reducible refine L2.at ?_|wp_step))
 refine codeAny_call_builtin PySem.F.attr_ValueError.ga.plain PySem.F.entry_bexc_ga (Bc X I c (Bb X I c ?_));repeat (any_goals (first|assumption|wp_step))
def Ei{Q:TZ->Shared->Prop}(X:K.In h)(I:PySem.W.InstAt h a oe C none)(c:XCls K C)(hq:Q (!(.ref C)) ⟨h,g,d,t+1,os⟩):wpAny (!7) A (getAttr? (.ref a) "__class__") Q E ⟨h,g,d,t,os⟩:=by
 unfold getAttr? getAttrBy?;repeat (any_goals (first|assumption|with_reducible apply Nh X I c|wp_step))
end
def sN{K:Frag}{a C:Addr}{oe:Obj}(c:XCls K C):PySem.W.KitX K (.ref a) (.ref C) (λh=>PySem.W.InstAt h a oe C none) where
 ty:=λ_ _ _ I=>I.type
 it:=λ_ _ X _=>by
  let⟨cd,hc⟩:=Option.isSome_iff_exists.mp c.cl;unfold PySem.W.clsIn at hc;split at hc
  .rename_i c' d' cd' sl' ho;intro A' Q' E' s' k q;unfold isType loadHead;exact Ud (wpAny_loadPart (k _ _ (X _ _ ho)) (Ug q))
  .cases hc
 ne:=λh tp dd its n sl X htp=>by
  let⟨cd,hc⟩:=Option.isSome_iff_exists.mp c.cl;refine Bool.eq_false_iff.mpr λq=>?_;have e:C=tp:=Value.ref.inj (beq_iff_eq.mp q);subst e;unfold PySem.W.clsIn at hc;split at hc
  .rename_i c' d' cd' sl' ho;have z:=(X _ _ ho).symm.trans htp;cases z
  .cases hc
 ca:=λ{prog w A E Q s} X I k=>by
  let⟨hh,g,d,t,os⟩:=s;exact Ei X I c k
def Ej{X:Cx}{pins:TU}{σ:St}{H:Hp}{s:Shared}{M:Model}{A:Around}{E:TX}{i:Nat}{x:Str}{pos:Pos}{Q:Unit->Shared->Prop}(I:Inv X pins σ H s)(hN:X.N.Nodup)(hi:X.N[i]?=!x)(hk:X.env.scope.names.lookup x=some .local)
  (h:∀s',Inv X pins (σ.set i none) H s'->Q () s'):wpAny M A (do bindName X.env x .none;unbindBehindTheSuite X.env x pos) Q E s:=by
 let⟨m,hn,hl⟩:=id I.loc
 have hcls:(X.env.scope.kind==.class||(X.env.scope.kind==.module&&X.env.locals !=X.env.globals))=false:=by rw[I.ok.kind];rfl
 have cne:=I.cne
 refine wpAny_nameGoes_keeps hk hn hcls λh' v hn' hs=>?_
 have lt:∀b o,X.s₀.heap.get? b=!o->b≠X.env.locals:=λb o e=>Us (Up (Uh e) I.ok.above)
 refine h _ ⟨I.ok,I.os,I.bare,⟨λb o e n hb hx=>?_,λb o e n hb hx=>?_,I.base.free,λb o e hx=>?_,I.base.tups,I.base.frzs,I.base.tbls⟩,⟨_,hn',λj y v' e1 e2 e3=>?_⟩,λy c e=>?_,I.free,I.freeC,λp hp=>?_,λb ob e=>?_,by simpa using I.len⟩
 .exact(hs.2 b (lt b o e)).trans (I.base.keep b o e n hb hx)
 .let⟨sl,e1⟩:=I.base.slot b o e n hb hx;exact⟨sl,(hs.2 b (lt b o e)).trans e1⟩
 .let⟨o',e1⟩:=I.base.there b o e hx;exact⟨o',(hs.2 b (lt b o e)).trans e1⟩
 .have hj:j≠i:=by
   rintro rfl;by_cases hlt:j<σ.length
   .rw[List.getElem?_set_self hlt]at e2;cases e2
   .rw[List.getElem?_eq_none (by simpa using Nat.le_of_not_lt hlt)]at e2;cases e2
  rw[List.getElem?_set_ne (Ne.symm hj)]at e2;let⟨u',r',q⟩:=hl j y v' e1 e2 e3;refine⟨u',r',?_⟩;rcases q with⟨k,e⟩|⟨k,c,e,z⟩
  .refine .inl ⟨k,?_⟩;have:y≠x:=λe=>hj (mE hN e1 (e▸hi));simp[this,e]
  .exact .inr ⟨k,c,e,z.sameBut hs (cne y c e)⟩
 .let⟨w',z⟩:=I.cell y c e;exact⟨w',z.sameBut hs (cne y c e)⟩
 .let⟨e,n,ne,nf,d⟩:=I.pin p hp;exact⟨(hs.2 p.1 ne).trans e,n,ne,nf,d⟩
 .refine(I.hok b ob e).stay (λc w' hc q=>(hs.2 c ?_).trans q) (λ_ q=>q) λ_ _ q=>q;rintro rfl;rcases hc with rfl|hc
  .rw[I.free]at e;cases e
  .rw[I.free]at hc;cases hc
def EnvOk.gone{K:Frag}{B:Bs}{O:T6}{σ:St}{H:Hp}{Y:Ev}(E:EnvOk K B O σ H Y)(i:Nat):EnvOk K B O (σ.set i none) H (Y.set i none) where
 same:=E.same
 bdom:=E.bdom
 sub:=E.sub
 lis:=E.lis
 len:=by rw[List.length_set,List.length_set];exact E.len
 fp:=by
  let⟨F,h1,h2,h3,h4⟩:=E.fp;refine⟨F,λj s q=>?_,h2,h3,h4⟩;have hj:j≠i:=by
   rintro rfl;by_cases hlt:j<Y.length
   .rw[List.getElem?_set_self hlt]at q;cases q
   .rw[List.getElem?_eq_none (by simpa using Nat.le_of_not_lt hlt)]at q;cases q
  rw[List.getElem?_set_ne (Ne.symm hj)]at q;let⟨v,e,o⟩:=h1 j s q;exact⟨v,by rw[List.getElem?_set_ne (Ne.symm hj)];exact e,o⟩
def  Cx.hand(X:Cx)(a:Addr)(oe:Obj):Cx:={X with A:=X.A.mark (!(.ref a)),calm:=false,pn:=(a,oe)::X.pn,xe:=λ_ _=>False}
section
variable{X:Cx}{pins:TU}{σ:St}{H:Hp}{s:Shared}{a:Addr}{oe:Obj}
def Inv.hand(I:Inv X pins σ H s)(w:Own X)(n:NP X pins H a)(e:s.heap.get? a=!oe)(hd:∀v,oe.data≠.cell v):Inv (X.hand a oe) pins σ H s:=by
 have ok:=I.ok;refine⟨⟨ok.mod,ok.kind,ok.glob,ok.blt,ok.above,ok.inj,ok.has,ok.cab,(λz=>by cases z),ok.frames,ok.stk,ok.exf,ok.bs,ok.bsz,ok.noex,ok.exfs,ok.funs,ok.frf⟩,I.os,I.bare,I.base,I.loc,I.cell,I.free,I.freeC,λp hp=>?_,I.hok,I.len⟩;rcases mem_append.mp hp with hp|hp
 .rcases mem_cons.mp hp with rfl|hp
  .refine⟨e,n.2.1,n.2.2.1,λz=>n.2.2.2.2.2 ?_,hd⟩;rw[w.stk];unfold frs;rw[List.filterMap_cons,w.fr];exact Um _ z
  .exact I.pin p (Uv _ hp)
 .exact I.pin p (Uw _ hp)
def Inv.unhand(ok:X.Ok)(I:Inv (X.hand a oe) pins σ H s):Inv X pins σ H s:=
 ⟨ok,I.os,I.bare,I.base,I.loc,I.cell,I.free,I.freeC,λp hp=>I.pin p ((mem_append.mp hp).elim (λz=>Uv _ (Um _ z)) λz=>Uw _ z),I.hok,I.len⟩
end
def  PY(X:Cx)(st:List Stmt)(G:Ev->Option Str):Prop:=∀B O Y x pins s σ H,G Y=!x->Inv X pins σ H s->EnvOk X.K B O σ H Y->
 wpAny (!5) X.A (execs st X.env) (λ_ _=>False) (EX X B O Y pins σ H x) s
def  HS(X:Cx)(i:Nat)(suite:List Stmt)(a:Addr)(oe:Obj)(Hd:Ev->Option Ev):Prop:=∀(B:Bs)(O:T6)(Y Y':Ev)(pins:TU)(s:Shared)(σ:St)(H:Hp),Hd Y=!Y'->Inv (X.hand a oe) pins (σ.set i (!(.ref a))) H s->EnvOk X.K B O (σ.set i (!(.ref a))) H (Y.set i (!(.sh,.adr a)))->
 wpAny (!5) (X.A.mark (!(.ref a))) (execs suite X.env) (λf s'=>f=.next/\∃σ' H' O' Y'',Inv (X.hand a oe) pins σ' H' s'/\EnvOk X.K B O' σ' H' Y''/\Y''.set i none=Y'/\Same (msk O H) (msk O' H')) (λ_ _=>False) s
noncomputable def  sO(F:TM)(G:Ev->Option Str)(Hd:Str->Ev->Option Ev):TM:=λY=>match G Y with
 |some x=>(Hd x Y).bind λY'=>!(.nx Y')
 |none=>(F Y).bind λo=>match o with|.nx Y'=>!(.nx Y')|_=>none
def  HB(X:Cx)(hs:List ExceptHandler)(Hd:Str->Ev->Option Ev):Prop:=∀(x:Str)(B:Bs)(O:T6)(Y Y':Ev)(a C:Addr)(pins:TU)(s:Shared)(σ:St)(H:Hp)(Q:Flow->Shared->Prop)(E':TX),Hd x Y=!Y'->nsIn X.K mainGlobals x=!(!(.ref C))->
 Inv X pins σ H s->EnvOk X.K B O σ H Y->TrX s.heap (NP X pins H) a (.ref C) .none->(∀σ' H' O' s',Inv X pins σ' H' s'->EnvOk X.K B O' σ' H' Y'->Same (msk O H) (msk O' H')->Q .next s')->
 wpAny (!5) X.A (handleBy (.ref a) X.env hs) Q E' s
noncomputable def  K2(f:Str->Option Bool)(H1 H2:Str->Ev->Option Ev):Str->Ev->Option Ev:=λx=>match f x with
 |some true=>H1 x
 |some false=>H2 x
 |none=>λ_=>none
def Jy{X:Cx}:HB X [] (λ_ _=>none):=λ_ _ _ _ _ _ _ _ _ _ _ _ _ q=>by cases q
def Ek{X:Cx}{b₀:Stmt}{suite:List Stmt}{rest:List ExceptHandler}{M n:Str}{mp hp:Pos}{i:Nat}{Mc:Addr}{f:Str->Option Bool}{Hd H2:Str->Ev->Option Ev}(w:Own X)
   (gl:Gl X M) (hm:X.mg M=!(.ref Mc)) (hd:(M==("__debug__":Str))=false) (hN:X.N.Nodup) (hi:X.N[i]?=!n) (hk:X.env.scope.names.lookup n=some .local)
   (hM:∀x b C,f x=!b->nsIn X.K mainGlobals x=!(!(.ref C))->PySem.W.exmOne X.K (.ref C) (.ref Mc)=!b)
   (hh:∀x C a oe,f x=!true->nsIn X.K mainGlobals x=!(!(.ref C))->oe.cls=.ref C->oe.dict=none->PySem.W.notCls oe=true->HS X i (b₀::suite) a oe (Hd x)) (hr:HB X rest H2):
   HB X (.ExceptHandler (!(.Name M mp)) (!n) (b₀::suite) hp::rest) (K2 f Hd H2):=by
 intro x B O Y Y' a C pins s σ H Q E' q hC I E t k
 have t0:=t
 let⟨oe,vs,T,oT,ts,he,⟨hc,_⟩,hdt,ne,_⟩:=id t
 have nc:∀v,oe.data≠.cell v:=λv z=>by rw[hdt]at z;cases z
 have I3h:=I.hand w ne he nc
 have LT:PySem.W.Looks (!5) s.heap (typeOf (.ref a)) (.ref C):=hc▸(PySem.W.Looks.ld he).andThen .now
 refine wpAny_handleBy_cons (codeAny_handlers_test (gr (X:=X.hand a oe) I3h gl hm ?_ hd)) (by intro q;cases q)
 have q':(match f x with|some true=>Hd x|some false=>H2 x|none=>λ_=>none) Y=!Y':=q
 clear q
 cases hf:f x with
 |none=>rw[hf]at q';cases q'
 |some b=>
  rw[hf]at q';have q:=q';cases b with
  |true=>
   let⟨h3,g3,d3,tk3,os3⟩:=s;refine(PySem.W.exm_one (M:=model X.prog X.w) I.kIn LT (hM x true C hf hC)).at ?_;refine codeAny_handlers_suite_as ?_;refine qH (S:=frs X.stack) t0 λh4 c4 t4=>?_;have I4:=I.chg w.ex (h':=h4) c4;let⟨oe4,vs4,T4,oT4,ts4,he4,⟨hc4,dn4⟩,hdt4,ne4,_⟩:=id t4;have I4h:=I4.hand w ne4 he4 λv z=>by rw[hdt4]at z;cases z
   refine mF (X:=X.hand a oe4) (v:=.ref a) I4h hN hi (.inl hk) rfl (λs5 I5=>?_) (.inr hk);have E5:EnvOk X.K B O (σ.set i (!(.ref a))) H (Y.set i (!(.sh,.adr a))):=E.setSh rfl;refine UC (hh x C a oe4 hf hC hc4 dn4 (by unfold PySem.W.notCls;rw[hdt4]) B O Y Y' pins s5 σ H q I5 E5) (λf s6 z=>?_) λ_ _ z=>False.elim z;let⟨rfl,σ',H',O',Y'',I6,E6,e6,s6'⟩:=z;refine Ej (X:=X) (I6.unhand I.ok) hN hi hk λs7 I7=>?_;subst e6;exact k _ H' O' s7 I7 (E6.gone i) s6'
  |false=>
   let⟨h3,g3,d3,tk3,os3⟩:=s;refine(PySem.W.exm_one (M:=model X.prog X.w) I.kIn LT (hM x false C hf hC)).at ?_;exact hr x B O Y Y' a C pins _ σ H Q E' q hC I E t0 k
def Jz{X:Cx}{body:List Stmt}{h0:ExceptHandler}{hs:List ExceptHandler}{pos:Pos}{F:TM}{G:Ev->Option Str}{Hd:Str->Ev->Option Ev}(w:Own X)(hF:r6 X.nox body F)(hG:PY X body G)(hb:HB X (h0::hs) Hd):
  PR X (.Try body (h0::hs) [] [] pos) (sO F G Hd):=by
 intro B O Y pins s σ H D I ⟨E,out,q,k⟩
 unfold sO at q
 cases hg:G Y with
 |none=>
  rw[hg]at q;let⟨o,q1,q2⟩:=UD q;cases o with
  |nx Y'=>
   cases q2;refine wpAny_Try_except (UC (hF B O Y pins s σ H {nx:=λσ' H'=>∃O',Same (msk O H) (msk O' H')/\EnvOk X.K B O' σ' H' Y',rt:=λ_ _=>False} (I.wish _) ⟨E,_,q1,λσ' H' O' s' E'=>⟨O',s',E'⟩⟩) (λf s1 z=>?_) λ_ _ z=>False.elim z);cases f with
   |next=>
    let⟨σ',H',I',O',s',E'⟩:=z;exact wpAny_execs_nil ⟨σ',H',I'.unwish,k σ' H' O' s' E'⟩
   |brk=>let⟨_,_,_,z⟩:=z;exact False.elim z
   |cont=>let⟨_,_,_,z⟩:=z;exact False.elim z
   |ret u=>let⟨_,_,_,_,_,z⟩:=z;exact False.elim z
  |_=>cases q2
 |some x=>
  rw[hg]at q;let⟨Y',q1,q2⟩:=UD q;cases q2;refine wpAny_Try_except (UC (hG B O Y x pins s σ H hg I E) (λ_ _ z=>False.elim z) λe s1 z=>?_);let⟨a,C,H1,rfl,sm,I1,E1,hC,t⟩:=z;have fr:X.A.frames=!(X.env::X.outer):=by rw[I1.ok.frames,w.stk]
  have st:s1.heap.FunFrames X.base (X.env::X.outer):=by rw[<-w.stk];exact I1.stack
  refine A4 fr st w.fr (λb q=>I1.nowh w.ex q) (.inr (.inl t)) λh2 c2 t2=>?_;have I2:=I1.chg w.ex (h':=h2) (by rw[w.stk];exact c2);refine qH (S:=frs X.stack) (s:={s1 with heap:=h2}) t2 λh3 c3 t3=>?_;have I3:=I2.chg w.ex (h':=h3) c3;exact hb x B O Y Y' a C pins _ σ H1 _ _ q1 hC I3 E1 t3 λσ' H' O' s' I' E' s6=>⟨σ',H',I',k σ' H' O' (sm.msk.trans s6) E'⟩
structure XO(X:Cx)(a C:Addr)(oe:Obj):Prop where
 pn:(a,oe)∈X.pn
 cls:oe.cls=.ref C
 dct:oe.dict=none
 nc:PySem.W.notCls oe=true
 xc:XCls X.K C
noncomputable def  ye:V->TZ
 |.ref a=>!(.ref a)
 |.ty n=>!(.type n)
 |_=>none
def sP{v:V}{u u':Value}(h:ye v=!u)(r:RelV v u'):u'=u:=by
 cases v with
 |ref a=>cases h;exact r
 |ty n=>cases h;exact r
 |_=>cases h
section
variable{X:Cx}{a C:Addr}{oe:Obj}
def XO.inst(h:XO X a C oe){pins:TU}{σ:St}{H:Hp}{s:Shared}(I:Inv X pins σ H s):PySem.W.InstAt s.heap a oe C none:=
 ⟨(I.pin _ (Uv _ h.pn)).1,h.cls,h.nc,by rw[h.dct];trivial⟩
def Bd(h:XO X a C oe):dI X (.builtin "isinstance") (λxs H Q=>∃c u b,xs=[.ref a,c]/\ye c=!u/\PySem.W.kitOne X.K (.ref C) u=!b/\Q (.bl b) H):=by
 intro pins s σ H xs us Q I r ⟨c,u,b,e,hc,hk,q⟩;subst e;let⟨u1,u2,rfl,r1,r2⟩:=mJ r;cases(show u1=Value.ref a from r1);obtain rfl:=sP hc r2;exact PySem.W.kia_one (sN h.xc) I.kIn (h.inst I) hk (λz=>nomatch z) λtk=>⟨.bl b,H,I.tok tk,rfl,q⟩
def sQ:∀{vs:List V}{us us':TY},vs.map ye=us.map some->Vals vs us'->us'=us
 |[],us,_,h,r=>by
  cases r;cases us with
  |nil=>rfl
  |cons _ _=>cases h
 |v::vs,us,_,h,r=>by
  cases r with
  |cons r1 r2=>
   cases us with
   |nil=>cases h
   |cons u us=>
    injection h with h1 h2;rw[sP h1 r1,sQ h2 r2]
def yf(h:XO X a C oe):dI X (.builtin "isinstance") (λxs H Q=>∃tp vs us b,xs=[.ref a,.ref tp]/\H tp=!(.tup vs)/\vs.map ye=us.map some/\PySem.W.kitAny X.K (.ref C) us=!b/\Q (.bl b) H):=by
 intro pins s σ H xs us Q I r ⟨tp,vs,us1,b,e,ht,hc,hk,q⟩;subst e;let⟨u1,u2,rfl,r1,r2⟩:=mJ r;cases(show u1=Value.ref a from r1);cases(show u2=Value.ref tp from r2);let⟨its,rv,⟨o,h1,h2,n,h3⟩,_⟩:=I.tuple (SqT.of ht);let⟨oc,od,oda,osl⟩:=o;cases(show oc=_ from h2);cases(show oda=_ from h3);obtain rfl:=sQ hc rv;exact PySem.W.kia_tup (sN h.xc) I.kIn (h.inst I) h1 hk (λz=>nomatch z) λtk=>⟨.bl b,H,I.tok tk,rfl,q⟩
structure TC(X:Cx)(C:Addr)(T:Str->Option Bool):Prop where
 ex:∀c b,T c=!b->∃v u,ye v=!u/\(∀p,PE X (.Name c p) (tC v))/\PySem.W.kitOne X.K (.ref C) u=!b
noncomputable def  El(T:Str->Option Bool):Ua->Option Bool
 |[]=>!false
 |.Name c _::es=>(T c).bind λb=>(El T es).bind λd=>!(b||d)
 |_::_=>none
def Be{T:Str->Option Bool}(t:TC X C T):∀{es:Ua}{b:Bool},El T es=!b->∃vs us,vs.map ye=us.map some/\vs.length=es.length/\PySem.W.kitAny X.K (.ref C) us=!b/\PA X es (λσ H Q=>Q vs H)
 |[],b,h=>by cases h;exact⟨[],[],rfl,rfl,rfl,pa_nil⟩
 |.Name c p::es,b,h=>by
  let⟨b1,h1,h⟩:=UD h;let⟨b2,h2,h⟩:=UD h;cases h;let⟨v,u,e1,e2,e3⟩:=t.ex c b1 h1;let⟨vs,us,f1,f2,f3,f4⟩:=Be t h2;refine⟨v::vs,u::us,by rw[List.map_cons,List.map_cons,e1,f1],by rw[length_cons,length_cons,f2],?_,(bv (e2 p) f4)⟩;show(match PySem.W.kitOne X.K (.ref C) u with|some true=>!true|some false=>PySem.W.kitAny X.K (.ref C) us|none=>none)=_;rw[e3,f3];cases b1<;>rfl
def  Ni(T:Str->Option Bool):Expr->Option Bool
 |.Name c _=>T c
 |.Tuple es _ _=>if es.length<100 then El T es else none
 |_=>none
def  Em(i:Nat)(a:Addr)(b:Bool):TL:=λY=>match cy Y i with
 |some (.adr c)=>if c=a then !(.bl b)else none
 |_=>none
def JA(h:XO X a C oe){T:Str->Option Bool}(t:TC X C T){i:Nat}{n:Str}{p pn pos:Pos}{c:Expr}{b:Bool}(hb:Ni T c=!b)(hg:Gl X "isinstance")(hm:X.mg "isinstance"=none)(hv:bootBuiltins "isinstance"=!(.builtin "isinstance"))
  (hN:X.N[i]?=!n) (hvis:tO X.env.scope n) (hd:(n==("__debug__":Str))=false) (hcd:(n==("__classdict__":Str))=false):PP X (.Call (.Name "isinstance" p) [.Name n pn,c] [] pos) (Em i a b):=λO Y=>by
 have key:∀{σ:St}{H:Hp},VE X.K O σ H Y->∀{d:D},Em i a b Y=!d->d=.bl b/\σ[i]?=!(!(.ref a)):=λ{σ H} E {d} q=>by
  unfold Em at q;split at q
  .rename_i c q1;let⟨rfl,q2⟩:=az q;refine⟨q2.symm,?_⟩;let⟨v,e,iv⟩:=E.sh i _ (iW q1);cases(show v=.ref c from iv);exact e
  .cases q
 cases c with
 |Name cn pc=>
  let⟨v,u,e1,e2,e3⟩:=t.ex cn b hb;refine(g9 (Bd h) hg hm hv (bv (da hN hvis hd hcd) (bv (e2 pc) pa_nil))).imp λσ H Q ⟨E,d,q,k⟩=>?_;let⟨rfl,e⟩:=key E q;exact⟨_,e,v,u,b,rfl,e1,e3,k _ H (Same.refl _) rfl⟩
 |Tuple es x1 pc=>
  have hb':(if es.length<100 then El T es else none)=!b:=hb;have hl:es.length<100:=by
   by_cases hl:es.length<100
   .exact hl
   .rw[if_neg hl]at hb';cases hb'
  rw[if_pos hl]at hb';have hb:=hb';let⟨vs,us,f1,f2,f3,f4⟩:=Be t hb;refine(g9 (yf h) hg hm hv (bv (da hN hvis hd hcd) (bv (ua f4) pa_nil))).imp λσ H Q ⟨E,d,q,k⟩=>?_;let⟨rfl,e⟩:=key E q;refine⟨_,e,by rw[f2];exact Ur (Uy hl) (!4),λtp htp=>⟨tp,vs,us,b,rfl,ak,f1,f3,k _ _ (Same.new htp) rfl⟩⟩
 |_=>cases hb
end
def  he(S:Sn)(T:Str->Option Bool)(n:Str)(i:Nat)(a:Addr):Expr->TL
 |.Call (.Name f _) [.Name y _,c] [] _=>if f=("isinstance":Str)/\y=n/\lg S f=true/\S.G.no f=true then(match Ni T c with|some b=>Em i a b|none=>noV)else noV
 |.Constant (.str x) _ _=>λ_=>!(.str x)
 |.Constant (.bool b) _ _=>λ_=>!(.bl b)
 |.Constant (.int k) _ _=>λ_=>!(.int k)
 |.Constant .none _ _=>λ_=>some .non
 |.Name y _=>match bh S y with|some j=>λY=>cy Y j|none=>noV
 |.Call (.Attribute (.Name y _) m ap) [.Constant (.bool true) _ _] [] cp=>match bh S y with
  |some j=>if(ap.endLine==cp.line)=true then(if m=("count":Str)then qr Ae (λY=>cy Y j) (λ_=>!(.bl true))else if m=("index":Str)then qr Af (λY=>cy Y j) (λ_=>!(.bl true))else noV)else noV
  |none=>noV
 |_=>noV
def  OJ:Ua->TK
 |[]=>λ_=>![]
 |.Constant (.str x) _ _::es=>aa (λ_=>!(.str x)) (OJ es)
 |_=>noV
def  hix(S:Sn)(T:Str->Option Bool)(n:Str)(i:Nat)(a:Addr):Expr->TL
 |.Subscript (.List es _) (.Call f as ks p) _=>bin2 ixD (λY=>(bw (OJ es Y)).map D.lst) (he S T n i a (.Call f as ks p))
 |e=>he S T n i a e
def  Nj(S:Sn)(T:Str->Option Bool)(n:Str)(i:Nat)(a:Addr):Expr->TN
 |.Compare b [.Eq] [c] _=>ao (bin2 (aE false) (he S T n i a b) (he S T n i a c))
 |.UnaryOp .Not (.Name y p) _=>b7 (λY=>(he S T n i a (.Name y p) Y).bind rR)
 |.Call f as ks p=>λY=>(he S T n i a (.Call f as ks p) Y).bind rR
 |_=>noV
def  hq(S:Sn)(T:Str->Option Bool)(n:Str)(i:Nat)(a:Addr):Expr->TN
 |.BoolOp .And [b,c,d] _=>kh (Nj S T n i a b) (kh (Nj S T n i a c) (Nj S T n i a d))
 |_=>noV
def  OL(S:Sn)(T:Str->Option Bool)(n:Str)(i:Nat)(a:Addr):Ua->TK
 |[]=>λ_=>![]
 |e::es=>if aH e&&not (bP e) then aa (λY=>kj (he S T n i a e Y)) (OL S T n i a es)else noV
def  Eo(S:Sn)(T:Str->Option Bool)(n:Str)(i:Nat)(a:Addr):Expr->TL
 |.List es _=>λY=>(bw (OL S T n i a es Y)).bind λds=>!(.lst ds)
 |e=>λY=>kj (hix S T n i a e Y)
def  hst(S:Sn)(T:Str->Option Bool)(n:Str)(i:Nat)(a:Addr):Stmt->TM
 |.Assign [.Name y _] e _=>match pE S y with|some j=>if bP e then noO' else aD j (c8 (Eo S T n i a e))|none=>noO'
 |.Expr (.Call (.Attribute (.Name y _) m apos) [e] [] cpos) _=>if m=("append":Str)/\aH e=true/\bP e=false/\(apos.endLine==cpos.line)=true then(match bh S y with|some j=>m9 j (c8 (Eo S T n i a e))|none=>noO')else noO'
 |_=>noO'
def  uW(S:Sn)(T:Str->Option Bool)(n:Str)(i:Nat)(a:Addr):Stmt->TM
 |.If c [s] [] _=>cu (hq S T n i a c) (af (hst S T n i a s) aF) aF
 |s=>hst S T n i a s
def  Q7(S:Sn)(T:Str->Option Bool)(n:Str)(i:Nat)(a:Addr):List Stmt->TM
 |[]=>λY=>!(.nx Y)
 |s::r=>af (uW S T n i a s) (Q7 S T n i a r)
section
variable{X:Cx}{S:Sn}{T:Str->Option Bool}{n:Str}{i:Nat}{a C:Addr}{oe:Obj}
def ppc{ρ:Cx}{e:Expr}{v:V}{d:D}(h:PE ρ e (tC v))(k:∀H,Is ρ.K H d v):PP ρ e (λ_=>!d):=λO Y=>h.imp λσ H Q ⟨E,d',q,kk⟩=>by
 cases q;exact kk v H (Same.refl _) (k _)
def jT{ρ:Cx}{e:Expr}:PP ρ e noV:=λO Y pins s σ H Q I ⟨_,_,q,_⟩=>by cases q
def uX(o:TnOk X.nox S)(h:XO (X.hand a oe) a C oe)(t:TC (X.hand a oe) C T)(hi:bh S n=!i)(e:Expr):PP (X.hand a oe) e (he S T n i a e):=by
 unfold he;split
 .rename_i f p y pn c pos;split
  .rename_i q;let⟨rfl,rfl,g1,g2⟩:=q;let⟨ok,gl⟩:=aP o.s g1;let⟨h1,h2,h3,_⟩:=aX o.s hi;let⟨a1,b1⟩:=eQ h1;split
   .rename_i b hb;exact JA h t hb gl (o.s.g.no _ g2) (!20) h3 h2 a1 b1
   .exact jT
  .exact jT
 .exact ppc pe_str λ_=>rfl
 .exact ppc pe_bl λ_=>rfl
 .exact ppc pe_int λ_=>rfl
 .exact ppc pe_non λ_=>rfl
 .rename_i y p;split
  .rename_i j hj;let⟨h1,h2,h3,_⟩:=aX o.s hj;let⟨a1,b1⟩:=eQ h1;exactλO Y=>(da (X:=X.hand a oe) h3 h2 a1 b1).imp λσ H Q ⟨E,d,q,k⟩=>by
    let⟨v,e,iv⟩:=E.sh j d (iW q);exact⟨v,e,k v H (Same.refl _) iv⟩
  .exact jT
 .rename_i y p m ap p2 p3 cp;split
  .rename_i j hj;let⟨h1,h2,h3,_⟩:=aX o.s hj;let⟨a1,b1⟩:=eQ h1;have hv:PP (X.hand a oe) (.Name y p) (λY=>cy Y j):=λO Y=>(da (X:=X.hand a oe) h3 h2 a1 b1).imp λσ H Q ⟨E,d,q,k⟩=>by
    let⟨v,e,iv⟩:=E.sh j d (iW q);exact⟨v,e,k v H (Same.refl _) iv⟩
   split
   .rename_i hl;split
    .rename_i e;subst e;exact Ag PySem.F.slot_list_count PySem.F.type_list_count IF hv (ppc pe_bl λ_=>rfl) rfl hl
    .split
     .rename_i e;subst e;exact Ag PySem.F.slot_list_index PySem.F.type_list_index IG hv (ppc pe_bl λ_=>rfl) rfl hl
     .exact jT
   .exact jT
  .exact jT
 .exact jT
def Gf:∀es:Ua,PX (X.hand a oe) es (OJ es)
 |[]=>y8
 |e::es=>by
  unfold OJ;split
  .rename_i q;cases q
  .rename_i q;cases q;exact px_cons (ppc pe_str λ_=>rfl) (Gf es) rfl
  .exactλ_ _ _ _ _ _ _ _ I ⟨_,_,q,_⟩=>by cases q
def Nk(o:TnOk X.nox S)(h:XO (X.hand a oe) a C oe)(t:TC (X.hand a oe) C T)(hi:bh S n=!i)(e:Expr):PP (X.hand a oe) e (hix S T n i a e):=by
 unfold hix;split
 .exact pp_ix (y9 (Gf _)).pp (uX o h t hi _)
 .exact uX o h t hi _
def Bf(o:TnOk X.nox S)(h:XO (X.hand a oe) a C oe)(t:TC (X.hand a oe) C T)(hi:bh S n=!i)(e:Expr):PQ (X.hand a oe) e (Nj S T n i a e):=by
 unfold Nj;split
 .exact pq_cmp (uo (X:=X.hand a oe) (show X.A.units+60<cLine from jP o.s.room)) rX (uX o h t hi _) (uX o h t hi _) (dA _)
 .exact y7 (pq_val (uX o h t hi _))
 .exact pq_val (uX o h t hi _)
 .exact sC
def Q8(o:TnOk X.nox S)(h:XO (X.hand a oe) a C oe)(t:TC (X.hand a oe) C T)(hi:bh S n=!i)(e:Expr):PQ (X.hand a oe) e (hq S T n i a e):=by
 unfold hq;split
 .exact(pw_andD (Bf o h t hi _) (pw_andD (Bf o h t hi _) (pw_and1D (Bf o h t hi _)))).pq
 .exact sC
def Nl(o:TnOk X.nox S)(h:XO (X.hand a oe) a C oe)(t:TC (X.hand a oe) C T)(hi:bh S n=!i){e:Expr}(hc:bP e=false):oC (X.hand a oe) e (λY=>kj (he S T n i a e Y)):=
 zC λO Y=>PE.pu (uX o h t hi e O Y) hc
def Gg(o:TnOk X.nox S)(h:XO (X.hand a oe) a C oe)(t:TC (X.hand a oe) C T)(hi:bh S n=!i):∀es:Ua,rZ (X.hand a oe) es (OL S T n i a es)
 |[]=>qk
 |e::es=>by
  unfold OL;split
  .rename_i q;rw[and_eq_true]at q;exact frs_cons (Nl o h t hi (by simpa using q.2)) (Gg o h t hi es) (star1 q.1)
  .exact uL
def Bg(o:TnOk X.nox S)(h:XO (X.hand a oe) a C oe)(t:TC (X.hand a oe) C T)(hi:bh S n=!i){e:Expr}(hc:bP e=false):oC (X.hand a oe) e (Eo S T n i a e):=by
 unfold Eo;split
 .exact ut (Gg o h t hi _)
 .exact zC λO Y=>PE.pu (Nk o h t hi _ O Y) hc
def Gh(o:TnOk X.nox S)(h:XO (X.hand a oe) a C oe)(t:TC (X.hand a oe) C T)(hi:bh S n=!i)(st:Stmt):PR (X.hand a oe) st (hst S T n i a st):=by
 unfold hst;split
 .rename_i y p e q;split
  .rename_i j hj;split
   .exact bF
   .rename_i hc;have hc:bP e=false:=by simpa using hc
    let⟨ok,lc,hN⟩:=jS o hj;exact zK (X:=X.hand a oe) (by have:=o.s.N;show X.N.Nodup;rw[show X.N=S.N from this];exact o.s.nd) hN lc (r0 (Bg o h t hi hc)) (.inl (o.fn y)) (.inl (swaps_no hc _ _ _))
  .exact bF
 .rename_i y p m apos e cpos q;split
  .rename_i c;let⟨rfl,c1,c2,c3⟩:=c;split
   .rename_i j hj;let⟨h1,h2,h3,_⟩:=aX o.s hj;let⟨a1,b1⟩:=eQ h1;exact i7 (X:=X.hand a oe) j (r0 (Bg o h t hi c2)) h3 h2 a1 b1 (star1 c1) c3
   .exact bF
  .exact bF
 .exact bF
def JB(o:TnOk X.nox S)(h:XO (X.hand a oe) a C oe)(t:TC (X.hand a oe) C T)(hi:bh S n=!i)(st:Stmt):PR (X.hand a oe) st (uW S T n i a st):=by
 unfold uW;split
 .exact FK (Q8 o h t hi _) (mv (Gh o h t hi _) m8) m8
 .exact Gh o h t hi _
def Gi(o:TnOk X.nox S)(h:XO (X.hand a oe) a C oe)(t:TC (X.hand a oe) C T)(hi:bh S n=!i):∀st:List Stmt,r6 (X.hand a oe) st (Q7 S T n i a st)
 |[]=>m8
 |s::r=>mv (JB o h t hi s) (Gi o h t hi r)
end
def  Ep(i:Nat)(R:Addr->TM)(Y:Ev):Option Ev:=by
 classical
 exact if h:∃Y',∀a,∃Y'',R a (Y.set i (!(.sh,.adr a)))=!(.nx Y'')/\Y''.set i none=Y' then !h.choose else none
def Bh{i:Nat}{R:Addr->TM}{Y Y':Ev}(h:Ep i R Y=!Y')(a:Addr):∃Y'',R a (Y.set i (!(.sh,.adr a)))=!(.nx Y'')/\Y''.set i none=Y':=by
 unfold Ep at h;split at h
 .rename_i q;cases h;exact q.choose_spec a
 .cases h
def JC{i:Nat}{R:Addr->TM}{Y Y':Ev}(h:∀a,∃Y'',R a (Y.set i (!(.sh,.adr a)))=!(.nx Y'')/\Y''.set i none=Y'):Ep i R Y=!Y':=by
 have q:∃Y',∀a,∃Y'',R a (Y.set i (!(.sh,.adr a)))=!(.nx Y'')/\Y''.set i none=Y':=⟨Y',h⟩;unfold Ep;rw[dif_pos q];let⟨r1,e1,e2⟩:=q.choose_spec 0;let⟨r2,e3,e4⟩:=h 0;rw[e1]at e3;cases e3;rw[<-e2,e4]
def Nm{X:Cx}{i:Nat}{a:Addr}{oe:Obj}{suite:List Stmt}{R:Addr->TM}(h:r6 (X.hand a oe) suite (R a)):HS X i suite a oe (Ep i R):=by
 intro B O Y Y' pins s σ H q I E;let⟨Y'',e1,e2⟩:=Bh q a;refine UC (h B O _ pins s _ H {nx:=λσ' H'=>∃O',Same (msk O H) (msk O' H')/\EnvOk X.K B O' σ' H' Y'',rt:=λ_ _=>False} I ⟨E,_,e1,λσ' H' O' s' E'=>⟨O',s',E'⟩⟩) (λf s' z=>?_) λ_ _ z=>z;cases f with
 |next=>
  let⟨σ',H',I',O',s',E'⟩:=z;exact⟨rfl,σ',H',O',Y'',I',E',e2,s'⟩
 |brk=>let⟨_,_,_,z⟩:=z;exact False.elim z
 |cont=>let⟨_,_,_,z⟩:=z;exact False.elim z
 |ret u=>let⟨_,_,_,_,_,z⟩:=z;exact False.elim z
def  K3(X:Cx)(st:Stmt)(G:Ev->Option Str):Prop:=∀B O Y x pins s σ H,G Y=!x->Inv X pins σ H s->EnvOk X.K B O σ H Y->
 wpAny (!5) X.A (exec st X.env) (λ_ _=>False) (EX X B O Y pins σ H x) s
def EX.mono{X:Cx}{B:Bs}{O:T6}{Y:Ev}{pins:TU}{σ:St}{H0 H1:Hp}{x:Str}{e:Value}{s:Shared}(sm:Same H0 H1):EX X B O Y pins σ H1 x e s->EX X B O Y pins σ H0 x e s:=
 λ⟨a,C,H,h1,h0,h2⟩=>⟨a,C,H,h1,sm.trans h0,h2⟩
section
variable{X:Cx}{st:Stmt}{e c:Expr}{G G':Ev->Option Str}{pos:Pos}{a b:List Stmt}
def Gj:PY X a jj:=λ_ _ _ _ _ _ _ _ q=>by cases q
def qI:K3 X st jj:=λ_ _ _ _ _ _ _ _ q=>by cases q
def JD{r:List Stmt}(h:K3 X st G):PY X (st::r) G:=λB O Y x pins s σ H q I E=>wpAny_execs_cons (bu (h B O Y x pins s σ H q I E) λ_ _ z=>False.elim z)
def Er(h:PZE X e G)(hs:swapsWith e none pos.line X.env=pure false):K3 X (.Expr e pos) G:=λB O Y x pins s σ H q I E=>
 wpAny_Expr_any (bu (h B O Y x pins s σ H q I E) λ_ _ z=>False.elim z) I.quiet hs
def JE{y:Str}{pos':Pos}(h:PZE X e G)(hs:swapsWith e (!(.Name y pos')) pos.line X.env=pure false):K3 X (.Assign [.Name y pos'] e pos) G:=λB O Y x pins s σ H q I E=>
 wpAny_Assign_Name (bu (h B O Y x pins s σ H q I E) λ_ _ z=>False.elim z) hs
def Nn{fc}(hc:∀E,PQ (X.wish E) c fc)(ha:PY X a G)(hb:PY X b G'):K3 X (.If c a b pos) (rr fc G G'):=λB O Y x pins s σ H q I E=>by
 let⟨d,q1,q2⟩:=UD q;refine wpAny_If (bu (hc (EX X B O Y pins σ H x) j3 (vw Y) pins s σ H (λd' H1=>d'=d/\Same H H1) (I.wish _) ⟨E.view,d,q1,λH' s'=>⟨rfl,s'⟩⟩) λd' s1 ⟨H1,I1,e1,sm⟩=>?_);subst e1;cases d' with
 |true=>rw[if_pos rfl]at q2;exact UC (ha B O Y x pins s1 σ H1 q2 I1.unwish (E.grow sm)) (λ_ _ z=>z) λ_ _ z=>z.mono sm
 |false=>rw[if_neg Bool.false_ne_true]at q2;exact UC (hb B O Y x pins s1 σ H1 q2 I1.unwish (E.grow sm)) (λ_ _ z=>z) λ_ _ z=>z.mono sm
end
mutual
noncomputable def  yx:Nat->Sn->Zn->Stmt->Ev->Option Str
 |0=>λ_ _ _=>jj
 |n+1=>λS Z st=>match st with
  |.If c a b _=>rr (rq n S c) (No n S Z a) (No n S Z b)
  |.Expr e _=>kt n S Z e
  |.Assign [.Name _ _] e _=>kt n S Z e
  |_=>jj
noncomputable def  No:Nat->Sn->Zn->List Stmt->Ev->Option Str
 |0=>λ_ _ _=>jj
 |n+1=>λS Z st=>match st with
  |s::_=>yx n S Z s
  |_=>jj
end
def Q9{X:Cx}{S:Sn}{Z:Zn}(w:Own X)(o:TnOk X.nox S)(z:ZOk X.prog X.w X.K X.mg X.base Z):∀n,(∀st,K3 X st (yx n S Z st))/\∀st,PY X st (No n S Z st):=by
 intro n;induction n with
 |zero=>exact⟨λst=>qI,λst=>Gj⟩
 |succ n ih=>
  refine⟨λst=>?_,λst=>?_⟩
  .unfold yx;split
   .exact Nn (λE=>(sound n).rq _ S (o.s.wish E) _) (ih.2 _) (ih.2 _)
   .rename_i e p;cases hc:bP e with
    |true=>rw[gD hc];exact qI
    |false=>exact Er (s_zcall w o z n e) (swaps_no hc _ _ _)
   .rename_i y p e q;cases hc:bP e with
    |true=>rw[gD hc];exact qI
    |false=>exact JE (s_zcall w o z n e) (swaps_no hc _ _ _)
   .exact qI
  .unfold No;split
   .exact JD (ih.1 _)
   .exact Gj
def Es{K:Frag}{mg:Str->TZ}{base:Heap}{x nm qn:Str}{C N:Addr}{bs bm:TY}{hdct:Bool}{sn:T3}{sub:TY}{ab:Bool}{col:Option Bool}{dd:Option Addr}{k0 k1 k2 k3 k5:TZ}(X:K.In base)(hN:base.Ns mainGlobals mg)(e:nsIn K mainGlobals x=!(!(.ref C)))
  (lk:K.lookup C=!(excClassObj nm qn C N bs bm hdct sn sub ab col dd k0 k1 k2 k3 k5 "ValueError.__new__")) (ok:PySem.W.nsOkIn K N=true) (ni:nsIn K N "__init__"=!none) (tl:PySem.W.tailIn K Q3 bm=true):RCls K mg base x:=
 ⟨C,e,PySem.W.mg_of X hN e,bm,N,nm,qn,bs,hdct,sn,sub,ab,col,dd,k0,k1,k2,k3,k5,_,X _ _ lk,.of_isNs (PySem.W.isNs_of_in X ok),PySem.W.nsMap_none_of_in X ok ni,PySem.W.tail_of_in X tl⟩
structure XTab(K:Frag)(mg:Str->TZ)(tb:Str->Str->Option Bool)(hb:Str->Bool):Prop where
 xc:∀x c b,tb x c=!b->∀C,nsIn K mainGlobals x=!(!(.ref C))->XCls K C
 nm:∀x c b,tb x c=!b->∀C,nsIn K mainGlobals x=!(!(.ref C))->(∃Cc,mg c=!(.ref Cc)/\PySem.W.kitOne K (.ref C) (.ref Cc)=!b)\/(∃T,c≠"__name__"/\mg c=none/\bootBuiltins c=!(.type T)/\PySem.W.kitOne K (.ref C) (.type T)=!b)
 hd:∀M,hb M=true->∃Mc,mg M=!(.ref Mc)/\∀x b C,tb x M=!b->nsIn K mainGlobals x=!(!(.ref C))->PySem.W.exmOne K (.ref C) (.ref Mc)=!b
def  Ra(S:Sn)(tb:Str->Str->Option Bool)(x c:Str):Option Bool:=if lg S c then tb x c else none
def Np{X:Cx}{S:Sn}{tb:Str->Str->Option Bool}{hb:Str->Bool}(o:TnOk X.nox S)(t:XTab X.K X.mg tb hb){x:Str}{a C:Addr}{oe:Obj}(hC:nsIn X.K mainGlobals x=!(!(.ref C))):TC (X.hand a oe) C (Ra S tb x):=⟨λc b h=>by
 unfold Ra at h;split at h
 .rename_i g;let⟨ok,gl⟩:=aP o.s g;let⟨n1,_,_⟩:=bZ ok;rcases t.nm x c b h C hC with⟨Cc,h1,h2⟩|⟨T,h1,h2,h3,h4⟩
  .exact⟨.ref Cc,_,rfl,λp=>vo (X:=X.hand a oe) gl h1 rfl n1,h2⟩
  .exact⟨.ty T,_,rfl,λp=>vp (X:=X.hand a oe) gl h2 h3 rfl h1 n1,h4⟩
 .cases h⟩
noncomputable def  R1:ExceptHandler->Option (Str×Str×Stmt×List Stmt)
 |.ExceptHandler (!(.Name M _)) (!n) (b0::suite) _=>!(M,n,b0,suite)
 |_=>none
def  Et(S:Sn)(tb:Str->Str->Option Bool)(hb:Str->Bool):List ExceptHandler->Str->Ev->Option Ev
 |[]=>λ_ _=>none
 |h::hs=>match R1 h with
  |some (M,n,b0,suite)=>(match bh S n with
   |some i=>if lg S M&&hb M&&decide (S.nm.lookup n=some .local)then K2 (λx=>tb x M) (λx=>Ep i (λa=>Q7 S (Ra S tb x) n i a (b0::suite))) (Et S tb hb hs)elseλ_ _=>none
   |none=>λ_ _=>none)
  |none=>λ_ _=>none
def  JF(m:Nat)(S:Sn)(Z:Zn)(tb:Str->Str->Option Bool)(hb:Str->Bool)(st:Stmt):TM:=match st with
 |.Try body (h0::hs) [] [] _=>sO (Ay m S body) (No m S Z body) (Et S tb hb (h0::hs))
 |st=>ex m S st
def  Rb(m:Nat)(S:Sn)(Z:Zn)(tb:Str->Str->Option Bool)(hb:Str->Bool):List Stmt->TM
 |[]=>λY=>!(.nx Y)
 |st::r=>af (JF m S Z tb hb st) (Rb m S Z tb hb r)
section
variable{X:Cx}{S:Sn}{Z:Zn}{tb:Str->Str->Option Bool}{hb:Str->Bool}
def Bi{hs:List ExceptHandler}:HB X hs (λ_ _=>none):=λ_ _ _ _ _ _ _ _ _ _ _ _ _ q=>by cases q
def Bj(w:Own X)(o:TnOk X.nox S)(t:XTab X.K X.mg tb hb):∀hs:List ExceptHandler,HB X hs (Et S tb hb hs)
 |[]=>Jy
 |h::hs=>by
  unfold Et;split
  .rename_i M n b0 suite hp;split
   .rename_i i hi;split
    .rename_i c;simp only[and_eq_true,decide_eq_true_eq]at c;let⟨⟨c1,c2⟩,c3⟩:=c;let⟨ok,gl⟩:=aP o.s c1;let⟨h1,h2,h3,_⟩:=aX o.s hi;let⟨Mc,hm,hM⟩:=t.hd M c2;unfold R1 at hp;split at hp
     .cases hp;exact Ek w gl hm (bZ ok).1 (by rw[show X.N=S.N from o.s.N];exact o.s.nd) h3 (by have:=o.nm;rw[show X.env.scope.names=S.nm from this];exact c3) (λx b C q hC=>hM x b C q hC)
       (λx C a oe q hC e1 e2 e3=>Nm (Gi o ⟨Ul,e1,e2,e3,t.xc x M true q C hC⟩ (Np o t hC) hi _)) (Bj w o t hs)
     .cases hp
    .exact Bi
   .exact Bi
  .exact Bi
def JG(w:Own X)(o:TnOk X.nox S)(z:ZOk X.prog X.w X.K X.mg X.base Z)(t:XTab X.K X.mg tb hb)(m:Nat)(st:Stmt):PR X.nox st (JF m S Z tb hb st):=by
 unfold JF;split
 .have w':Own X.nox:=⟨w.ex,w.stk,w.fr⟩;exact Jz (X:=X.nox) w' ((qv m).2 _ S o _) ((Q9 (X:=X.nox) w' o z m).2 _) (Bj (X:=X.nox) w' o t _)
 .exact(qv m).1 _ S o _
def Gk(w:Own X)(o:TnOk X.nox S)(z:ZOk X.prog X.w X.K X.mg X.base Z)(t:XTab X.K X.mg tb hb)(m:Nat):∀st:List Stmt,r6 X.nox st (Rb m S Z tb hb st)
 |[]=>m8
 |s::r=>mv (JG w o z t m s) (Gk w o z t m r)
end
def  Nq(n k:Nat)(N ps:T3)(st:Stmt)(G:Gb)(Z:Zn)(tb:Str->Str->Option Bool)(hb:Str->Bool):TJ:=aR ps.length N.length (Rb n (uP N st k G) Z tb hb (aU st))
def JH{P:Program}{w:World}{K:Frag}{mg:Str->TZ}{base:Heap}{G:Gb}{Z:Zn}{tb:Str->Str->Option Bool}{hb:Str->Bool}(g:GbOk P w K mg base G)(z:ZOk P w K mg base Z)(xt:XTab K mg tb hb){h:Heap}(KX:K.In h)(hN:h.Ns mainGlobals mg){N ps:T3}{st:Stmt}{x:Str}(n k:Nat)(S:FnScope N ps (aj st))(b:bQ x st ps)(t:a8 K x st):Df P w K mg base x (k+1) (Nq n k N ps st G Z tb hb):=by
 let⟨f,oc,od,an,osl,kV,doc,pm,cdv,ct,h1,h2,h3,h4⟩:=t;have Fn:=kP (st:=st) h2 h3 h4;refine⟨f,_,ps,PySem.W.mg_of KX hN h1,h4,Fn.binds λkV doc pm an cdv ct us hl=>b x kV doc pm an cdv ct us hl,Dq Fn S λcdv A outer s H E hr=>?_⟩;exact Gk (X:=jK rg P w K mg base N x (aj st) f cdv A outer s H E) Ba (pG g S cdv A outer s H E hr) z xt n _
noncomputable def  jB(Z:Zn)(f:Str)(k:Nat)(g:T9->Option Str):Zn:={Z with df:=λx=>if x=f then !(k,g)else Z.df x}
def ZOk.addf{P:Program}{w:World}{K:Frag}{mg:Str->TZ}{base:Heap}{Z:Zn}{f:Str}{k:Nat}{g:T9->Option Str}(z:ZOk P w K mg base Z)(h:Dx P w K mg base f k g):ZOk P w K mg base (jB Z f k g) where
 cl:=z.cl
 df:=λx k' g' e=>by
  have e':(if x=f then !(k,g)else Z.df x)=!(k',g'):=e;split at e'
  .rename_i q;subst q;cases e';exact h
  .exact z.df x k' g' e'
 mz:=z.mz
def  Bk(z:Ev->Option Str)(r:TM)(t:Ev->Option Str):Ev->Option Str:=aS z (OF r t)
def  Tr(J:TK)(tg:D->Ev->Option Ev)(F:TM)(G:Ev->Option Str):Ev->Option Str:=aS (OG J tg F G) (OH J tg F G)
def  sR(o:Option Bool)(i:Nat)(a:Addr):TL:=match o with|some b=>Em i a b|none=>noV
def  qJ(f:TL):TL:=λY=>kj (f Y)
noncomputable def  pM(ns:T3)(x c:Str):Option Bool:=if x∈ns then(if c=("MillError":Str)\/c=("ValueError":Str)then !true else if c∈ns then !(decide (x=c))else none)else none
def Gm{G G':Ev->Option Str}{Y:Ev}{x:Str}(h:G Y=!x):aS G G' Y=!x:=by unfold aS;rw[h]
def Gn{G G':Ev->Option Str}{Y:Ev}(h:G Y=none):aS G G' Y=G' Y:=by unfold aS;rw[h]
def jd{z:Ev->Option Str}{r:TM}{t:Ev->Option Str}{Y:Ev}{x:Str}(h:z Y=!x):Bk z r t Y=!x:=Gm h
def nP{z:Ev->Option Str}{r:TM}{t:Ev->Option Str}{Y Y':Ev}(h:z Y=none)(q:r Y=!(.nx Y')):Bk z r t Y=t Y':=by
 unfold Bk;rw[Gn h];unfold OF;rw[q];rfl
def dC{fc:TN}{G G':Ev->Option Str}{Y:Ev}{c:Bool}(h:fc (vw Y)=!c):rr fc G G' Y=if c=true then G Y else G' Y:=by unfold rr;rw[h];rfl
def JI{F:TM}{G:Ev->Option Str}{Hd:Str->Ev->Option Ev}{Y Y':Ev}(h:G Y=none)(q:F Y=!(.nx Y')):sO F G Hd Y=!(.nx Y'):=by unfold sO;rw[h,q];rfl
def JJ{F:TM}{G:Ev->Option Str}{Hd:Str->Ev->Option Ev}{Y Y':Ev}{x:Str}(h:G Y=!x)(q:Hd x Y=!Y'):sO F G Hd Y=!(.nx Y'):=by unfold sO;rw[h];show(Hd x Y).bind _=_;rw[q];rfl
def uY{f:Str->Option Bool}{H1 H2:Str->Ev->Option Ev}{x:Str}(h:f x=!true):K2 f H1 H2 x=H1 x:=by unfold K2;rw[h]
structure TExc(K:Frag)(x:Str):Prop where
 r:∀{mg:Str->TZ}{base:Heap},K.In base->base.Ns mainGlobals mg->RCls K mg base x
def qK{K:Frag}{x nm qn:Str}{C N:Addr}{bs bm:TY}{hdct:Bool}{sn:T3}{sub:TY}{ab:Bool}{col:Option Bool}{dd:Option Addr}{k0 k1 k2 k3 k5:TZ}(e:nsIn K mainGlobals x=!(!(.ref C)))
  (lk:K.lookup C=!(excClassObj nm qn C N bs bm hdct sn sub ab col dd k0 k1 k2 k3 k5 "ValueError.__new__")) (ok:PySem.W.nsOkIn K N=true) (ni:nsIn K N "__init__"=!none) (tl:PySem.W.tailIn K Q3 bm=true):TExc K x:=
 ⟨λX hN=>Es X hN e lk ok ni tl⟩
noncomputable def  Bl(o:Option (TZ))(a:Addr):Bool:=match o with
 |some (!(.ref b))=>b==a
 |_=>false
def Bm{o:Option (TZ)}{a:Addr}(h:Bl o a=true):o=!(!(.ref a)):=by
 unfold Bl at h;split at h
 .rw[beq_iff_eq.mp h]
 .cases h
noncomputable def  wy(o:Option (TZ))(n:String):Bool:=match o with
 |some (!(.builtin m))=>m==n
 |_=>false
def sS{o:Option (TZ)}{n:String}(h:wy o n=true):o=!(!(.builtin n)):=by
 unfold wy at h;split at h
 .rw[beq_iff_eq.mp h]
 .cases h
noncomputable def  Bn(o:Option (TZ)):Bool:=match o with
 |some none=>true
 |_=>false
def Bo{o:Option (TZ)}(h:Bn o=true):o=!none:=by
 unfold Bn at h;split at h
 .rfl
 .cases h
def  Bp(K:Frag)(C:Addr):Bool:=wy (findIn K (.ref C) "__getattribute__") "BaseException.__getattribute__"&&Bn (findIn K (.ref C) "__getattr__")&&wy (findIn K (.ref C) "__class__") "object.__class__"&&
 decide (PySem.W.subIn K (.ref C) (!10)=!true)&&decide (PySem.W.mroIn K C (.type "object")=!true)&&(PySem.W.clsIn K C).isSome
def Bq{K:Frag}{C:Addr}(h:Bp K C=true):XCls K C:=by
 unfold Bp at h;simp only[and_eq_true,decide_eq_true_eq]at h;let⟨⟨⟨⟨⟨h1,h2⟩,h3⟩,h4⟩,h5⟩,h6⟩:=h;exact⟨sS h1,Bo h2,sS h3,h4,h5,h6⟩
def  JK(K:Frag)(M:Addr)(as:List (Str×Addr))(p:Str×Addr):Bool:=Bl (nsIn K mainGlobals p.1) p.2&&Bp K p.2&&decide (PySem.W.kitOne K (.ref p.2) (.ref M)=!true)&&decide (PySem.W.kitOne K (.ref p.2) (!15)=!true)&&
 decide (PySem.W.exmOne K (.ref p.2) (.ref M)=!true)&&as.all λq=>decide (PySem.W.kitOne K (.ref p.2) (.ref q.2)=!(decide (p.1=q.1)))&&decide (PySem.W.exmOne K (.ref p.2) (.ref q.2)=!(decide (p.1=q.1)))
structure TXs(K:Frag)(ns:T3):Prop where
 ex:∃(as:List (Str×Addr))(M:Addr),ns=as.map (·.1)/\nsIn K mainGlobals "MillError"=!(!(.ref M))/\nsIn K mainGlobals "ValueError"=!none/\∀p∈as,JK K M as p=true
def Ts{K:Frag}{ns:T3}{M:Addr}(as:List (Str×Addr))(e:ns=as.map (·.1))(hM:nsIn K mainGlobals "MillError"=!(!(.ref M)))(hV:nsIn K mainGlobals "ValueError"=!none)(h:as.all (JK K M as)=true):TXs K ns:=
 ⟨as,M,e,hM,hV,λp hp=>List.all_eq_true.mp h p hp⟩
noncomputable def  Rc(ns:T3)(M:Str):Bool:=decide (M=("MillError":Str))||decide (M∈ns)
def Eu{K:Frag}{ns:T3}(t:TXs K ns){mg:Str->TZ}{h:Heap}(X:K.In h)(hN:h.Ns mainGlobals mg):XTab K mg (pM ns) (Rc ns):=by
 let⟨as,M,e,hM,hV,ha⟩:=t.ex;have at':∀x∈ns,∃a,(x,a)∈as/\nsIn K mainGlobals x=!(!(.ref a))/\XCls K a/\PySem.W.kitOne K (.ref a) (.ref M)=!true/\PySem.W.kitOne K (.ref a) (!15)=!true/\PySem.W.exmOne K (.ref a) (.ref M)=!true/\
   ∀q∈as,PySem.W.kitOne K (.ref a) (.ref q.2)=!(decide (x=q.1))/\PySem.W.exmOne K (.ref a) (.ref q.2)=!(decide (x=q.1)):=λx hx=>by
  rw[e]at hx
  let⟨p,hp,rfl⟩:=Ut.mp hx
  have z:=ha p hp
  unfold JK at z
  simp only[and_eq_true,decide_eq_true_eq,List.all_eq_true]at z
  let⟨⟨⟨⟨⟨z1,z2⟩,z3⟩,z4⟩,z5⟩,z6⟩:=z
  exact⟨p.2,hp,Bm z1,Bq z2,z3,z4,z5,z6⟩
 have tb:∀x c b,pM ns x c=!b->x∈ns/\((c=("MillError":Str)/\b=true)\/(c=("ValueError":Str)/\b=true)\/(c∈ns/\b=decide (x=c))):=λx c b h=>by
  unfold pM at h;split at h
  .rename_i h1;refine⟨h1,?_⟩;split at h
   .rename_i q;cases h;exact q.elim (λq=>.inl ⟨q,rfl⟩) λq=>.inr (.inl ⟨q,rfl⟩)
   .split at h
    .rename_i h2;cases h;exact .inr (.inr ⟨h2,rfl⟩)
    .cases h
  .cases h
 refine⟨λx c b h C hC=>?_,λx c b h C hC=>?_,λm hm=>?_⟩
 .let⟨a,_,h1,h2,_⟩:=at' x (tb x c b h).1;rw[h1]at hC;cases hC;exact h2
 .let⟨hx,q⟩:=tb x c b h;let⟨a,_,h1,_,h3,h4,_,h6⟩:=at' x hx;rw[h1]at hC;cases hC;rcases q with⟨rfl,rfl⟩|⟨rfl,rfl⟩|⟨hc,rfl⟩
  .exact .inl ⟨M,PySem.W.mg_of X hN hM,h3⟩
  .exact .inr ⟨"ValueError",by decide,PySem.W.mg_none_of X hN hV,by decide+kernel,h4⟩
  .let⟨ac,hac,g1,_⟩:=at' c hc;exact .inl ⟨ac,PySem.W.mg_of X hN g1,(h6 _ hac).1⟩
 .unfold Rc at hm;rw[Bool.or_eq_true,decide_eq_true_eq,decide_eq_true_eq]at hm;by_cases c:m=("MillError":Str)
  .subst c;refine⟨M,PySem.W.mg_of X hN hM,λx b C h hC=>?_⟩;let⟨hx,q⟩:=tb x _ b h;let⟨a,_,h1,_,_,_,h5,h6⟩:=at' x hx;rw[h1]at hC;cases hC;have hb:b=true:=by
    unfold pM at h;rw[if_pos hx,if_pos (.inl rfl)]at h;cases h;rfl
   rw[hb];exact h5
  .have hmn:m∈ns:=hm.resolve_left c;let⟨am,ham,g1,_⟩:=at' m hmn;refine⟨am,PySem.W.mg_of X hN g1,λx b C h hC=>?_⟩;let⟨hx,q⟩:=tb x _ b h;let⟨a,_,h1,_,_,_,_,h6⟩:=at' x hx;rw[h1]at hC;cases hC;by_cases v:m=("ValueError":Str)
   .subst v;rw[hV]at g1;cases g1
   .rcases q with⟨q,_⟩|⟨q,_⟩|⟨_,rfl⟩
    .exact absurd q c
    .exact absurd q v
    .exact(h6 _ ham).2
def  sT(eI:TJ)(eH:TJ):TM:=(af (cu (o8 (b7 (dJ (aT fN (aa (va 1) (aa (cT "tuple") ag))))) (ao (bin2 (aE true) (aT cb (aa (va 1) ag)) (cI 2)))) (af (cG (aY (cB false) noV noV)) aF) aF) (af (cG (aY (mY (aL eH (aa (bin2 ixD (va 1) (cI 0)) ag)) (aL eI (aa (va 0) (aa (bin2 ixD (va 1) (cI 1)) ag)))) noV noV)) aF))
def  ku(fJ:TJ):TM:=(af (cu (o8 (b7 (dJ (aT fN (aa (va 1) (aa (dU (aa (cT "list") (aa (cT "tuple") ag))) ag))))) (ao (bin2 uj (aT cb (aa (va 1) ag)) (cD (.int 24))))) (af noO' aF) aF) (af (cu (b7 (dJ (aT kQ (aa (lsF (ah [2] (jX noV (va 1)) (aM 2) tQ (aL fJ (aa (va 0) (aa (va 2) ag))))) ag)))) (af noO' aF) aF) aF))
def  fQ(qY:TJ)(dE:TJ):TM:=(af (cG (aY (mY (aL dE (aa (va 0) (aa (bin2 ixD (va 1) (cI 1)) (aa (va 2) ag)))) (aL qY (aa (va 0) (aa (bin2 ixD (va 1) (cI 1)) (aa (va 2) (aa (bin2 ixD (va 1) (cI 0)) ag)))))) noV noV)) aF)
def  nQ(bB:TJ)(bf:TJ):TM:=(af (bz (aL bf (aa (va 0) (aa (va 1) ag)))) (af (cu (o8 (b7 (dJ (aT fN (aa (va 2) (aa (dU (aa (cT "list") (aa (cT "tuple") ag))) ag))))) (ao (bin2 (aE true) (aT cb (aa (va 2) ag)) (aT cb (aa (va 1) ag))))) (af noO' aF) aF) (af (cu (b7 (dJ (aT kQ (aa (lsF (ah [3,4] (jX (qw (aa (va 1) (aa (va 2) ag))) (aT eR (aa (va 1) (aa (va 2) ag)))) (iZ 2 (ai (aM 3) (ai (aM 4) bc))) tQ (aL bB (aa (va 0) (aa (va 3) (aa (va 4) ag)))))) ag)))) (af noO' aF) aF) aF)))
structure Lt where
 s:Int
 t:Nat
 w:T1
noncomputable def  eZ(l:Lt):D:=.tup [.int l.s,.int (l.t:Int)]
structure LtOk(ps:TR)(l:Lt):Prop where
 s1:1<=l.s
 s9:l.s<=9
 t:l.t<=ps.length
 w:WordOk ps l.t l.w
 fit:∀q∈l.w.zip (ps.drop l.t),l.s<=(pkAt q).2
def  lsD(v:Bool)(ls:List Lt):D:=sq v (ls.map eZ)
def  plD(v:Bool)(ls:List Lt):D:=sq v (ls.map λl=>wD l.w)
def  qL(f:TJ):Prop:=∀(ps:TR)(l:Lt),LtOk ps l->f [ae ps,eZ l]=!(.deep,.bl true)
def Br{la si}(hl:wr la)(hs:wq si):qL (aR 2 2 (sT la si)):=λps l h=>by
 refine aq rfl ?_;refine(seqF_nx ((aW ?_).trans rfl)).trans (aw (aV (evX_lf ?_ rfl)))
 .simp[ar,eZ]
 .simp[ar,eZ,hs l.s,hl ps l.t h.t,h.s1,h.s9]
def  my(f:TJ):Prop:=∀(v:Bool)(ps:TR)(ls:List Lt),ls.length<=24->(∀l∈ls,LtOk ps l)->f [ae ps,lsD v ls]=!(.deep,.non)
def Bt{le}(hl:qL le):my (aR 2 3 (ku le)):=λv ps ls h24 h=>by
 have hs:ar 3 [ae ps,lsD v ls]=[!_,!_,none]:=rfl;refine eW rfl (Y:=ar 3 [ae ps,lsD v ls]) ?_;rw[hs];refine(seqF_nx ((aW ?_).trans rfl)).trans ((seqF_nx ((aW ?_).trans rfl)).trans rfl)
 .have h':¬ (24:Int)<(ls.length:Int):=by omega
  cases v<;>simp[lsD,sq,h']
 .have hm:ah [2] (jX noV (va 1)) (aM 2) tQ (aL le (aa (va 0) (aa (va 2) ag))) [!(ae ps),!(lsD v ls),none]=!(ls.map λ_=>.bl true):=by
   refine aB (mk:=eZ) (by simp[lsD]) (λl hlm=>?_) (Uq h24 (!4));simp[hl ps l (h l hlm)]
  simp[hm,cH ls λ_=>true]
def  qM(f:TJ):Prop:=∀(v u:Bool)(ps:TR)(ls:List Lt),Valid ps->ls.length<=24->(∀l∈ls,LtOk ps l)->f [ae ps,lsD v ls,plD u ls]=!(.deep,.non)
def wA{ps:TR}{l:Lt}(h:LtOk ps l):((l.w.zip (ps.drop l.t)).all λq=>decide (l.s<=(pkAt q).2))=true:=by
 rw[List.all_eq_true];exactλq hq=>decide_eq_true (h.fit q hq)
def sU{β γ:Type}(g:β×β->γ):∀xs:List β,(xs.zip xs).map g=xs.map λx=>g (x,x)
 |[]=>rfl
 |x::xs=>by rw[List.zip_cons_cons,List.map_cons,List.map_cons,sU g xs]
def  JL(f:TJ):Prop:=∀(ps:TR)(l:Lt),Valid ps->LtOk ps l->f [ae ps,eZ l,wD l.w]=!(.deep,.bl true)
def Nr{fi wo}(hf:wu fi)(hw:wt wo):JL (aR 3 3 (fQ fi wo)):=λps a hv ho=>by
 have x1:ixD (eZ a) (.int 1)=!(.int (a.t:Int)):=wm _ _ _;have x0:ixD (eZ a) (.int 0)=!_:=nw _ _;refine aq rfl ?_;refine aw (aV (evX_lf ?_ rfl));simp[ar,x1,x0,hw ps a.t a.w hv ho.w,hf ps a.t a.w a.s hv ho.t ho.w ho.s1 ho.s9,wA ho]
def Bu{wf lo}(hf:JL wf)(hl:my lo):qM (aR 3 5 (nQ wf lo)):=λv u ps ls hv h24 h=>by
 have hs:ar 5 [ae ps,lsD v ls,plD u ls]=[!_,!_,!_,none,none]:=rfl;refine eW rfl (Y:=[!(.sh,ae ps),!(.sh,lsD v ls),!(.sh,plD u ls),none,none]) ?_;rw[hs];refine(seqF_nx (bV (d:=.non) ?_)).trans ((seqF_nx ((aW ?_).trans rfl)).trans ((seqF_nx ((aW ?_).trans rfl)).trans rfl))
 .simp[hl v ps ls h24 h]
 .cases u<;>cases v<;>simp[plD,lsD,sq]
 .have hm:ah [3,4] (jX (qw (aa (va 1) (aa (va 2) ag))) (aT eR (aa (va 1) (aa (va 2) ag)))) (iZ 2 (ai (aM 3) (ai (aM 4) bc))) tQ (aL wf (aa (va 0) (aa (va 3) (aa (va 4) ag)))) [!(ae ps),!(lsD v ls),!(plD u ls),none,none]=!(ls.map λ_=>.bl true):=by
   refine aB (mk:=λl=>.tup [eZ l,wD l.w]) (nr ?_) (λl hlm=>?_) (Uq h24 (!4))
   .simp only[consX_a,va_a,shAt_s,shAt_0,shAt_1,nilX_a,Option.bind_some];rw[eX (a:=lsD v ls) (b:=plD u ls) (eE _ _) (eE _ _),eY];exact congrArg some (sU _ ls)
   .simp[hf ps l hv (h l hlm)]
  simp[hm,cH ls λ_=>true]
def Go{β:Type}{v:Bool}{xs:List β}{mk:β->D}{i:Nat}{x:β}(h:xs[i]?=!x):ixD (sq v (xs.map mk)) (.int (i:Int))=!(mk x):=by
 cases v<;>exact atI_mapN h
def  Bv:TM:=(af (aD 5 (aY (lsF (ah [7] (jX noV (va 3)) (aM 7) tQ (lsF (dpF ag)))) (ah [7] (jX noV (va 3)) (aM 7) tQ (lsF (dpF ag))) (x9 [7] (jX noV (va 3)) (aM 7) tQ (frX (lsF (dpF ag)) (dpF ag) (qx ag))))) (af (lh (jX noV (va 4)) (gz 6) (af (xL 5 (bin2 ixD (bin2 ixD (va 1) (va 6)) (bin2 bt (va 2) (bin2 ixD (bin2 ixD (va 0) (va 6)) (cI 1)))) (va 6)) aF)) (af (yy 5) aF)))
def  yg:TM:=(af (aD 2 (aY (lsF (dpF ag)) (dpF ag) (qx ag))) (af (lh (jX (qw (aa (va 0) (aa (va 1) ag))) (aT eR (aa (va 0) (aa (va 1) ag)))) (Cr 2 (eh (gz 3) (eh (gz 4) oF))) (af (xH 2 (Hy (ao (bin2 (aE false) (bin2 ixD (va 3) (cI 0)) (cS "queue"))) (va 4) (sD (aa (aT eR (aa (va 4) ag)) ag) (aS (FY (aa (va 4) ag)) (xZ (aa (aT eR (aa (va 4) ag)) ag)))))) aF)) (af (yy 2) aF)))
def Gp(h:(xs Y).bind vR=!ds):jX (Ou xs) R Y=!ds:=by
 unfold jX aS Ou;rw[h]
def pN{g:Type}{f}(xs:List g):lP (xs.map f)=(xs.zipIdx).map λp=>.tup [.int (p.2:Nat),f p.1]:=by
 unfold lP;rw[List.zipIdx_map,List.map_map];rfl
noncomputable def  au(r:T1):D:=.lst (r.map λ(k:Nat)=>D.int (k:Int))
def uZ(r:T1):ib (r.map λ(k:Nat)=>D.int (k:Int))=true:=dc λd hd=>by
 let⟨k,_,rfl⟩:=Ut.mp hd;rfl
def Ew{R L Sp}(h:R (vw Y)=!d)(f:gq d=false)(j:L (vw Y)=!ds)(l:ib ds=false)(g:Sp (vw Y)=!e):aY R L Sp Y=!((.deep,e),Y):=by
 unfold aY aS c8 frX aS kj ic;grind
def Ex{n j:Nat}(h:j<n):re n (j:Int)=!j:=by
 unfold re;rw[if_pos (!3),if_pos (!3)];rfl
def Ey{i:Nat}{fk R}{Y:Ev}{ds ds2:T9}{j:Nat}{d:D}(h0:jh Y i=!(.deep,ds))(hk:fk (vw Y)=!(.int (j:Int)))(hj:ds[j]?=!(.lst ds2))(hd:R (eg Y)=!d)(lf:gq d=true)(hl:ds2.length+1<big):
  xL i fk R Y=!(.nx (Y.set i (!(.deep,.lst (ds.set j (.lst (ds2++[d]))))))):=by
 have hjl:=(Uk.mp hj).1
 unfold xL FO
 simp only[h0,Option.bind_some,if_true,hk,iA,Ex hjl,hj,hd,kj,lf]
 show(if ds2.length+1<big then _ else _)=_
 rw[if_pos hl]
noncomputable def  pkOf(ls:List Lt)(step k:Nat):Nat:=((ls[k]?).bind λl=>l.w[step-l.t]?).getD 0
def  dL(ls:List Lt)(step n:Nat)(row:T1):List (T1):=(List.range n).map λj=>row.filter λk=>decide (pkOf ls step k=j)
def  gE(hs:List (T1)):D:=.lst (hs.map au)
def  Gq(ls:List Lt)(step n:Nat)(row:T1):Prop:=∀k∈row,∃l j,ls[k]?=!l/\l.t<=step/\l.w[step-l.t]?=!j/\j<n
def yh(ls:List Lt)(step n:Nat)(row:T1)(k:Nat)(h:pkOf ls step k<n):
  (dL ls step n row)[pkOf ls step k]?=!(row.filter λi=>decide (pkOf ls step i=pkOf ls step k))/\
  dL ls step n (row++[k])=(dL ls step n row).set (pkOf ls step k) ((row.filter λi=>decide (pkOf ls step i=pkOf ls step k))++[k]):=by
 constructor
 .unfold dL;rw[getElem?_map,List.getElem?_range h];rfl
 .apply List.ext_getElem?;intro j;rw[List.getElem?_set];unfold dL;rw[getElem?_map,getElem?_map];by_cases hj:j<n
  .rw[List.getElem?_range hj];by_cases e:pkOf ls step k=j
   .subst e;simp[hj,List.filter_append]
   .simp[e,List.filter_append]
  .rw[List.getElem?_eq_none (by rw[length_range];omega)];have:pkOf ls step k≠j:=by omega
   simp[this]
def  Bw(f:TJ):Prop:=∀(v u:Bool)(ls:List Lt)(step:Nat)(p:List Pk)(row:T1),ls.length<=24->row.length<=24->p.length<=6->Gq ls step p.length row->
 f [lsD v ls,plD u ls,.int (step:Int),bH p,au row]=!(.deep,gE (dL ls step p.length row))
def JM:Bw (aR 5 8 Bv):=λv u ls step p row h24 hr hp hi=>by
  refine aq rfl ?_
  have hz:dL ls step p.length []=p.map λ_=>[]:=by
    unfold dL
    apply List.ext_getElem?
    intro j
    rw[getElem?_map,getElem?_map]
    by_cases hj:j<p.length
    · rw[List.getElem?_range hj,getElem?_eq_getElem hj];rfl
    · rw[List.getElem?_eq_none (by rw[length_range];omega),List.getElem?_eq_none (!3)];rfl
  have e1:ah [7] (jX noV (va 3)) (aM 7) tQ (lsF (dpF ag)) (vw [!(.sh,lsD v ls),!(.sh,plD u ls),!(.sh,.int (step:Int)),!(.sh,bH p),!(.sh,au row),none,none,none])=!(p.map λ_=>.lst []):=by
    refine aB (mk:=dY) ?_ ?_ (Uq hp (!4))
    · simp only[b9,vw_some,vw_none,vw_nil,va_a,shAt_s,shAt_0,shAt_1,Option.bind_some];rfl
    · intro x _
      simp[vw]
  have e2:ah [7] (jX noV (va 3)) (aM 7) tQ (frX (lsF (dpF ag)) (dpF ag) (qx ag)) (vw [!(.sh,lsD v ls),!(.sh,plD u ls),!(.sh,.int (step:Int)),!(.sh,bH p),!(.sh,au row),none,none,none])=!(p.map λ_=>.lst []):=by
    refine aB (mk:=dY) ?_ ?_ (Uq hp (!4))
    · simp only[b9,vw_some,vw_none,vw_nil,va_a,shAt_s,shAt_0,shAt_1,Option.bind_some];rfl
    · intro x _
      have:frX (lsF (dpF ag)) (dpF ag) (qx ag)=λ_=>!(.lst []):=by
        funext Y
        show aS _ _ Y=_
        unfold aS
        simp[kj,ic]
      rw[this]
      simp[vw]
  have a1:aD 5 (aY (lsF (ah [7] (jX noV (va 3)) (aM 7) tQ (lsF (dpF ag)))) (ah [7] (jX noV (va 3)) (aM 7) tQ (lsF (dpF ag))) (x9 [7] (jX noV (va 3)) (aM 7) tQ (frX (lsF (dpF ag)) (dpF ag) (qx ag)))) [!(.sh,lsD v ls),!(.sh,plD u ls),!(.sh,.int (step:Int)),!(.sh,bH p),!(.sh,au row),none,none,none]=!(.nx [!(.sh,lsD v ls),!(.sh,plD u ls),!(.sh,.int (step:Int)),!(.sh,bH p),!(.sh,au row),!(.deep,gE (dL ls step p.length [])),none,none]):=by
    have:aY (lsF (ah [7] (jX noV (va 3)) (aM 7) tQ (lsF (dpF ag)))) (ah [7] (jX noV (va 3)) (aM 7) tQ (lsF (dpF ag))) (x9 [7] (jX noV (va 3)) (aM 7) tQ (frX (lsF (dpF ag)) (dpF ag) (qx ag))) [!(.sh,lsD v ls),!(.sh,plD u ls),!(.sh,.int (step:Int)),!(.sh,bH p),!(.sh,au row),none,none,none]=!((.deep,.lst (p.map λ_=>.lst [])),[!(.sh,lsD v ls),!(.sh,plD u ls),!(.sh,.int (step:Int)),!(.sh,bH p),!(.sh,au row),none,none,none]):=by
      cases p with
      |nil=>exact evX_lfs (by rw[lsF_a,e1];rfl) rfl e1 rfl
      |cons a b=>exact Ew (by rw[lsF_a,e1];rfl) rfl e1 rfl (by unfold x9;rw[e2];rfl)
    rw[bj this,hz]
    unfold gE
    rw[List.map_map]
    rfl
  have L:=eD (J:=jX noV (va 4)) (tg:=gz 6) (F:=(af (xL 5 (bin2 ixD (bin2 ixD (va 1) (va 6)) (bin2 bt (va 2) (bin2 ixD (bin2 ixD (va 0) (va 6)) (cI 1)))) (va 6)) aF))
   
    (λi Y=>∃o6,Y=[!(.sh,lsD v ls),!(.sh,plD u ls),!(.sh,.int (step:Int)),!(.sh,bH p),!(.sh,au row),!(.deep,gE (dL ls step p.length (row.take i))),o6,none])
    (by simp only[b9,iC,eU,gB,eV,va_a,shAt_s,shAt_0,shAt_1,Option.bind_some];rfl) ⟨none,rfl⟩ (by
      rintro i d Y hd ⟨o6,rfl⟩
      rw[getElem?_map]at hd
      cases hk:row[i]? with
      |none=>rw[hk]at hd;cases hd
      |some k=>
        rw[hk]at hd
        cases hd
        let⟨l,j,g1,g2,g3,g4⟩:=hi k (UA hk)
        have hpk:pkOf ls step k=j:=by unfold pkOf;rw[g1,Option.bind_some,g3];rfl
        let⟨f1,f2⟩:=yh ls step p.length (row.take i) k (by rw[hpk];exact g4)
        rw[hpk]at f1 f2
        have ht:row.take (i+1)=row.take i++[k]:=by rw[List.take_succ,hk];rfl
        have x1:ixD (eZ l) (.int 1)=!(.int (l.t:Int)):=wm _ _ _
        have y1:ixD (lsD v ls) (.int (k:Int))=!_:=Go g1
        have y2:ixD (plD u ls) (.int (k:Int))=!_:=Go g1
        have y3:ixD (wD l.w) (.int ((step:Int)-(l.t:Int)))=!(.int (j:Int)):=by
          rw[show(step:Int)-(l.t:Int)=((step-l.t:Nat):Int)by omega]
          exact atI_mapN g3
        refine⟨_,(seqF_nx (Ey (j:=j) (ds2:=((row.take i).filter λi=>decide (pkOf ls step i=j)).map λ(k:Nat)=>D.int (k:Int)) (d:=.int (k:Int)) rfl ?_ ?_ ?_ rfl ?_)).trans rfl,⟨!(.sh,.int (k:Int)),?_⟩⟩
        · simp only[set_cons_succ,set_cons_zero,vw_some,vw_none,vw_nil,bin2_a,va_a,shAt_s,shAt_0,shAt_1,cI_a,Option.bind_some,y1,y2,x1,subD_ii,y3]
        · rw[getElem?_map,f1];rfl
        · simp only[set_cons_succ,set_cons_zero,iC,eU,gB,eV,va_a,shAt_s,shAt_0,shAt_1]
        · rw[length_map]
          have:=List.length_filter_le (λi=>decide (pkOf ls step i=j)) (row.take i)
          rw[List.length_take]at this
          have h2:(25:Nat)<big:=by decide
          omega
        · rw[ht,f2]
          unfold gE
          simp only[set_cons_succ,set_cons_zero,List.map_set]
          rw[show au ((List.filter (λi=>decide _) _)++[k])=.lst ((((row.take i).filter λi=>decide _).map λ(k:Nat)=>D.int (k:Int))++[.int (k:Int)])by unfold au;rw[List.map_append];rfl])
  let⟨Y',e,o6,rfl⟩:=L
  refine(seqF_nx a1).trans ((seqF_nx e).trans (aw ?_))
  rw[length_map,List.take_length]
  rfl
def pO:∀{es:T9},ib es=true->extC .deep es=.deep
 |[],_=>rfl
 |d::es,h=>by
  rw[AC,and_eq_true]at h;show extC (newCat .deep (extS d)) es=.deep;rw[show newCat .deep (extS d)=.deep by unfold extS newCat;rw[h.1];rfl];exact pO h.2
def yi{i:Nat}{R}{Y:Ev}{ds es:T9}(h0:jh Y i=!(.deep,ds))(hR:R (eg Y)=!(.lst es))(lf:ib es=true)(hl:ds.length+es.length<big):xH i R Y=!(.nx (Y.set i (!(.deep,.lst (ds++es))))):=by
 unfold xH;rw[h0];simp only[Option.bind_some,hR];show(if ds.length+es.length<big then _ else _)=_;rw[if_pos hl,pO lf]
noncomputable def  lU(q:Pk×List Nat):T1:=if q.1.1 then q.2 else q.2.reverse
def  jU(p:List Pk)(hs:List (T1)):T1:=((p.zip hs).map lU).flatten
def sV(r:T1):(r.map λ(k:Nat)=>D.int (k:Int)).reverse=r.reverse.map λ(k:Nat)=>D.int (k:Int):=by rw[List.map_reverse]
def Ez{xs ys zs:TK}{Y:Vv}{d:D}(h1:xs Y=none)(h2:ys Y=![d]){ds:T9}(h3:gS d=!ds):sD xs (aS (FY ys) zs) Y=!(.lst ds.reverse):=by
 unfold sD aS lsF FY;simp only[h1,h2,Option.bind_none,Option.bind_some];rw[show DD [d]=some ds.reverse by show(gS d).bind _=_;rw[h3];rfl];rfl
def  u6(f:TJ):Prop:=∀(p:List Pk)(hs:List (T1)),p.length<=6->(∀h∈hs,h.length<=24)->f [bH p,gE hs]=!(.deep,au (jU p hs))
def Bx{xs:List (T1)}{n:Nat}(h:∀x∈xs,x.length<=n):xs.flatten.length<=xs.length*n:=by
 induction xs with
 |nil=>simp
 |cons x xs ih=>
  rw[List.flatten_cons,length_append,length_cons,Nat.succ_mul];have a:=h x Ul;have b:=ih λy hy=>h y (Um _ hy);omega
def EA:u6 (aR 2 5 yg):=λp hs hp hh=>by
 refine aq rfl ?_;have a1:aY (lsF (dpF ag)) (dpF ag) (qx ag) [!(.sh,bH p),!(.sh,gE hs),none,none,none]=!((.deep,.lst []),[!_,!_,none,none,none]):=evX_lfs (d:=.lst []) (by simp) rfl (by simp) rfl;have L:=eD (J:=jX (qw (aa (va 0) (aa (va 1) ag))) (aT eR (aa (va 0) (aa (va 1) ag)))) (tg:=Cr 2 (eh (gz 3) (eh (gz 4) oF)))
  (F:=(af (xH 2 (Hy (ao (bin2 (aE false) (bin2 ixD (va 3) (cI 0)) (cS "queue"))) (va 4) (sD (aa (aT eR (aa (va 4) ag)) ag) (aS (FY (aa (va 4) ag)) (xZ (aa (aT eR (aa (va 4) ag)) ag)))))) aF))
  (ds:=(p.zip hs).map λq=>.tup [dY q.1,au q.2])
  (λi Y=>∃o3 o4,Y=[!(.sh,bH p),!(.sh,gE hs),!(.deep,au (((p.zip hs).take i).map lU).flatten),o3,o4])
  (by
   refine nr ?_;simp only[iC,eU,gB,eV,consX_a,va_a,shAt_s,shAt_0,shAt_1,nilX_a,Option.bind_some];rw[eX rfl rfl,eY]) ⟨none,none,rfl⟩ (by
   rintro i d Y hd ⟨o3,o4,rfl⟩;rw[getElem?_map]at hd;cases hq:(p.zip hs)[i]? with
   |none=>rw[hq]at hd;cases hd
   |some q=>
    rw[hq]at hd;cases hd;let⟨⟨b,w⟩,h⟩:=q;let⟨g1,g2⟩:=List.getElem?_zip_eq_some.mp hq;have hlen:=hh h (UA g2);have ht:(p.zip hs).take (i+1)=(p.zip hs).take i++[((b,w),h)]:=by rw[List.take_succ,hq];rfl
    have hb:((((p.zip hs).take i).map lU).flatten).length<=144:=by
     refine Ur (Bx (n:=24) λx hx=>?_) ?_
     .let⟨y,hy,rfl⟩:=Ut.mp hx;have hy2:=(List.of_mem_zip (List.mem_of_mem_take hy)).2;unfold lU;split
      .exact hh _ hy2
      .rw[List.length_reverse];exact hh _ hy2
     .rw[length_map,List.length_take,List.length_zip];omega
    have x0:ixD (dY (b,w)) (.int 0)=!_:=nw _ _;refine⟨_,(seqF_nx (yi (es:=(lU ((b,w),h)).map λ(k:Nat)=>D.int (k:Int)) rfl ?_ (uZ _) ?_)).trans rfl,⟨!(.sh,dY (b,w)),!(.sh,au h),?_⟩⟩
    .simp only[set_cons_succ,set_cons_zero,iC,eU,gB,eV,F5,testB_a,bin2_a,va_a,shAt_s,shAt_0,shAt_1,cI_a,cS_a,Option.bind_some,x0,AG,asB_bl];cases b with
     |true=>rfl
     |false=>
      refine(Ez ?_ rfl rfl).trans ?_
      .simp[eR]
      .rw[sV];rfl
    .rw[length_map,length_map];have h2:(lU ((b,w),h)).length<=24:=by
      unfold lU;split
      .exact hlen
      .rw[List.length_reverse];exact hlen
     have h3:(1000:Nat)<big:=by decide
     omega
    .rw[ht,List.map_append,List.flatten_append];simp only[set_cons_succ,set_cons_zero];unfold au;simp)
 let⟨Y',e,o3,o4,rfl⟩:=L;refine(seqF_nx (bj a1)).trans ((seqF_nx e).trans (aw ?_));rw[length_map,List.take_length];rfl
def nR(f:Nat->Nat):∀(n:Nat)(row:T1),(∀k∈row,f k<n)->(((List.range n).map λj=>row.filter λk=>decide (f k=j)).flatten).Perm row
 |0,row,h=>by
  cases row with
  |nil=>exact .nil
  |cons k _=>exact absurd (h k Ul) (!3)
 |n+1,row,h=>by
  rw[List.range_succ,List.map_append,List.flatten_append];have e:((List.range n).map λj=>row.filter λk=>decide (f k=j))=((List.range n).map λj=>(row.filter λk=>decide (f k<n)).filter λk=>decide (f k=j)):=by
   apply List.map_congr_left;intro j hj;rw[List.filter_filter];apply List.filter_congr;intro k _;have:=Uz.mp hj;by_cases e:f k=j
   .simp[e,this]
   .simp[e]
  have a:=nR f n (row.filter λk=>decide (f k<n)) λk hk=>by simpa using (List.mem_filter.mp hk).2
  rw[e];have b:(row.filter λk=>decide (f k=n))=row.filter λk=>not (decide (f k<n)):=by
   apply List.filter_congr;intro k hk;have:=h k hk;by_cases e:f k=n
   .simp[e]
   .have:f k<n:=by omega
    simp[e,this]
  simp only[List.map_cons,List.map_nil,List.flatten_cons,List.flatten_nil,List.append_nil];rw[b];exact(a.append_right _).trans (List.filter_append_perm _ _)
def pP:∀(p:List Pk)(hs:List (T1)),p.length=hs.length->(jU p hs).Perm hs.flatten
 |[],[],_=>.nil
 |[],_::_,h=>by simp at h
 |_::_,[],h=>by simp at h
 |a::p,h::hs,e=>by
  have ih:=pP p hs (by simpa using e);unfold jU at ih⊢;rw[List.zip_cons_cons,List.map_cons,List.flatten_cons,List.flatten_cons];refine List.Perm.append ?_ ih;unfold lU;split
  .exact .refl _
  .exact List.reverse_perm _
def yj{ls:List Lt}{step:Nat}{p:List Pk}{row:T1}(h:∀k∈row,pkOf ls step k<p.length):(jU p (dL ls step p.length row)).Perm row:=
 (pP p _ (by unfold dL;rw[length_map,length_range])).trans (nR _ _ _ h)
def Gr{ps:TR}{ls:List Lt}(h:∀l∈ls,LtOk ps l){k i:Nat}{l:Lt}(p:ls[k]?=!l)(C:l.t<=i)(hi:i<ps.length):∃j,l.w[i-l.t]?=!j/\j<(ps[i]?.getD []).length/\pkOf ls i k=j:=by
 have o:=h l (UA p);have g:i-l.t<l.w.length:=by rw[o.w.len,List.length_drop];omega
 refine⟨l.w[i-l.t],getElem?_eq_getElem g,?_,?_⟩
 .have r:(l.w.zip (ps.drop l.t))[i-l.t]?=!(l.w[i-l.t],ps[i]):=by
   rw[List.getElem?_zip_eq_some];refine⟨getElem?_eq_getElem g,?_⟩;rw[List.getElem?_drop,show l.t+(i-l.t)=i by omega];exact getElem?_eq_getElem hi
  have:=o.w.each _ (UA r);rw[getElem?_eq_getElem hi];exact this
 .unfold pkOf;rw[p,Option.bind_some,getElem?_eq_getElem g];rfl
noncomputable def  gone(ps:TR)(l:Lt)(i:Nat):List (Nat×List Pk):=(l.w.zip (ps.drop l.t)).take (i-l.t)
def  stAt(ps:TR)(l:Lt)(i:Nat):Int×Int:=walkC (ahd ps l.t,ahd ps l.t-1) (gone ps l i)
def  nS(ps:TR)(l:Lt)(i:Nat):Int:=1-2*((piles (gone ps l i):Int)%2)
section
variable{ps:TR}{ls:List Lt}
def mB{l:Lt}(o:LtOk ps l){i:Nat}(r:l.t<=i)(hi:i<ps.length):∃j,l.w[i-l.t]?=!j/\(l.w.zip (ps.drop l.t))[i-l.t]?=!(j,ps[i])/\j<ps[i].length:=by
 have p:i-l.t<l.w.length:=by rw[o.w.len,List.length_drop];omega
 have g:(l.w.zip (ps.drop l.t))[i-l.t]?=!(l.w[i-l.t],ps[i]):=by
  rw[List.getElem?_zip_eq_some];refine⟨getElem?_eq_getElem p,?_⟩;rw[List.getElem?_drop,show l.t+(i-l.t)=i by omega];exact getElem?_eq_getElem hi
 exact⟨_,getElem?_eq_getElem p,g,o.w.each _ (UA g)⟩
def pQ{l:Lt}{i:Nat}(g:l.t<=i){q}(h:(l.w.zip (ps.drop l.t))[i-l.t]?=!q):gone ps l (i+1)=gone ps l i++[q]:=by
 unfold gone;rw[show i+1-l.t=(i-l.t)+1 by omega,List.take_succ,h];rfl
def wB{l:Lt}{i:Nat}(g:l.t<=i){q}(h:(l.w.zip (ps.drop l.t))[i-l.t]?=!q):stAt ps l (i+1)=M7 (stAt ps l i) q:=by
 unfold stAt walkC;rw[pQ g h,List.foldl_append];rfl
def qN{l:Lt}{i:Nat}(j:l.t<=i){q}(h:(l.w.zip (ps.drop l.t))[i-l.t]?=!q):nS ps l (i+1)=if(pkAt q).1=true then nS ps l i else-nS ps l i:=by
 unfold nS piles;rw[pQ j h,List.filter_append,length_append];cases g:(pkAt q).1 with
 |true=>simp[g]
 |false=>simp[g];omega
def By{i:Nat}(hi:i<ps.length):ahd ps (i+1)=ahd ps i*(ps[i].length:Nat):=by
 unfold ahd;rw[List.take_succ,getElem?_eq_getElem hi];have:∀(xs:TR)(y:List Pk),prod (xs++[y])=prod xs*y.length:=λxs y=>by
  induction xs with
  |nil=>simp[prod]
  |cons a xs g=>simp only[List.cons_append,prod,g,Nat.mul_assoc]
 simp only[Option.toList_some,this];push_cast;rfl
def qO(l:Valid ps)(i:Nat):0<ahd ps i:=by
 unfold ahd;have:∀(xs:TR),(∀x∈xs,1<=x.length)->0<prod xs:=λxs=>by
  induction xs with
  |nil=>intro _;simp[prod]
  |cons a xs j=>intro h;simp only[prod];exact Nat.mul_pos (h a Ul) (j λx g=>h x (Um _ g))
 have:=this (ps.take i) λx g=>(l.p (List.mem_of_mem_take g)).1;omega
def Bz(hv:Valid ps){l:Lt}(o:LtOk ps l):∀(d:Nat),l.t+d<=ps.length->(stAt ps l (l.t+d)).1=ahd ps (l.t+d)/\0<=(stAt ps l (l.t+d)).2/\(stAt ps l (l.t+d)).2<ahd ps (l.t+d)
 |0,_=>by
  have:stAt ps l (l.t+0)=(ahd ps l.t,ahd ps l.t-1):=by unfold stAt gone walkC;simp
  rw[this];have:=qO hv l.t;exact⟨rfl,by show 0<=ahd ps l.t-1;omega,by show ahd ps l.t-1<ahd ps l.t;omega⟩
 |d+1,hd=>by
  let⟨h1,h2,h3⟩:=Bz hv o d (!3);let⟨j,g1,g2,g3⟩:=mB o (i:=l.t+d) (!3) (!3);have e:=wB (ps:=ps) (i:=l.t+d) (!3) g2;rw[show l.t+(d+1)=l.t+d+1 from rfl,e,By (!3)];unfold M7;simp only[h1];have hA:=qO hv (l.t+d);generalize ahd ps (l.t+d)=A at*;generalize (stAt ps l (l.t+d)).2=c at*;have hl:0<=lay (pkAt (j,ps[l.t+d])).1 A c/\lay (pkAt (j,ps[l.t+d])).1 A c<A:=by
   unfold lay;split<;>constructor<;>omega
  generalize lay (pkAt (j,ps[l.t+d])).1 A c=y at*;have h4:(j:Int)*A+A<=A*(ps[l.t+d].length:Nat):=by
   have:(j:Int)+1<=(ps[l.t+d].length:Nat):=by omega
   have:=Int.mul_le_mul_of_nonneg_left this (Int.le_of_lt hA);rw[Int.mul_add,Int.mul_one,Int.mul_comm]at this;exact this
  have h5:0<=(j:Int)*A:=Int.mul_nonneg (!3) (Int.le_of_lt hA);exact⟨trivial,by omega,by omega⟩
def  cd(ps:TR)(ls:List Lt)(i k:Nat):Int:=((ls[k]?).map λl=>(stAt ps l i).2).getD 0
def  ky(ps:TR)(ls:List Lt)(i k:Nat):Int:=((ls[k]?).map λl=>nS ps l i*((k:Int)+(ls.length:Int)*(l.t:Int))).getD 0
def BA(j:Valid ps)(h:∀l∈ls,LtOk ps l){i k:Nat}{l:Lt}(g:ls[k]?=!l)(o:l.t<=i)(hi:i<=ps.length):0<=cd ps ls i k/\cd ps ls i k<ahd ps i:=by
 unfold cd;rw[g];have:=Bz j (h l (UA g)) (i-l.t) (!3);rw[show l.t+(i-l.t)=i by omega]at this;exact this.2
def wC(C:Valid ps)(h:∀l∈ls,LtOk ps l){i k:Nat}{l:Lt}(p:ls[k]?=!l)(g:l.t<=i)(hi:i<ps.length):
  cd ps ls (i+1) k=(pkOf ls i k:Int)*ahd ps i+lay (pkAt (pkOf ls i k,ps[i])).1 (ahd ps i) (cd ps ls i k)/\ky ps ls (i+1) k=(if(pkAt (pkOf ls i k,ps[i])).1=true then ky ps ls i k else-ky ps ls i k)/\pkOf ls i k<ps[i].length:=by
 have o:=h l (UA p)
 let⟨j,g1,g2,g3⟩:=mB o g hi
 have I:pkOf ls i k=j:=by unfold pkOf;rw[p,Option.bind_some,g1];rfl
 have e:=wB g g2
 have f:=qN g g2
 have r:=(Bz C o (i-l.t) (!3)).1
 rw[show l.t+(i-l.t)=i by omega]at r
 rw[I]
 unfold cd ky
 rw[p]
 simp only[map_some,Option.getD_some]
 refine⟨?_,?_,g3⟩
 .rw[e];unfold M7;rw[r]
 .rw[f];split
  .rfl
  .rw[Int.neg_mul]
def Re(j:Valid ps){l:Lt}(o:LtOk ps l):(stAt ps l ps.length).2=qG ps l.t l.w/\nS ps l ps.length=iF ps l.t l.w:=by
 have g:gone ps l ps.length=l.w.zip (ps.drop l.t):=by
  apply List.take_of_length_le;rw[List.length_zip,List.length_drop];omega
 unfold stAt nS qG iF;rw[g];exact⟨rfl,rfl⟩
end
def qP{R L Sp}{Y:Ev}{ds:T9}(h:R (vw Y)=none)(g:L (vw Y)=!ds)(j:ib ds=true):aY R L Sp Y=!((.deep,.lst ds),Y):=by
 unfold aY aS c8 frX aS kj ic;simp only[h,g,j,Option.bind_some,Option.bind_none];rfl
def  gf(fl:Str->Str->Bool):TM:=(af (lh (jX noV (i9 fl "passes" (va 0))) (gz 1) (af (cu (dJ (aT l8 (aa (lsF (ah [2,3] (jX noV (va 1)) (iZ 2 (ai (aM 2) (ai (aM 3) bc))) tQ (bin2 (aE false) (va 3) (cI 0)))) ag))) (af noO' aF) aF) aF)) aF)
def  kx(aJ:TJ):TM:=(af (cu (o8 (b7 (dJ (aT fN (aa (va 0) (aa (dU (aa (cT "list") (aa (cT "tuple") ag))) ag))))) (ao (bin2 uj (aT cb (aa (va 0) ag)) (cD (.int 24))))) (af (cG (aY (cB false) noV noV)) aF) aF) (af (cG (aY (mY (aT kQ (aa (lsF (ah [1] (jX noV (va 0)) (aM 1) tQ (aL aJ (aa (va 1) (aa (cI 0) (aa (bin2 bt (aT cb (aa (va 0) ag)) (cI 1)) ag)))))) ag)) (bin2 (aE false) (sD (aa (va 0) ag) (x8 (aa (va 0) ag))) (sD (aa (aT eR (aa (aT cb (aa (va 0) ag)) ag)) ag) (aS (Cs (aa (aT cb (aa (va 0) ag)) ag)) (xZ (aa (aT eR (aa (aT cb (aa (va 0) ag)) ag)) ag)))))) noV noV)) aF))
def  de:TM:=(af (cG (aY (lsF (ah [1] (jX noV (va 0)) (aM 1) tQ (dU (aa (cI 1) (aa (cI 0) ag))))) (ah [1] (jX noV (va 0)) (aM 1) tQ (dU (aa (cI 1) (aa (cI 0) ag)))) (x9 [1] (jX noV (va 0)) (aM 1) tQ (frX (dU (aa (cI 1) (aa (cI 0) ag))) noV (yw (aa (frX (cI 1) noV noV) (aa (frX (cI 0) noV noV) ag))))))) aF)
def  gP(aZ:TJ)(dt:TJ)(bq:TJ):TM:=(af (bz (aL bq (aa (va 0) ag))) (af (cu (ao (bin2 uj (aT cb (aa (va 1) ag)) (cD (.int 24)))) (af noO' aF) aF) (af (bz (aL dt (aa (va 0) (aa (aL aZ (aa (va 1) ag)) (aa (va 1) ag))))) aF)))
def  nU(fl:Str->Str->Bool)(aZ:TJ)(iQ:TJ)(gj:TJ)(dQ:TJ)(aC:TJ):TM:=(af (bz (aL aC (aa (va 0) (aa (va 1) ag)))) (af (cu (o8 (b7 (dJ (aL dQ (aa (va 2) ag)))) (ao (bin2 (aE true) (aT cb (aa (va 2) ag)) (aT cb (aa (va 1) ag))))) (af noO' aF) aF) (af (aD 3 (aY (Ot (aa (va 2) ag)) (xZ (aa (va 2) ag)) (pF (aa (va 2) ag)))) (af (lh (jX (Ou (aa (i9 fl "passes" (va 0)) ag)) (aT eR (aa (i9 fl "passes" (va 0)) ag))) (Cr 2 (eh (gz 4) (eh (gz 5) oF))) (af (aD 3 (aY (aL gj (aa (va 5) (aa (aL iQ (aa (aL aZ (aa (va 1) ag)) (aa (va 1) (aa (va 4) (aa (va 5) (aa (va 3) ag)))))) ag))) noV (Ct gj (aa (va 5) (aa (aL iQ (aa (aL aZ (aa (va 1) ag)) (aa (va 1) (aa (va 4) (aa (va 5) (aa (va 3) ag)))))) ag))))) aF)) (af (yy 3) aF)))))
section
variable{G F:TM}{Y Y':Ev}{out:Option Out}
def q_set(h:g Y=!(s,Y'))(k:G (Y'.set i (!s))=out):af (aD i g) G Y=out:=(seqF_nx (bj h)).trans k
def jV(h:f (vw Y)=!d)(k:G Y=out):af (bz f) G Y=out:=(seqF_nx (bV h)).trans k
def q_if0(h:c (vw Y)=!false)(k:G Y=out):af (cu c F aF) G Y=out:=(seqF_nx ((aW h).trans rfl)).trans k
def eF(h:F Y=!(.nx Y'))(k:G Y'=out):af F G Y=out:=(seqF_nx h).trans k
def cZ(h:g Y=!(s,Y')):af (cG g) G Y=!(.rt s):=aw (aV h)
def Nt(I:Nat->Ev->Prop)(j:J (eg Y)=!ds)(h0:I 0 Y)(g:∀(i:Nat)(d:D)(Y:Ev),ds[i]?=!d->I i Y->∃Y',(tg d Y).bind F=!(.nx Y')/\I (i+1) Y')(k:∀Y',I ds.length Y'->G Y'=out):af (lh J tg F) G Y=out:=by
 let⟨Y',e,i⟩:=eD I j h0 g;exact(seqF_nx e).trans (k _ i)
def JN{j:Type}{xs:List j}{mk}(I:Nat->Ev->Prop)(o:J (eg Y)=!(xs.map mk))(h0:I 0 Y)(l:∀(i:Nat)(x:j)(Y:Ev),xs[i]?=!x->I i Y->∃Y',(tg (mk x) Y).bind F=!(.nx Y')/\I (i+1) Y')(k:∀Y',I xs.length Y'->G Y'=out):af (lh J tg F) G Y=out:=Nt I o h0 (λi d Y hd hi=>by
 rw[getElem?_map]at hd;cases g:xs[i]? with
 |none=>rw[g]at hd;cases hd
 |some x=>rw[g]at hd;cases hd;exact l i x Y g hi) (by rw[length_map];exact k)
def JO{β:Type}{J:TK}{tg:D->Ev->Option Ev}{xs:List β}{mk:β->D}(I:Nat->Ev->Prop)(hJ:J (eg Y)=!(xs.map mk))(h0:I 0 Y)(hs:∀(i:Nat)(x:β)(Y:Ev),xs[i]?=!x->I i Y->∃Y',(tg (mk x) Y).bind F=!(.nx Y')/\I (i+1) Y'):
  ∃Y',af (lh J tg F) aF Y=!(.nx Y'):=by
 let⟨Y',e,i⟩:=eD I hJ h0 (λi d Y hd hi=>by
  rw[getElem?_map]at hd;cases hx:xs[i]? with
  |none=>rw[hx]at hd;cases hd
  |some x=>rw[hx]at hd;cases hd;exact hs i x Y hx hi)
 exact⟨Y',(seqF_nx e).trans rfl⟩
def Nu{v:Nat->Int}(I:Nat->Ev->Prop)(j:J (eg Y)=!((List.range n).map λi=>D.int (v i)))(h0:I 0 Y)(g:∀(i:Nat)(Y:Ev),i<n->I i Y->∃Y',F (Y.set s (!(.sh,.int (v i))))=!(.nx Y')/\I (i+1) Y')(k:∀Y',I n Y'->G Y'=out):af (lh J (gz s) F) G Y=out:=by
 let⟨Y',e,i⟩:=gC I j h0 g;exact(seqF_nx e).trans (k _ i)
end
def nV:∀r:T1,dX (r.map λ(k:Nat)=>D.int (k:Int))=!(r.map λ(k:Nat)=>(k:Int))
 |[]=>rfl
 |k::r=>by
  show(dX (r.map λ(k:Nat)=>D.int (k:Int))).bind (λxs=>!((k:Int)::xs))=_;rw[nV r];rfl
def EB{r:T1}(h:r.Perm (List.range n)):fP (r.map λ(k:Nat)=>(k:Int))=(List.range n).map λ(k:Nat)=>(k:Int):=by
 refine(uE (h.symm.map _) ?_).symm;rw[List.pairwise_map];exact List.pairwise_lt_range.imp λh=>by omega
def BB(h:r.Perm (List.range n))(j:n<=24):sk [au r]=!((List.range n).map λ(k:Nat)=>D.int (k:Int)):=by
 show((dX (r.map λ(k:Nat)=>D.int (k:Int))).bind λg=>if g.length<64 then !((fP g).map D.int)else none)=_;rw[nV];simp only[Option.bind_some];have l:r.length=n:=by rw[h.length_eq,length_range]
 rw[if_pos (by rw[length_map];omega),EB h,List.map_map];rfl
def JP{n:Nat}(g:n<=24):Ms [.int (n:Int)]=!((List.range n).map λ(k:Nat)=>D.int (k:Int)):=by
 show(if C7 (n:Int)/\(n:Int)<1000000 then !(kR 0 (n:Int).toNat)else none)=_;rw[if_pos ⟨qy (!3),by omega⟩,Int.toNat_natCast,qz]
def jW:∀r:T1,pi (r.map λ(k:Nat)=>D.int (k:Int))=true/\eC (r.map λ(k:Nat)=>D.int (k:Int))=0
 |[]=>⟨rfl,rfl⟩
 |k::r=>⟨by show(true&&pi _)=true;rw[(jW r).1];rfl,by show max 0 (eC _)=0;rw[(jW r).2];rfl⟩
def EC(neg:Bool)(h2:ph d=true)(j:vH d<=50)(g:HN d d=true)(h1:bK d=false):aE neg d d=!(.bl (not neg)):=by
 unfold aE jx;rw[show(bK d&&bK d&&xf (l6 d) (l6 d))=false by rw[h1];rfl,if_neg (!4),h2,g,decide_eq_true j,if_pos (by rfl),rW _ h2];cases neg<;>rfl
def JQ(neg:Bool)(r:T1):aE neg (au r) (au r)=!(.bl (not neg)):=EC neg (jW r).1 (by show eC _+1<=50;rw[(jW r).2];decide) rfl rfl
def nW(h:L Y=!ds):sD xs L Y=!(.lst ds):=by
 unfold sD aS lsF;have:(xs Y).bind eR=none:=by cases xs Y<;>rfl
 grind
def Nv(g:n<=24)(h:ys Y=![.int (n:Int)]):aS (Cs ys) zs Y=!((List.range n).map λ(k:Nat)=>D.int (k:Int)):=by
 have:Cs ys Y=!((List.range n).map λ(k:Nat)=>D.int (k:Int)):=by
  unfold Cs;rw[h];exact JP g
 unfold aS;rw[this]
def nY{β:Type}(xs:List β)(p:β->Bool):l8 [.lst (xs.map λx=>.bl (p x))]=!(.bl (xs.any p)):=by
 have e:xs.map (λx=>D.bl (p x))=(xs.map p).map D.bl:=by rw[List.map_map];rfl
 rw[e];unfold l8 rh;simp only[gS,Option.bind_some];rw[nz];simp[List.any_map];rfl
def  Wide(ps:TR):Prop:=∀p∈ps,∀k∈p,1<=k.2
def  ED(f:TJ):Prop:=∀ps:TR,Valid ps->Wide ps->f [ae ps]=!(.deep,.non)
def Nw{fl}(hfl:fl "Mill" "passes"=true):ED (aR 1 4 (gf fl)):=λps hv hw=>by
 have hf:ji fl "passes" (ae ps)=!(av ps):=by simp[ji,ae,hfl]
 have L:∃Y',gf fl [!(.sh,ae ps),none,none,none]=!(.nx Y'):=by
  refine JO (xs:=ps) (mk:=bH) (λi Y=>∃o1,Y=[!_,o1,none,none]) ?_ ⟨none,rfl⟩ ?_
  .simp only[b9,iC,eU,gB,we,va_a,shAt_0,Option.bind_some,hf];rfl
  .rintro i p Y hp ⟨o1,rfl⟩;have hpl:=(hv.p (UA hp)).2.1;have hm:ah [2,3] (jX noV (va 1)) (iZ 2 (ai (aM 2) (ai (aM 3) bc))) tQ (bin2 (aE false) (va 3) (cI 0)) [!(ae ps),!(bH p),none,none]=!(p.map λ_=>.bl false):=by
    refine aB (by simp only[b9,va_a,shAt_1,Option.bind_some];rfl) (λk hk=>?_) (Uq hpl (!4));have h1:¬k.2=0:=by have:=hw p (UA hp) k hk;omega
    show jw _ _ _ _ (.tup [.str (kd k.1),.int k.2])=_;simp[h1]
   refine⟨_,q_if0 ?_ rfl,⟨!_,rfl⟩⟩;simp only[set_cons_succ,set_cons_zero,vw_some,vw_none,vw_nil,trF_a,biF_a,consX_a,nilX_a,lsF_a,hm,map_some,Option.bind_some,nY p λ_=>false];simp
 let⟨Y',e⟩:=L;exact eW rfl e
def  qQ(f:TJ):Prop:=∀(r:T1)(n:Nat),r.Perm (List.range n)->n<=24->f [au r]=!(.deep,.bl true)
def EF{w}(hw:dH w):qQ (aR 1 2 (kx w)):=λr n pm hn=>by
 have hs:ar 2 [au r]=[!(.sh,au r),none]:=rfl;have hl:r.length=n:=by rw[pm.length_eq,length_range]
 have y:seqD (au r)=!(r.map λ(k:Nat)=>D.int (k:Int)):=rfl;have hm:ah [1] (jX noV (va 0)) (aM 1) tQ (aL w (aa (va 1) (aa (cI 0) (aa (bin2 bt (aT cb (aa (va 0) ag)) (cI 1)) ag)))) [!(au r),none]=!(r.map λ_=>.bl true):=by
  refine aB (xs:=r) (mk:=λ(k:Nat)=>D.int (k:Int)) (out:=λ_=>.bl true) (by simp only[b9,va_a,shAt_0,Option.bind_some,y]) (λk hk=>?_) (Uq (by omega:r.length<=24) (!4));have h1:=Uz.mp (pm.mem_iff.mp hk);have h2:(0:Int)<=(k:Int):=by omega
  have h3:(k:Int)<=(r.length:Int)-1:=by omega
  simp only[stepF_a,wipe_cons,wipe_nil,gNm_a,tQ_a,set_cons_succ,set_cons_zero,Option.bind_some,if_true,clF_a,consX_a,nilX_a,va_a,shAt_0,shAt_1,cI_a,bin2_a,biF_a,bG,y,length_map,subD_ii,hw (k:Int) 0 ((r.length:Int)-1),valO_some,h2,h3,decide_true];rfl
 have s1:x8 (aa (va 0) ag) [!(au r),none]=!((List.range n).map λ(k:Nat)=>D.int (k:Int)):=by
  unfold x8 aS;simp only[consX_a,nilX_a,va_a,shAt_0,Option.bind_some,BB pm hn]
 refine aq rfl ?_;rw[hs];unfold kx;have h24:¬ (24:Int)<(r.length:Int):=by omega
 refine q_if0 ?_ (cZ (evX_lf ?_ rfl))
 .simp only[vw_some,vw_none,vw_nil,sF,notQ_a,trF_a,testB_a,bin2_a,biF_a,consX_a,nilX_a,va_a,shAt_0,jz,MY,Az,Option.bind_some,capL_2,F6,AE,show cV (au r)=some "list"from rfl,List.any_cons,List.any_nil,AF,truD_bl,bG,y,length_map,nt,asB_bl,h24,decide_false];rfl
 .simp only[vw_some,vw_none,vw_nil,uQ,biF_a,consX_a,nilX_a,lsF_a,hm,map_some,Option.bind_some,cH r λ_=>true,asB_bl];rw[show(r.all λ_=>true)=true by simp];simp only[if_true,bin2_a];rw[nW s1,nW (Nv hn (by simp only[consX_a,nilX_a,biF_a,va_a,shAt_0,Option.bind_some,bG,y,length_map,hl]))];exact JQ false (List.range n)
def  EG(f:TJ):Prop:=∀(u:Bool)(ls:List Lt),ls.length<=24->(∀l∈ls,l.s=1/\l.t=0)->f [plD u ls]=!(.deep,lsD true ls)
def wE(ls:List Lt):ib (ls.map eZ)=true:=dc λd hd=>by
 let⟨p,_,rfl⟩:=Ut.mp hd;rfl
def Nx:EG (aR 1 2 de):=λu ls h24 h=>by
 have hs:ar 2 [plD u ls]=[!(.sh,plD u ls),none]:=rfl;have hm:ah [1] (jX noV (va 0)) (aM 1) tQ (dU (aa (cI 1) (aa (cI 0) ag))) [!(plD u ls),none]=!(ls.map eZ):=by
  refine aB (xs:=ls) (mk:=λl=>wD l.w) (out:=eZ) (by simp only[b9,va_a,shAt_0,Option.bind_some];exact eE _ _) (λl hl=>?_) (Uq h24 (!4));unfold eZ;rw[(h l hl).1,(h l hl).2];simp
 refine aq rfl ?_;rw[hs];unfold de;exact cZ (evX_lfs (d:=lsD true ls) (by simp only[vw_some,vw_none,vw_nil,lsF_a,hm];rfl) rfl (by simp only[vw_some,vw_none,vw_nil,hm]) (wE ls))
structure One(ps:TR)(l:Lt):Prop where
 s:l.s=1
 t:l.t=0
 w:WordOk ps 0 l.w
def One.ok{ps:TR}{l:Lt}(h:One ps l)(hw:Wide ps):LtOk ps l:=by
 refine⟨by rw[h.s];decide,by rw[h.s];decide,by rw[h.t];exact Nat.zero_le _,by rw[h.t];exact h.w,λq hq=>?_⟩;rw[h.t]at hq;rw[h.s];have h1:=h.w.each q hq;have h2:q.2∈ps:=by have:=(List.of_mem_zip hq).2;simpa using this
 have e:=getElem?_eq_getElem h1;unfold pkAt;rw[e];exact hw _ h2 _ (List.getElem_mem h1)
def  u7(f:TJ):Prop:=∀(u:Bool)(ps:TR)(ls:List Lt),Valid ps->Wide ps->ls.length<=24->(∀l∈ls,One ps l)->f [ae ps,plD u ls]=!(.deep,.non)
def Ny{lo lp wi}(h1:EG lo)(h2:qM lp)(h3:ED wi):u7 (aR 2 2 (gP lo lp wi)):=λu ps ls hv hw h24 h=>by
 have hs:ar 2 [ae ps,plD u ls]=[!(.sh,ae ps),!(.sh,plD u ls)]:=rfl;have e1:=h1 u ls h24 λl hl=>⟨(h l hl).s,(h l hl).t⟩;have e2:=h2 true u ps ls hv h24 λl hl=>(h l hl).ok hw;have e3:=h3 ps hv hw;have y:seqD (plD u ls)=!(ls.map λl=>wD l.w):=eE _ _;have h':¬ (24:Int)<(ls.length:Int):=by omega
 refine eW (Y:=[!(.sh,ae ps),!(.sh,plD u ls)]) rfl ?_;rw[hs];unfold gP;refine jV (d:=.non) ?_ (q_if0 ?_ (jV (d:=.non) ?_ rfl))
 .simp only[vw_some,vw_nil,clF_a,consX_a,nilX_a,va_a,shAt_0,Option.bind_some,e3,valO_some]
 .simp only[vw_some,vw_nil,testB_a,bin2_a,biF_a,consX_a,nilX_a,va_a,shAt_1,Az,Option.bind_some,bG,y,length_map,nt,asB_bl,h',decide_false]
 .simp only[vw_some,vw_nil,clF_a,consX_a,nilX_a,va_a,shAt_0,shAt_1,Option.bind_some,e1,e2,valO_some]
def  cC(ps:TR)(ls:List Lt)(row:T1):Nat->T1
 |0=>row
 |i+1=>jU (ps[i]?.getD []) (dL ls i (ps[i]?.getD []).length (cC ps ls row i))
def lq{ps:TR}{ls:List Lt}{row:T1}(h:∀l∈ls,LtOk ps l)(h0:∀l∈ls,l.t=0)(pm:row.Perm (List.range ls.length)):∀(i:Nat),i<=ps.length->(cC ps ls row i).Perm row
 |0,_=>.refl _
 |i+1,hi=>by
  have ih:=lq h h0 pm i (!3);refine(yj (ls:=ls) (step:=i) (p:=ps[i]?.getD []) (row:=cC ps ls row i) λk hk=>?_).trans ih;have hk2:k<ls.length:=Uz.mp (pm.mem_iff.mp (ih.mem_iff.mp hk));have e:ls[k]?=some ls[k]:=getElem?_eq_getElem hk2;let⟨j,_,c,d⟩:=Gr h e (by rw[h0 _ (List.getElem_mem hk2)];exact Nat.zero_le _) (show i<ps.length by omega);rw[d];exact c
def EH{ps:TR}{ls:List Lt}{row:T1}(h:∀l∈ls,LtOk ps l)(h0:∀l∈ls,l.t=0)(pm:row.Perm (List.range ls.length)){i:Nat}{p:List Pk}(hp:ps[i]?=!p):Gq ls i p.length (cC ps ls row i):=λk hk=>by
 have hi:i<ps.length:=(Uk.mp hp).1;have hk2:k<ls.length:=Uz.mp (pm.mem_iff.mp ((lq h h0 pm i (!3)).mem_iff.mp hk));have e:ls[k]?=some ls[k]:=getElem?_eq_getElem hk2;have ht:ls[k].t<=i:=by rw[h0 _ (List.getElem_mem hk2)];exact Nat.zero_le _
 let⟨j,c,d,_⟩:=Gr h e ht hi;rw[hp]at d;exact⟨_,j,e,ht,c,d⟩
def  wF(f:TJ):Prop:=∀(u:Bool)(ps:TR)(ls:List Lt)(row:T1),Valid ps->Wide ps->ls.length<=24->(∀l∈ls,One ps l)->row.Perm (List.range ls.length)->f [ae ps,plD u ls,au row]=!(.deep,au (cC ps ls row ps.length))
def JR{fl lo fi em ir lw}(hfl:fl "Mill" "passes"=true)(h1:EG lo)(h2:Bw fi)(h3:u6 em)(h4:qQ ir)(h5:u7 lw):wF (aR 3 6 (nU fl lo fi em ir lw)):=λu ps ls row hv hw h24 h pm=>by
 have hs:ar 6 [ae ps,plD u ls,au row]=[!(.sh,ae ps),!(.sh,plD u ls),!(.sh,au row),none,none,none]:=rfl;have hf:ji fl "passes" (ae ps)=!(av ps):=by simp[ji,ae,hfl]
 have ok:=λl hl=>(h l hl).ok hw;have t0:=λl hl=>(h l hl).t;have e1:=h1 u ls h24 λl hl=>⟨(h l hl).s,(h l hl).t⟩;have e4:=h4 row ls.length pm h24;have e5:=h5 u ps ls hv hw h24 h;have hrl:row.length=ls.length:=by rw[pm.length_eq,length_range]
 have yp:seqD (plD u ls)=!(ls.map λl=>wD l.w):=eE _ _;have yr:seqD (au row)=!(row.map λ(k:Nat)=>D.int (k:Int)):=rfl;refine aq rfl ?_;rw[hs];unfold nU;refine jV (d:=.non) ?_ (q_if0 ?_ (q_set (evX_lfs (d:=au row) (ds:=row.map λ(k:Nat)=>D.int (k:Int)) ?_ rfl ?_ (uZ row))
  (JN (xs:=ps.zipIdx) (mk:=λp=>.tup [.int (p.2:Nat),bH p.1]) (λi Y=>∃o4 o5,Y=[!(.sh,ae ps),!(.sh,plD u ls),!(.sh,au row),!(.deep,au (cC ps ls row i)),o4,o5]) ?_ ⟨none,none,rfl⟩ ?_ ?_)))
 .simp only[vw_some,vw_none,vw_nil,clF_a,consX_a,nilX_a,va_a,shAt_0,shAt_1,Option.bind_some,e5,valO_some]
 .simp only[vw_some,vw_none,vw_nil,sF,notQ_a,trF_a,testB_a,bin2_a,clF_a,biF_a,consX_a,nilX_a,va_a,shAt_s,shAt_0,shAt_1,Option.bind_some,e4,valO_some,truD_bl,map_some,bG,yp,yr,length_map,hrl,iB,asB_bl];simp
 .simp only[vw_some,vw_none,vw_nil,F4,consX_a,nilX_a,va_a,shAt_s,shAt_0,shAt_1,Option.bind_some,wj,yr,map_some];rfl
 .simp only[vw_some,vw_none,vw_nil,F3,consX_a,nilX_a,va_a,shAt_s,shAt_0,shAt_1,Option.bind_some,wj,yr]
 .refine Gp ?_;simp only[set_cons_succ,set_cons_zero,iC,eU,gB,eV,consX_a,va_a,we,shAt_s,shAt_0,shAt_1,nilX_a,Option.bind_some,hf];show(seqD (av ps)).bind (λxs=>!(lP xs))=_;rw[show seqD (av ps)=some (ps.map bH)from rfl,Option.bind_some,pN]
 .rintro i ⟨p,j⟩ Y hd ⟨o4,o5,rfl⟩;rw[List.getElem?_zipIdx]at hd;cases hp:ps[i]? with
  |none=>rw[hp]at hd;cases hd
  |some p'=>
   rw[hp]at hd;simp only[map_some,Nat.zero_add,Option.some.injEq,Prod.mk.injEq]at hd;let⟨rfl,rfl⟩:=hd;have hil:i<ps.length:=(Uk.mp hp).1;have hpl:p'.length<=6:=(hv.p (UA hp)).2.1;have hwl:(cC ps ls row i).length<=24:=by rw[(lq ok t0 pm i (!3)).length_eq];omega
   have y1:=h2 true u ls i p' (cC ps ls row i) h24 hwl hpl (EH ok t0 pm hp);have y2:=h3 p' (dL ls i p'.length (cC ps ls row i)) hpl (λx hx=>by
    unfold dL at hx;let⟨j,_,rfl⟩:=Ut.mp hx;exact Ur (List.length_filter_le _ _) hwl)
   have er:cC ps ls row (i+1)=jU p' (dL ls i p'.length (cC ps ls row i)):=by
    show jU _ _=_;rw[hp];rfl
   have arg:∀(F:TJ),(aa (va 5) (aa (aL fi (aa (aL lo (aa (va 1) ag)) (aa (va 1) (aa (va 4) (aa (va 5) (aa (va 3) ag)))))) ag) [!(ae ps),!(plD u ls),!(au row),!(au (cC ps ls row i)),!(.int (i:Nat)),!(bH p')])=![bH p',gE (dL ls i p'.length (cC ps ls row i))]:=λF=>by
    simp only[clF_a,consX_a,nilX_a,va_a,shAt_s,shAt_0,shAt_1,Option.bind_some,e1,y1,valO_some]
   refine⟨_,q_set (evX_call (d:=au (cC ps ls row (i+1))) (e:=au (cC ps ls row (i+1))) ?_ rfl rfl ?_) rfl,⟨!(.sh,.int (i:Nat)),!(.sh,bH p'),rfl⟩⟩
   .simp only[set_cons_succ,set_cons_zero,vw_some,vw_none,vw_nil,clF_a (f:=em)];rw[arg em,Option.bind_some,y2,er];rfl
   .simp only[set_cons_succ,set_cons_zero,vw_some,vw_none,vw_nil,fCl_a (f:=em)];rw[arg em,Option.bind_some,y2,er];rfl
 .rintro Y' ⟨o4,o5,rfl⟩;rw[List.length_zipIdx];exact rfl
@[simp]def JS(a b c d:D):bw (![a,b,c,d])=![a,b,c,d]:=cR (show 4<big by decide)
@[simp]def OM(a b c d e f g h i j:D):bw (![a,b,c,d,e,f,g,h,i,j])=![a,b,c,d,e,f,g,h,i,j]:=cR (show 10<big by decide)
section
variable{α:Type}{G F:TM}{Y Y':Ev}{out:α->Option Out}{P:α->Prop}
def BC(h:F Y=!(.nx Y'))(k:∃a,G Y'=out a/\P a):∃a,af F G Y=out a/\P a:=k.imp λ_ q=>⟨(seqF_nx h).trans q.1,q.2⟩
def sX(h:g Y=!(s,Y'))(k:∃a,G (Y'.set i (!s))=out a/\P a):∃a,af (aD i g) G Y=out a/\P a:=BC (bj h) k
def nZ{f:TL}{d:D}(h:f (vw Y)=!d)(k:∃a,G Y=out a/\P a):∃a,af (bz f) G Y=out a/\P a:=BC (bV h) k
def Gs{c}(h:c (vw Y)=!false)(k:∃a,G Y=out a/\P a):∃a,af (cu c F aF) G Y=out a/\P a:=BC ((aW h).trans rfl) k
def Gu{j:Type}{xs:List j}{mk}(I:Nat->Ev->Prop)(o:J (eg Y)=!(xs.map mk))(h0:I 0 Y)(l:∀(i:Nat)(x:j)(Y:Ev),xs[i]?=!x->I i Y->∃Y',(tg (mk x) Y).bind F=!(.nx Y')/\I (i+1) Y')(k:∀Y',I xs.length Y'->∃a,G Y'=out a/\P a):∃a,af (lh J tg F) G Y=out a/\P a:=by
 let⟨Y',e,i⟩:=eD I o h0 (λi d Y hd hi=>by
  rw[getElem?_map]at hd;cases g:xs[i]? with
  |none=>rw[g]at hd;cases hd
  |some x=>rw[g]at hd;cases hd;exact l i x Y g hi)
 rw[length_map]at i;exact BC e (k _ i)
def Nz{P:Ev->Prop}(h:P Y):∃a,aF Y=!(.nx a)/\P a:=⟨Y,rfl,h⟩
def NA{P:Ev->Prop}(h:g Y=!(.nx Y'))(p:P Y'):∃a,af g aF Y=!(.nx a)/\P a:=BC h (Nz p)
end
noncomputable abbrev dp(d:D):Option Sl:=!(.deep,d)
abbrev sn(d:D):Option Sl:=!(.sh,d)
noncomputable abbrev iN(n:Nat):D:=.int (n:Int)
abbrev Fn:=List D->Option Sl
abbrev Zf:=List D->Option Str
abbrev Fv:=Vv->Option D
abbrev Fx:=Vv->Option (List D)
abbrev fH(R:Fv):=aY R noV noV
abbrev yk(f:Fn)(xs:Fx):=aY (aL f xs) noV (Ct f xs)
abbrev NB:=aY (lsF (dpF ag)) (dpF ag) (qx ag)
abbrev jR(xs:Fx):=jX (MV xs) (aT eR xs)
abbrev mh(g:TQ):=af (cG g) aF
abbrev x1(a:Fv):Fx:=aa a ag
abbrev x2(a b:Fv):Fx:=aa a (x1 b)
abbrev x3(a b c:Fv):Fx:=aa a (x2 b c)
abbrev x4(a b c d:Fv):Fx:=aa a (x3 b c d)
abbrev x5(a b c d e:Fv):Fx:=aa a (x4 b c d e)
abbrev x6(a b c d e f:Fv):Fx:=aa a (x5 b c d e f)
abbrev cX(a:Fv):Fv:=aT cb (x1 a)
def tr{α:Type}{P:α->Prop}{f g}(h:P g)(e:f=g:=by kernel_rfl):P f:=e▸h
def iH:x1 a Y=aa a ag Y:=rfl
def n5:x2 a b Y=aa a (x1 b) Y:=rfl
def ym:x3 a b c Y=aa a (x2 b c) Y:=rfl
noncomputable def  R3:=And.intro @vw_o (And.intro @vw_nil (And.intro @vw_some (And.intro @vw_none (And.intro @map_some.{0,0} (And.intro @Option.map_none.{0,0} (And.intro @set_cons_succ.{0} (And.intro @set_cons_zero.{0} (And.intro @consX_a (And.intro @nilX_a (And.intro @va_a (And.intro @shAt_s (And.intro @shAt_0 (And.intro @shAt_1 (And.intro @Option.bind_some.{0,0} (And.intro @bin2_a (And.intro @biF_a (And.intro @clF_a (And.intro @fCl_a (And.intro @cI_a (And.intro @cS_a (And.intro @testB_a (And.intro @notQ_a (And.intro @trF_a (And.intro @andQ_a (And.intro @valO_some (And.intro @asB_bl (And.intro @truD_bl (And.intro @addD_ii (And.intro @subD_ii (And.intro @lsF_a (And.intro @dpF_a (And.intro @capL_1 (And.intro @capL_2 (And.intro @stepF_a (And.intro @wipe_cons (And.intro @wipe_nil (And.intro @gNm_a (And.intro @tQ_a (@if_true.{1})))))))))))))))))))))))))))))))))))))))
def sB:type_of%R3:=R3
end L2
namespace K42
open PySem PySem.Spec PyProof.Rows L2
section
variable{ps:TR}{ls:List Lt}
def pR(hv:Valid ps)(h:∀l∈ls,LtOk ps l)(h0:∀l∈ls,l.t=0){a b:Nat}{la lb:Lt}(ha:ls[a]?=!la)(hb:ls[b]?=!lb):∀i,i<=ps.length->cd ps ls i a=cd ps ls i b->nS ps la i=nS ps lb i
 |0,_,_=>by
  have e:∀l:Lt,gone ps l 0=[]:=λl=>by unfold gone;rw[Nat.zero_sub];rfl
  unfold nS;rw[e,e]
 |i+1,hi,e=>by
  have ma:=UA ha;have mb:=UA hb;have ta:la.t<=i:=by rw[h0 _ ma];exact Nat.zero_le _
  have tb:lb.t<=i:=by rw[h0 _ mb];exact Nat.zero_le _
  have hi':i<ps.length:=by omega
  let⟨a1,a2,a3⟩:=wC hv h ha ta hi';let⟨b1,b2,b3⟩:=wC hv h hb tb hi';let⟨a4,a5⟩:=BA hv h ha ta (show i<=ps.length by omega);let⟨b4,b5⟩:=BA hv h hb tb (show i<=ps.length by omega);have lay_b:∀(q:Bool)(A c:Int),0<=c->c<A->0<=lay q A c/\lay q A c<A:=λq A c h1 h2=>by unfold lay;split<;>omega
  let⟨x1,x2⟩:=lay_b (pkAt (pkOf ls i a,ps[i])).1 _ _ a4 a5;let⟨y1,y2⟩:=lay_b (pkAt (pkOf ls i b,ps[i])).1 _ _ b4 b5;have hp:=qO hv i;have ej:pkOf ls i a=pkOf ls i b:=by
   rw[a1,b1]at e;generalize lay (pkAt (pkOf ls i a,ps[i])).1 (ahd ps i) (cd ps ls i a)=u at*;generalize lay (pkAt (pkOf ls i b,ps[i])).1 (ahd ps i) (cd ps ls i b)=v at*;have h1:((pkOf ls i a:Int)*ahd ps i+u)/ahd ps i=(pkOf ls i a:Int):=by
    rw[Int.add_comm,Int.add_mul_ediv_right _ _ (!3),Int.ediv_eq_zero_of_lt x1 x2];omega
   have h2:((pkOf ls i b:Int)*ahd ps i+v)/ahd ps i=(pkOf ls i b:Int):=by
    rw[Int.add_comm,Int.add_mul_ediv_right _ _ (!3),Int.ediv_eq_zero_of_lt y1 y2];omega
   rw[e,h2]at h1;omega
  have ec:cd ps ls i a=cd ps ls i b:=by
   rw[a1,b1,ej]at e;have e2:lay (pkAt (pkOf ls i b,ps[i])).1 (ahd ps i) (cd ps ls i a)=lay (pkAt (pkOf ls i b,ps[i])).1 (ahd ps i) (cd ps ls i b):=by omega
   unfold lay at e2;split at e2<;>omega
  have ih:=pR hv h h0 ha hb i (!3) ec;let⟨ja,u1,u2,_⟩:=mB (h la ma) ta hi';let⟨jb,v1,v2,_⟩:=mB (h lb mb) tb hi';have ea:pkOf ls i a=ja:=by unfold pkOf;rw[ha,Option.bind_some,u1];rfl
  have eb:pkOf ls i b=jb:=by unfold pkOf;rw[hb,Option.bind_some,v1];rfl
  rw[qN ta u2,qN tb v2,ih,<-ea,<-eb,ej]
def  cls(ps:TR)(ls:List Lt)(r:T1)(c:Int):T1:=r.filter λk=>decide (cd ps ls ps.length k=c)
noncomputable def  turned(s:Int)(l:T1):T1:=if s<0 then l.reverse else l
end
noncomputable def  kys(l:T5):T5:=l.foldl (λks c=>if c∈ks then ks else ks++[c]) []
def kz(l:T5)(c:Int):kys (l++[c])=if c∈kys l then kys l else kys l++[c]:=by
 unfold kys;rw[List.foldl_append];rfl
def qR(c:Int):∀l:T5,c∈kys l.reverse↔c∈l
 |[]=>Iff.rfl
 |x::l=>by
  rw[List.reverse_cons,kz];have ih:=qR c l;have ihx:=qR x l;split
  .rename_i hx;rw[ih,mem_cons];exact⟨.inr,λz=>z.elim (λe=>e▸ihx.mp hx) id⟩
  .rw[mem_append,mem_singleton,ih,mem_cons];exact Or.comm
def kys_mem{c:Int}{l:T5}:c∈kys l↔c∈l:=by
 have:=qR c l.reverse;rw[List.reverse_reverse]at this;rw[this,List.mem_reverse]
def iI:∀l:T5,(kys l.reverse).Nodup
 |[]=>List.nodup_nil
 |x::l=>by
  rw[List.reverse_cons,kz];split
  .exact iI l
  .rename_i hx;exact List.nodup_append.mpr ⟨iI l,by simp,λa ha b hb z=>by rw[mem_singleton.mp hb]at z;exact hx (z▸ha)⟩
def yn(l:T5):(kys l).Nodup:=by
 have:=iI l.reverse;rwa [List.reverse_reverse]at this
def pS:∀l:T5,(kys l.reverse).length<=l.length
 |[]=>UB _
 |x::l=>by
  rw[List.reverse_cons,kz];have:=pS l;split
  .rw[length_cons];omega
  .rw[length_append,length_cons];show(kys l.reverse).length+1<=l.length+1;omega
def wG(l:T5):(kys l).length<=l.length:=by
 have:=pS l.reverse;rwa [List.reverse_reverse,List.length_reverse]at this
end K42
namespace K42
open PySem PySem.Spec PyProof.Rows L2
def  gG(a9 ci:Fn):TM:=(af (cu (ao (bin2 (aE false) (bin2 aI (aL a9 (x2 (va 0) (cI 0))) (cI 2)) (cI 1))) (mh (aY (lsF (ah [5] (jR (x1 (va 1))) (aM 5) tQ (aL ci (x2 (aL a9 (x2 (va 0) (bin2 ay (cI 1) (bin2 aI (va 5) (cI 16))))) (bin2 bi (va 5) (cI 16)))))) (ah [5] (jR (x1 (va 1))) (aM 5) tQ (aL ci (x2 (aL a9 (x2 (va 0) (bin2 ay (cI 1) (bin2 aI (va 5) (cI 16))))) (bin2 bi (va 5) (cI 16))))) (x9 [5] (jR (x1 (va 1))) (aM 5) tQ (frX (aL ci (x2 (aL a9 (x2 (va 0) (bin2 ay (cI 1) (bin2 aI (va 5) (cI 16))))) (bin2 bi (va 5) (cI 16)))) noV (Ct ci (x2 (aL a9 (x2 (va 0) (bin2 ay (cI 1) (bin2 aI (va 5) (cI 16))))) (bin2 bi (va 5) (cI 16)))))))) aF) (af (aD 2 (fH (cI 7))) (af (lh (jX noV (va 0)) (gz 3) (af (aD 2 (fH (bin2 aI (bin2 ay (bin2 ay (bin2 cF (va 2) (va 2)) (bin2 cF (va 3) (cI 131))) (cI 17)) (cI 1000000000039)))) aF)) (af (aD 4 NB) (af (lh (jR (x1 (va 1))) (gz 5) (af (aD 2 (fH (bin2 aI (bin2 ay (bin2 ay (bin2 cF (va 2) (va 2)) (bin2 cF (cI 977) (va 5))) (cI 3)) (cI 1000000000039)))) (af (xX 4 2 (fH (va 2)) (va 2)) aF))) (af (lh (jR (x1 (cX (va 0)))) (gz 5) (af (aD 6 (fH (bin2 aI (va 5) (va 1)))) (af (cg 4 (va 6) (fH (bin2 aI (bin2 ay (bin2 cF (bin2 ixD (va 4) (va 6)) (cI 131)) (bin2 ixD (va 0) (va 5))) (cI 1000000000039)))) aF))) (af (yy 4) aF)))))))
def  fg:TM:=(af (aD 1 (aY (bin2 ay (cI 1) (bin2 aI (va 0) (cI 3))) (catF (cI 1) (bin2 aI (va 0) (cI 3))) noV)) (af (aD 2 NB) (af (lh (jR (x1 (va 1))) (gz 3) (af (aD 4 (fH (bin2 ixD (lsF (dpF (x2 (cS "queue") (cS "pile")))) (bin2 aI (bin2 bi (va 0) (bin2 ixD (lsF (dpF (x3 (cI 3) (cI 6) (cI 12)))) (va 3))) (cI 2))))) (af (m9 2 (aY (dU (x2 (va 4) (bin2 ay (cI 1) (bin2 aI (bin2 bi (va 0) (bin2 ixD (lsF (dpF (x3 (cI 24) (cI 216) (cI 1944)))) (va 3))) (cI 9))))) noV (yw (x2 (frX (va 4) noV noV) (frX (bin2 ay (cI 1) (bin2 aI (bin2 bi (va 0) (bin2 ixD (lsF (dpF (x3 (cI 24) (cI 216) (cI 1944)))) (va 3))) (cI 9))) (catF (cI 1) (bin2 aI (bin2 bi (va 0) (bin2 ixD (lsF (dpF (x3 (cI 24) (cI 216) (cI 1944)))) (va 3))) (cI 9))) noV))))) aF))) (mh (aY (aT bO (x1 (va 2))) noV (pF (x1 (va 2))))))))
def  jC(aQ:Fn):TM:=(mh (aY (aT bO (x1 (lsF (ah [2] (jR (x1 (bin2 aI (bin2 ixD (va 0) (va 1)) (cI 5)))) (aM 2) tQ (aL aQ (x1 (bin2 ixD (va 0) (bin2 ay (bin2 ay (va 1) (cI 1)) (va 2))))))))) noV (pF (x1 (lsF (ah [2] (jR (x1 (bin2 aI (bin2 ixD (va 0) (va 1)) (cI 5)))) (aM 2) tQ (aL aQ (x1 (bin2 ixD (va 0) (bin2 ay (bin2 ay (va 1) (cI 1)) (va 2)))))))))))
def  iJ:TM:=(af (aD 4 NB) (af (lh (jR (x1 (va 3))) (gz 5) (af (aD 6 (fH (bin2 ixD (va 0) (bin2 ay (va 1) (va 5))))) (af (m9 4 (aY (aT bO (x1 (lsF (ah [7] (jR (x1 (cX (va 2)))) (aM 7) tQ (bin2 aI (bin2 bi (va 6) (bin2 ixD (lsF (dpF (x4 (cI 1) (cI 3) (cI 9) (cI 27)))) (va 7))) (cX (bin2 ixD (va 2) (va 7)))))))) noV (pF (x1 (lsF (ah [7] (jR (x1 (cX (va 2)))) (aM 7) tQ (bin2 aI (bin2 bi (va 6) (bin2 ixD (lsF (dpF (x4 (cI 1) (cI 3) (cI 9) (cI 27)))) (va 7))) (cX (bin2 ixD (va 2) (va 7)))))))))) aF))) (af (yy 4) aF)))
def EI{ce pa}(hc:AT ce)(hp:AU pa):qF (aR 2 7 (gG ce pa)):=λns m hn h0 hm=>by
 have hs:ar 7 [bg ns,.int (m:Int)]=[!(.sh,bg ns),!(.sh,.int (m:Int)),none,none,none,none,none]:=rfl;have hc0:=hc ns 0;have hT:ao (bin2 (aE false) (bin2 aI (aL ce (x2 (va 0) (cI 0))) (cI 2)) (cI 1)) [!(bg ns),!(.int (m:Int)),none,none,none,none,none]=!(decide (ns[0]?.getD 0%2=1)):=by
  have e:(0:Int)=((0:Nat):Int):=rfl;simp only[testB_a,bin2_a,clF_a,consX_a,va_a,shAt_0,cI_a,nilX_a,Option.bind_some];rw[e,hc0];simp only[valO_some,Option.bind_some,bC (show(0:Int)<2 by decide),iB];rfl
 cases hb:decide (ns[0]?.getD 0%2=1)with
 |true=>
  rw[hb]at hT;let⟨cs,l,_,e⟩:=sL (ks:=[5]) (J:=jR (x1 (va 1))) (g:=aM 5) (ft:=tQ) (fe:=aL pa (x2 (aL ce (x2 (va 0) (bin2 ay (cI 1) (bin2 aI (va 5) (cI 16))))) (bin2 bi (va 5) (cI 16))))
   (Y:=[!(bg ns),!(.int (m:Int)),none,none,none,none,none]) (xs:=List.range m) (mk:=λ(i:Nat)=>D.int (i:Int)) (out:=D.int) (P:=λ_=>True) (iz (by simp;exact cJ (!3))) (λk hk=>by
    have hk':k<m:=Uz.mp hk;have e1:(1+(k:Int)%16)=((1+k%16:Nat):Int):=by omega
    have e2:(k:Int)/16=((k/16:Nat):Int):=by omega
    let⟨v,_,_,ev⟩:=hp (ns[1+k%16]?.getD 0) (k/16) (!3);refine⟨v,trivial,?_⟩;simp only[stepF_a,wipe_cons,wipe_nil,gNm_a,set_cons_succ,set_cons_zero,Option.bind_some,tQ_a,if_true,clF_a,consX_a,va_a,shAt_0,shAt_s,shAt_1,bin2_a,cI_a,nilX_a,bC (show(0:Int)<16 by decide),dG (show(0:Int)<16 by decide) (show(16:Int)<1073741824 by decide),addD_ii,e1,e2,hc ns (1+k%16),valO_some,ev]) (by rw[length_range];exact Nat.lt_trans hm (!4))
  rw[length_range]at l;refine⟨cs,l,aq rfl ?_⟩;unfold gG;rw[hs];refine aw ((ifS_t hT).trans (aw (aV (evX_lfs (d:=bg cs) ?_ rfl (show _=some (cs.map D.int)from e) (cK cs)))));simp only[vw_some,vw_none,vw_nil,lsF_a,e];rfl
 |false=>
  rw[hb]at hT;have L1:=eD (J:=jX noV (va 0)) (tg:=gz 3) (F:=af (aD 2 (fH (bin2 aI (bin2 ay (bin2 ay (bin2 cF (va 2) (va 2)) (bin2 cF (va 3) (cI 131))) (cI 17)) (cI 1000000000039)))) aF) (ds:=ns.map D.int)
   (Y:=[!(.sh,bg ns),!(.sh,.int (m:Int)),!(.deep,.int 7),none,none,none,none])
   (λi Y=>∃v o,0<=v/\v<1000000000039/\Y=[!(.sh,bg ns),!(.sh,.int (m:Int)),!(.deep,.int v),o,none,none,none]) (by simp) ⟨7,none,by decide,by decide,rfl⟩ (by
    rintro i d Y hd ⟨v,o,h1,h2,rfl⟩;rw[getElem?_map]at hd;cases hq:ns[i]? with
    |none=>rw[hq]at hd;cases hd
    |some p=>
     rw[hq]at hd;cases hd;refine⟨_,seqF_nx (bj (evX_lf (d:=.int ((v*v+p*131+17)%1000000000039)) ?_ rfl)),⟨_,_,Int.emod_nonneg _ (!4),Int.emod_lt_of_pos _ (!4),rfl⟩⟩;simp[AV h1 h2,mx (show(-1000000:Int)<131 by decide) (show(131:Int)<1000000 by decide)];exact bC (!4))
  let⟨Y1,e1,v1,o1,g1,g2,rfl⟩:=L1;have L2:=gC (J:=jR (x1 (va 1))) (s:=5) (v:=λi=>(i:Int)) (n:=m) (F:=af (aD 2 (fH (bin2 aI (bin2 ay (bin2 ay (bin2 cF (va 2) (va 2)) (bin2 cF (cI 977) (va 5))) (cI 3)) (cI 1000000000039)))) (af (xX 4 2 (fH (va 2)) (va 2)) aF))
   (Y:=[!(.sh,bg ns),!(.sh,.int (m:Int)),!(.deep,.int v1),o1,!(.deep,.lst []),none,none])
   (λi Y=>∃v o,∃cs:T5,cs.length=i/\0<=v/\v<1000000000039/\Y=[!(.sh,bg ns),!(.sh,.int (m:Int)),!(.deep,.int v),o1,!(.deep,bg cs),o,none]) (iz (by simp;exact cJ (!3))) ⟨v1,none,[],rfl,g1,g2,rfl⟩ (by
    rintro i Y hi ⟨v,o,cs,hl,h1,h2,rfl⟩;have hi':(i:Int)<1000000:=by omega
    have hi0:(-1000000:Int)<i:=by omega
    refine⟨_,(seqF_nx (bj (evX_lf (d:=.int ((v*v+977*i+3)%1000000000039)) ?_ rfl))).trans (seqF_nx (pH (ds:=cs.map D.int) (ds0:=cs.map D.int) (c0:=.deep) (d:=.int ((v*v+977*i+3)%1000000000039)) rfl (evX_lf rfl rfl) rfl (by rw[length_map,hl];exact Nat.lt_trans (show i+1<1001 by omega) (!4)))),
     ⟨(v*v+977*i+3)%1000000000039,!(.sh,.int i),cs++[(v*v+977*i+3)%1000000000039],by simp[hl],Int.emod_nonneg _ (!4),Int.emod_lt_of_pos _ (!4),?_⟩⟩
    .simp[vw_o,AV h1 h2,mx hi0 hi'];exact bC (!4)
    .simp only[bg,List.map_append];rfl)
  let⟨Y2,e2,v2,o2,cs2,l2,_,_,rfl⟩:=L2;have L3:=gC (J:=jR (x1 (cX (va 0)))) (s:=5) (v:=λi=>(i:Int)) (n:=ns.length) (F:=af (aD 6 (fH (bin2 aI (va 5) (va 1)))) (af (cg 4 (va 6) (fH (bin2 aI (bin2 ay (bin2 cF (bin2 ixD (va 4) (va 6)) (cI 131)) (bin2 ixD (va 0) (va 5))) (cI 1000000000039)))) aF))
   (Y:=[!(.sh,bg ns),!(.sh,.int (m:Int)),!(.deep,.int v2),o1,!(.deep,bg cs2),o2,none])
   (λi Y=>∃o o6,∃cs:T5,cs.length=m/\Y=[!(.sh,bg ns),!(.sh,.int (m:Int)),!(.deep,.int v2),o1,!(.deep,bg cs),o,o6]) (iz (by simp;exact cJ (!3))) ⟨o2,none,cs2,l2,rfl⟩ (by
    rintro i Y hi ⟨o,o6,cs,hl,rfl⟩;have hm0:(0:Int)<m:=by omega
    have hk0:0<=(i:Int)%(m:Int):=Int.emod_nonneg _ (!3);have hk1:(i:Int)%(m:Int)<m:=Int.emod_lt_of_pos _ hm0;let⟨x,ex⟩:=pK (ns:=cs) hk0 (by rw[hl];exact hk1);let⟨y,ey⟩:=pK (ns:=ns) (i:=(i:Int)) (!3) (!3);refine⟨_,(seqF_nx (bj (evX_lf (d:=.int ((i:Int)%(m:Int))) (by simp;exact bC hm0) rfl))).trans (seqF_nx (iD (ds:=cs.map D.int) (k:=(i:Int)%(m:Int)) (d:=.int ((x*131+y)%1000000000039)) (evX_lf ?_ rfl) rfl rfl hk0 (by rw[length_map,hl];exact hk1))),
     ⟨!(.sh,.int i),!(.deep,.int ((i:Int)%(m:Int))),cs.set ((i:Int)%(m:Int)).toNat ((x*131+y)%1000000000039),by simp[hl],?_⟩⟩
    .simp[vw_o,ex,ey,mx (show(-1000000:Int)<131 by decide) (show(131:Int)<1000000 by decide)];exact bC (!4)
    .simp only[bg,List.map_set];rfl)
  let⟨Y3,e3,o3,o6,cs3,l3,rfl⟩:=L3;refine⟨cs3,l3,aq rfl ?_⟩;unfold gG;rw[hs];refine(seqF_nx ((aW hT).trans rfl)).trans ((seqF_nx (bj (evX_lf (d:=.int 7) rfl rfl))).trans ((seqF_nx e1).trans ((seqF_nx (bj (evX_lfs (d:=.lst []) (ds:=[]) (by simp) rfl (by simp) rfl))).trans ((seqF_nx e2).trans ((seqF_nx e3).trans (aw ?_))))));rfl
def NC(a b c:D):bw (![a,b,c])=![a,b,c]:=cR (show 3<big by decide)
def Rf(a b c d:D):bw (![a,b,c,d])=![a,b,c,d]:=cR (show 4<big by decide)
def JT(x:Int){m:Int}(h:0<m):0<=x%m/\x%m<m:=⟨Int.emod_nonneg _ (!3),Int.emod_lt_of_pos _ h⟩
def EJ(x:Int):∃b:Bool,ixD (.lst [.str "queue",.str "pile"]) (.int (x%2))=!(.str (kd b)):=by
 rcases(show x%2=0\/x%2=1 by omega)with h|h
 .exact⟨true,by rw[h];exact nw _ _⟩
 .exact⟨false,by rw[h];exact wm _ _ _⟩
def Gv(a b c:Int){i:Nat}(hi:i<3)(h:(0<a/\a<1073741824)/\(0<b/\b<1073741824)/\(0<c/\c<1073741824)):∃d:Int,0<d/\d<1073741824/\ixD (.lst [.int a,.int b,.int c]) (.int (i:Int))=!(.int d):=by
 let⟨⟨a1,a2⟩,⟨b1,b2⟩,⟨c1,c2⟩⟩:=h;rcases(show i=0\/i=1\/i=2 by omega)with rfl|rfl|rfl
 .exact⟨a,a1,a2,eS (!4) rfl⟩
 .exact⟨b,b1,b2,eS (!4) rfl⟩
 .exact⟨c,c1,c2,eS (!4) rfl⟩
structure Pas(p:List Pk):Prop where
 lo:1<=p.length
 hi:p.length<=3
 w:∀k∈p,1<=k.2/\k.2<=9
def  EK(f:Fn):Prop:=∀c:Int,∃p:List Pk,Pas p/\f [.int c]=!(.deep,bH p)
def ND:EK (aR 1 5 fg):=λc=>by
 have hs:ar 5 [.int c]=[!(.sh,.int c),none,none,none,none]:=rfl;let⟨m0,m1⟩:=JT c (show(0:Int)<3 by decide);have hn:(1+c%3)=(((1+c%3).toNat:Nat):Int):=by omega
 have hn3:(1+c%3).toNat<=3/\1<=(1+c%3).toNat:=by omega
 generalize (1+c%3).toNat=n at hn hn3;suffices h:∃p:List Pk,Pas p/\fg [!(.sh,.int c),none,none,none,none]=some (.rt (.deep,bH p))by
  let⟨p,h1,h2⟩:=h;exact⟨p,h1,aq rfl (by rw[hs];exact h2)⟩
 have e1:aY (bin2 ay (cI 1) (bin2 aI (va 0) (cI 3))) (catF (cI 1) (bin2 aI (va 0) (cI 3))) noV [!(.sh,.int c),none,none,none,none]=!((.deep,.int (n:Int)),[!(.sh,.int c),none,none,none,none]):=evX_lf (by
  simp only[vw_some,vw_none,vw_nil,bin2_a,cI_a,va_a,shAt_0,Option.bind_some,bC (show(0:Int)<3 by decide),addD_ii];rw[hn]) rfl
 have L:=gC (J:=(jR (x1 (va 1)))) (s:=3) (v:=λi=>(i:Int)) (n:=n)
  (F:=(af (aD 4 (fH (bin2 ixD (lsF (dpF (x2 (cS "queue") (cS "pile")))) (bin2 aI (bin2 bi (va 0) (bin2 ixD (lsF (dpF (x3 (cI 3) (cI 6) (cI 12)))) (va 3))) (cI 2))))) (af (m9 2 (aY (dU (x2 (va 4) (bin2 ay (cI 1) (bin2 aI (bin2 bi (va 0) (bin2 ixD (lsF (dpF (x3 (cI 24) (cI 216) (cI 1944)))) (va 3))) (cI 9))))) noV (yw (x2 (frX (va 4) noV noV) (frX (bin2 ay (cI 1) (bin2 aI (bin2 bi (va 0) (bin2 ixD (lsF (dpF (x3 (cI 24) (cI 216) (cI 1944)))) (va 3))) (cI 9))) (catF (cI 1) (bin2 aI (bin2 bi (va 0) (bin2 ixD (lsF (dpF (x3 (cI 24) (cI 216) (cI 1944)))) (va 3))) (cI 9))) noV))))) aF)))
  (Y:=[!(.sh,.int c),!(.deep,.int (n:Int)),!(.deep,.lst []),none,none])
  (λi Y=>∃o3 o4,∃p:List Pk,p.length=i/\(∀k∈p,1<=k.2/\k.2<=9)/\Y=[!(.sh,.int c),!(.deep,.int (n:Int)),!(.deep,.lst (p.map dY)),o3,o4]) (iz (by simp;exact cJ (!3))) ⟨none,none,[],rfl,λ_ h=>(nomatch h),rfl⟩ (by
   rintro i Y hi ⟨o3,o4,p,hl,hw,rfl⟩;let⟨d1,p1,p2,x1⟩:=Gv 3 6 12 (i:=i) (!3) (!4);let⟨d2,q1,q2,x2⟩:=Gv 24 216 1944 (i:=i) (!3) (!4);let⟨b,xb⟩:=EJ (c/d1);let⟨w0,w1⟩:=JT (c/d2) (show(0:Int)<9 by decide);refine⟨_,q_set (evX_lf (d:=.str (kd b)) ?_ rfl) (eF (li (ds:=p.map dY) (ds0:=p.map dY) (c0:=.deep) (d:=dY (b,1+c/d2%9)) rfl (evX_lf ?_ rfl) rfl (by rw[length_map,hl];exact Nat.lt_trans (show i+1<5 by omega) (!4))) rfl),⟨!(.sh,.int (i:Int)),!(.deep,.str (kd b)),p++[(b,1+c/d2%9)],by simp[hl],λk hk=>?_,?_⟩⟩
   .simp only[set_cons_succ,set_cons_zero,vw_o,map_some,bin2_a,lsF_a,dpF_a,consX_a,nilX_a,cS_a,cI_a,va_a,shAt_s,shAt_0,shAt_1,Option.bind_some,capL_2,NC,x1,dG p1 p2,bC (show(0:Int)<2 by decide),xb]
   .simp only[set_cons_succ,set_cons_zero,vw_o,map_some,jz,bin2_a,lsF_a,dpF_a,consX_a,nilX_a,cS_a,cI_a,va_a,shAt_s,shAt_0,shAt_1,Option.bind_some,capL_2,NC,x2,dG q1 q2,bC (show(0:Int)<9 by decide),addD_ii];rfl
   .rcases mem_append.mp hk with z|z
    .exact hw k z
    .rw[mem_singleton.mp z];exact⟨by show 1<=1+c/d2%9;omega,by show 1+c/d2%9<=9;omega⟩
   .simp only[List.map_append,set_cons_succ,set_cons_zero];rfl)
 let⟨Y',e,o3,o4,p,hl,hw,rfl⟩:=L;refine⟨p,⟨by omega,by omega,hw⟩,?_⟩;unfold fg;refine q_set e1 (q_set (evX_lfs (d:=.lst []) (ds:=[]) (by simp) rfl (by simp) rfl) (eF e (cZ (evX_lf (d:=bH p) ?_ (F7 p)))));simp only[vw_o,map_some,biF_a,consX_a,nilX_a,va_a,shAt_s,shAt_0,shAt_1,Option.bind_some,nu,seqD_l];rfl
def  JU(f:Fn):Prop:=∀(cs:T5)(t:Nat),t+5<cs.length->∃ps:TR,ps.length<=4/\(∀p∈ps,Pas p)/\f [bg cs,.int (t:Int)]=!(.deep,av ps)
def NE{po}(hp:EK po):JU (aR 2 3 (jC po)):=λcs t ht=>by
 have hs:ar 3 [bg cs,.int (t:Int)]=[!(.sh,bg cs),!(.sh,.int (t:Int)),none]:=rfl;let⟨x,ex⟩:=pK (ns:=cs) (i:=(t:Int)) (!3) (!3);let⟨m0,m1⟩:=JT x (show(0:Int)<5 by decide);let⟨ps,hl,hP,e⟩:=sL (ks:=[2]) (J:=(jR (x1 (bin2 aI (bin2 ixD (va 0) (va 1)) (cI 5))))) (g:=aM 2) (ft:=tQ) (fe:=(aL po (x1 (bin2 ixD (va 0) (bin2 ay (bin2 ay (va 1) (cI 1)) (va 2))))))
  (Y:=[!(bg cs),!(.int (t:Int)),none]) (xs:=List.range (x%5).toNat) (mk:=λ(i:Nat)=>D.int (i:Int)) (out:=bH) (P:=Pas) (iz (by
   simp only[consX_a,nilX_a,bin2_a,va_a,shAt_0,shAt_1,cI_a,Option.bind_some,ex,bC (show(0:Int)<5 by decide)];exact AJ m0 (!3))) (λk hk=>by
   have hk':=Uz.mp hk;let⟨y,ey⟩:=pK (ns:=cs) (i:=(t:Int)+1+(k:Int)) (!3) (!3);let⟨p,h1,h2⟩:=hp y;refine⟨p,h1,?_⟩;simp only[stepF_a,wipe_cons,wipe_nil,gNm_a,tQ_a,set_cons_succ,set_cons_zero,Option.bind_some,if_true,clF_a,consX_a,nilX_a,bin2_a,va_a,shAt_s,shAt_0,shAt_1,cI_a,addD_ii,ey,h2,valO_some]) (by rw[length_range];exact Nat.lt_trans (show(x%5).toNat<6 by omega) (!4))
 rw[length_range]at hl;refine⟨ps,by omega,hP,aq rfl ?_⟩;rw[hs];unfold jC;refine cZ (evX_lf (d:=av ps) ?_ (nI ps));simp only[vw_some,vw_none,vw_nil,biF_a,consX_a,nilX_a,lsF_a,e,map_some,Option.bind_some,nu,seqD_l];rfl
def sY:∀ps:TR,(∀p∈ps,Pas p)->prod ps<=3^ps.length
 |[],_=>by simp[prod]
 |p::ps,h=>by
  have a:=(h p Ul).hi;have b:=sY ps λq hq=>h q (Um _ hq);rw[show prod (p::ps)=p.length*prod ps from rfl,length_cons,Nat.pow_succ,Nat.mul_comm];exact Nat.mul_le_mul b a
def pT{ps:TR}(hl:ps.length<=4)(h:∀p∈ps,Pas p):Valid ps/\Wide ps:=by
 refine⟨⟨by omega,λp hp=>?_,?_⟩,λp hp k hk=>((h p hp).w k hk).1⟩
 .have q:=h p hp;unfold D3;rw[and_eq_true,and_eq_true,decide_eq_true_eq,decide_eq_true_eq,List.all_eq_true];refine⟨⟨q.lo,by have:=q.hi;omega⟩,λk hk=>?_⟩;have:=q.w k hk;unfold Jb;rw[and_eq_true,decide_eq_true_eq,decide_eq_true_eq];omega
 .refine Ur (sY ps h) (Ur (Nat.pow_le_pow_right (!4) hl) (!4))
end K42
namespace K42
open PySem PySem.Spec PyProof.Rows L2
noncomputable def  dk(k:Nat):Int:=[1,3,9,27].getD k 1
def NF{k:Nat}(h:k<4):ixD (.lst [.int 1,.int 3,.int 9,.int 27]) (.int (k:Int))=!(.int (dk k))/\0<dk k/\dk k<1073741824:=by
 rcases(show k=0\/k=1\/k=2\/k=3 by omega)with rfl|rfl|rfl|rfl
 .exact⟨eS (!4) rfl,by decide,by decide⟩
 .exact⟨eS (!4) rfl,by decide,by decide⟩
 .exact⟨eS (!4) rfl,by decide,by decide⟩
 .exact⟨eS (!4) rfl,by decide,by decide⟩
def  JV(ps:TR)(y:Int):T1:=(List.range ps.length).map λk=>((y/dk k)%((ps[k]?.getD []).length:Int)).toNat
def JW{ps:TR}(h:∀p∈ps,Pas p)(y:Int):WordOk ps 0 (JV ps y):=by
 refine⟨by simp[JV],λq hq=>?_⟩;let⟨k,hk⟩:=List.mem_iff_getElem?.mp hq;let⟨a,b⟩:=List.getElem?_zip_eq_some.mp hk;rw[List.drop_zero]at b;have hkl:k<ps.length:=(Uk.mp b).1;unfold JV at a;rw[getElem?_map,List.getElem?_range hkl,map_some,b]at a;have a:=Option.some.inj a;have hl:=(h q.2 (UA b)).lo;rw[<-a];show((y/dk k)%(q.2.length:Int)).toNat<q.2.length;let⟨m0,m1⟩:=JT (y/dk k) (show(0:Int)<(q.2.length:Int)by omega);omega
def JY(w:T1):gq (wD w)=true:=dc λd hd=>by
 let⟨k,_,rfl⟩:=Ut.mp hd;rfl
def  BD(f:Fn):Prop:=∀(cs:T5)(t n:Nat)(ps:TR),t+n<=cs.length->n<=24->ps.length<=4->(∀p∈ps,Pas p)->∃ls:List Lt,ls.length=n/\(∀l∈ls,One ps l)/\f [bg cs,.int (t:Int),av ps,.int (n:Int)]=!(.deep,plD true ls)
def JZ:BD (aR 4 8 iJ):=λcs t n ps ht hn h4 hp=>by
 have hs:ar 8 [bg cs,.int (t:Int),av ps,.int (n:Int)]=[!(.sh,bg cs),!(.sh,.int (t:Int)),!(.sh,av ps),!(.sh,.int (n:Int)),none,none,none,none]:=rfl;suffices h:∃ls:List Lt,ls.length=n/\(∀l∈ls,One ps l)/\iJ [!(.sh,bg cs),!(.sh,.int (t:Int)),!(.sh,av ps),!(.sh,.int (n:Int)),none,none,none,none]=some (.rt (.deep,plD true ls))by
  let⟨ls,h1,h2,h3⟩:=h;exact⟨ls,h1,h2,aq rfl (by rw[hs];exact h3)⟩
 have yp:seqD (av ps)=!(ps.map bH):=rfl;have L:=gC (J:=(jR (x1 (va 3)))) (s:=5) (v:=λi=>(i:Int)) (n:=n)
  (F:=(af (aD 6 (fH (bin2 ixD (va 0) (bin2 ay (va 1) (va 5))))) (af (m9 4 (aY (aT bO (x1 (lsF (ah [7] (jR (x1 (cX (va 2)))) (aM 7) tQ (bin2 aI (bin2 bi (va 6) (bin2 ixD (lsF (dpF (x4 (cI 1) (cI 3) (cI 9) (cI 27)))) (va 7))) (cX (bin2 ixD (va 2) (va 7)))))))) noV (pF (x1 (lsF (ah [7] (jR (x1 (cX (va 2)))) (aM 7) tQ (bin2 aI (bin2 bi (va 6) (bin2 ixD (lsF (dpF (x4 (cI 1) (cI 3) (cI 9) (cI 27)))) (va 7))) (cX (bin2 ixD (va 2) (va 7)))))))))) aF)))
  (Y:=[!(.sh,bg cs),!(.sh,.int (t:Int)),!(.sh,av ps),!(.sh,.int (n:Int)),!(.deep,.lst []),none,none,none])
  (λi Y=>∃o5 o6,∃ls:List Lt,ls.length=i/\(∀l∈ls,One ps l)/\Y=[!(.sh,bg cs),!(.sh,.int (t:Int)),!(.sh,av ps),!(.sh,.int (n:Int)),!(.deep,plD true ls),o5,o6,none]) (iz (by simp;exact cJ (!3))) ⟨none,none,[],rfl,λ_ h=>(nomatch h),rfl⟩ (by
   rintro i Y hi ⟨o5,o6,ls,hl,ho,rfl⟩;let⟨y,ey⟩:=pK (ns:=cs) (i:=(t:Int)+(i:Int)) (!3) (!3);have hm:∀o4:Ub,ah [7] (jR (x1 (cX (va 2)))) (aM 7) tQ (bin2 aI (bin2 bi (va 6) (bin2 ixD (lsF (dpF (x4 (cI 1) (cI 3) (cI 9) (cI 27)))) (va 7))) (cX (bin2 ixD (va 2) (va 7)))) [!(bg cs),!(.int (t:Int)),!(av ps),!(.int (n:Int)),o4,!(.int (i:Int)),!(.int y),none]=!((JV ps y).map λ(k:Nat)=>D.int (k:Int)):=λo4=>by
    unfold JV;rw[List.map_map];refine aB (xs:=List.range ps.length) (mk:=λ(i:Nat)=>D.int (i:Int)) (iz ?_) (λk hk=>?_) (by rw[length_range];exact Uq h4 (!4))
    .simp only[consX_a,nilX_a,biF_a,va_a,shAt_s,shAt_0,shAt_1,Option.bind_some,bG,yp,length_map];exact cJ (!3)
    .have hk':=Uz.mp hk;let⟨x1,x2,x3⟩:=NF (show k<4 by omega);have hpk:ps[k]?=some ps[k]:=getElem?_eq_getElem hk';have hlo:=(hp _ (List.getElem_mem hk')).lo;have x4:ixD (av ps) (.int (k:Int))=!(bH ps[k]):=atI_mapN hpk;have x5:seqD (bH ps[k])=!(ps[k].map dY):=rfl;have h0:(0:Int)<(ps[k].length:Int):=by omega
     let⟨m0,m1⟩:=JT (y/dk k) h0;simp only[stepF_a,wipe_cons,wipe_nil,gNm_a,tQ_a,set_cons_succ,set_cons_zero,Option.bind_some,if_true,bin2_a,biF_a,lsF_a,dpF_a,consX_a,nilX_a,cI_a,va_a,shAt_s,shAt_0,shAt_1,Rf,map_some,x1,dG x2 x3,x4,bG,x5,length_map,bC h0,Function.comp,hpk,Option.getD_some,Int.toNat_of_nonneg m0]
   refine⟨_,q_set (evX_lf (d:=.int y) ?_ rfl) (eF (li (ds:=ls.map λl=>wD l.w) (ds0:=ls.map λl=>wD l.w) (c0:=.deep) (d:=wD (JV ps y)) rfl (evX_lf ?_ (JY _)) rfl (by rw[length_map,hl];exact Nat.lt_trans (show i+1<26 by omega) (!4))) rfl),⟨!(.sh,.int (i:Int)),!(.deep,.int y),ls++[⟨1,0,JV ps y⟩],by simp[hl],λl hl=>?_,?_⟩⟩
   .simp only[set_cons_succ,set_cons_zero,vw_o,map_some,bin2_a,va_a,shAt_s,shAt_0,shAt_1,Option.bind_some,addD_ii,ey]
   .simp only[set_cons_succ,set_cons_zero,vw_o,vw_nil,map_some,Option.map_none,biF_a,consX_a,nilX_a,lsF_a,hm,Option.bind_some,nu,seqD_l];rfl
   .rcases mem_append.mp hl with z|z
    .exact ho l z
    .rw[mem_singleton.mp z];exact⟨rfl,rfl,JW hp y⟩
   .simp only[plD,sq,if_true,List.map_append,set_cons_succ,set_cons_zero];rfl)
 let⟨Y',e,o5,o6,ls,hl,ho,rfl⟩:=L;refine⟨ls,hl,ho,?_⟩;unfold iJ;exact q_set (evX_lfs (d:=.lst []) (ds:=[]) (by simp) rfl (by simp) rfl) (eF e (aw rfl))
end K42
namespace K42
open PySem PySem.Spec PyProof.Rows L2
def Rg{b:Bool}(h:c (vw Y)=!b)(k1:(if b then F Y else G' Y)=!(.nx Y'))(k:G Y'=out):af (cu c F G') G Y=out:=by
 cases b with
 |true=>exact(seqF_nx ((ifS_t h).trans k1)).trans k
 |false=>exact(seqF_nx ((aW h).trans k1)).trans k
end K42
namespace K42
open PySem PySem.Spec PyProof.Rows L2
def  lu(iS bo aC:Fn):TM:=(af (bz (aL aC (x2 (va 0) (va 1)))) (af (aD 2 (aY noV noV Tl)) (af (lh (jX (Ou (x1 (va 1))) (aT eR (x1 (va 1)))) (Cr 2 (eh (gz 3) (eh (gz 4) oF))) (af (Ai 2 (aL bo (x3 (va 0) (cI 0) (va 4))) (va 3)) aF)) (mh (aY (lsF (ah [5] (jX noV (sD (x1 (va 2)) (x8 (x1 (va 2))))) (aM 5) tQ (dU (x3 (va 5) (bin2 ixD (va 2) (va 5)) (aL iS (x3 (va 0) (cI 0) (bin2 ixD (va 1) (bin2 ixD (bin2 ixD (va 2) (va 5)) (cI 0))))))))) (ah [5] (jX noV (sD (x1 (va 2)) (x8 (x1 (va 2))))) (aM 5) tQ (dU (x3 (va 5) (bin2 ixD (va 2) (va 5)) (aL iS (x3 (va 0) (cI 0) (bin2 ixD (va 1) (bin2 ixD (bin2 ixD (va 2) (va 5)) (cI 0)))))))) (x9 [5] (jX noV (sD (x1 (va 2)) (x8 (x1 (va 2))))) (aM 5) tQ (frX (dU (x3 (va 5) (bin2 ixD (va 2) (va 5)) (aL iS (x3 (va 0) (cI 0) (bin2 ixD (va 1) (bin2 ixD (bin2 ixD (va 2) (va 5)) (cI 0))))))) noV (yw (x3 (frX (va 5) noV noV) (frX (bin2 ixD (va 2) (va 5)) noV noV) (frX (aL iS (x3 (va 0) (cI 0) (bin2 ixD (va 1) (bin2 ixD (bin2 ixD (va 2) (va 5)) (cI 0))))) noV (Ct iS (x3 (va 0) (cI 0) (bin2 ixD (va 1) (bin2 ixD (bin2 ixD (va 2) (va 5)) (cI 0)))))))))))))))
def u8:∀{ns:T5}{m:Nat}{c:Int},ns.Nodup->ns[m]?=!c->idxK (ns.map Sum.inl) (.inl c)=!m
 |[],m,c,_,h=>by cases h
 |n::ns,0,c,_,h=>by
  cases h;show(if Sum.inl n=Sum.inl n then some 0 else _)=_;rw[if_pos rfl]
 |n::ns,m+1,c,nd,h=>by
  let⟨n1,n2⟩:=List.nodup_cons.mp nd;have h':ns[m]?=!c:=by simpa using h
  show(if(Sum.inl n:gO)=Sum.inl c then some 0 else _)=_;rw[if_neg (λz=>by have e:n=c:=Sum.inl.inj z;rw[e]at n1;exact n1 (UA h')),u8 n2 h'];rfl
def J0{K:T5}{c:Int}(nd:K.Nodup)(h:c∈K):∃m,idxK (K.map Sum.inl) (.inl c)=!m/\K[m]?=!c:=by
 let⟨m,hm⟩:=List.mem_iff_getElem?.mp h;exact⟨m,u8 nd hm,hm⟩
def wH:∀{K:T5}{c:Int},c ∉ K->idxK (K.map Sum.inl) (.inl c)=none
 |[],c,_=>rfl
 |k::K,c,h=>by
  let⟨h1,h2⟩:=not_or.mp (λz=>h (mem_cons.mpr z));show(if(Sum.inl k:gO)=Sum.inl c then some 0 else _)=_;rw[if_neg (λz=>h1 (Sum.inl.inj z).symm),wH h2];rfl
def BE{G:Int->D}{c:Int}:∀{K:T5},c∈K->rS (K.map Sum.inl) (K.map G) (.inl c)=!(G c)
 |[],h=>by cases h
 |k::K,h=>by
  show(if(Sum.inl k:gO)=Sum.inl c then !(G k)else rS (K.map Sum.inl) (K.map G) (.inl c))=_;by_cases e:k=c
  .rw[e,if_pos rfl]
  .rw[if_neg (λz=>e (Sum.inl.inj z))];exact BE ((mem_cons.mp h).resolve_left (λz=>e z.symm))
def sZ:∀K:T5,uH (K.map Sum.inl)=!K
 |[]=>rfl
 |k::K=>by
  show(uH (K.map Sum.inl)).bind _=_;rw[sZ K];rfl
def  mem1(cl:T5)(i:Nat)(c:Int):T1:=(List.range i).filter λk=>decide (cl.getD k 0=c)
def  lv(cl:T5)(i:Nat):D:=.dct ((kys (cl.take i)).map Sum.inl) ((kys (cl.take i)).map λc=>au (mem1 cl i c))
def qS{cl:T5}{i:Nat}{c:Int}(hc:cl.getD i 0=c)(d:Int):mem1 cl (i+1) d=if d=c then mem1 cl i d++[i]else mem1 cl i d:=by
 unfold mem1;rw[List.range_succ,List.filter_append];by_cases e:d=c
 .rw[if_pos e,List.filter_cons,if_pos (by rw[hc,e];exact decide_eq_true rfl)];rfl
 .rw[if_neg e,List.filter_cons,if_neg (by rw[hc];simpa using λz=>e z.symm)];simp
def BF{cl:T5}{i:Nat}{c:Int}(h:cl[i]?=!c)(hi:i<=24):uI ((kys (cl.take i)).map Sum.inl) ((kys (cl.take i)).map λc=>au (mem1 cl i c)) (.inl c) (.int (i:Int))=!((kys (cl.take (i+1))).map Sum.inl,(kys (cl.take (i+1))).map λc=>au (mem1 cl (i+1) c)):=by
 have hc:cl.getD i 0=c:=by rw[List.getD_eq_getElem?_getD,h];rfl
 have ht:cl.take (i+1)=cl.take i++[c]:=by rw[List.take_add_one,h];rfl
 have nd:=yn (cl.take i);have ln:∀d,(mem1 cl i d).length<=i:=λd=>by
  refine Ur (List.length_filter_le _ _) ?_;rw[length_range];exact UB _
 rw[ht,kz];have emp:c ∉ kys (cl.take i)->mem1 cl i c=[]:=λhn=>by
  unfold mem1;rw[List.filter_eq_nil_iff];intro k hk z;have hk':=Uz.mp hk;have z:=Uo z;refine hn (kys_mem.mpr ?_);have hil:i<cl.length:=(Uk.mp h).1;rw[List.getD_eq_getElem?_getD,getElem?_eq_getElem (!3)]at z;have z:cl[k]=c:=z;rw[<-z];exact List.mem_take_iff_getElem.mpr ⟨k,by omega,rfl⟩
 generalize kys (cl.take i)=K at*;unfold uI;by_cases hk:c∈K
 .let⟨m,e1,e2⟩:=J0 nd hk;rw[e1,if_pos hk];have e3:(K.map λc=>au (mem1 cl i c))[m]?=!(au (mem1 cl i c)):=by rw[getElem?_map,e2];rfl
  show((K.map λc=>au (mem1 cl i c))[m]?).bind _=_;rw[e3,Option.bind_some];show(if((mem1 cl i c).map λ(k:Nat)=>D.int (k:Int)).length+1<big then !(K.map Sum.inl,(K.map λc=>au (mem1 cl i c)).set m (.lst ((mem1 cl i c).map (λ(k:Nat)=>D.int (k:Int))++[.int (i:Int)])))else none)=_;rw[if_pos (by rw[length_map];have:=ln c;exact Uq (show _<=25 by omega) (!4))];congr 2;apply List.ext_getElem?;intro j;by_cases hj:j=m
  .subst hj;have hl:j<(K.map λc=>au (mem1 cl i c)).length:=(Uk.mp e3).1;rw[List.getElem?_set_self hl,getElem?_map,e2];show _=!(au (mem1 cl (i+1) c));rw[qS hc,if_pos rfl];unfold au;rw[List.map_append];rfl
  .rw[List.getElem?_set_ne (Ne.symm hj),getElem?_map,getElem?_map];cases hx:K[j]? with
   |none=>rfl
   |some d=>
    have hd:d≠c:=λz=>hj (by
     have:=u8 nd hx;rw[z,e1]at this;exact(Option.some.inj this).symm)
    show some (au (mem1 cl i d))=!(au (mem1 cl (i+1) d));rw[qS hc,if_neg hd]
 .rw[wH hk,if_neg hk];show(if _=_ then _ else _)=_;rw[if_pos (by rw[length_map,length_map]),List.map_append,List.map_append];congr 2
  .refine congr (congrArg HAppend.hAppend (List.map_congr_left λd hd=>?_)) ?_
   .show au (mem1 cl i d)=au (mem1 cl (i+1) d);rw[qS hc,if_neg (λz:d=c=>hk (z▸hd))]
   .show[D.lst [.int (i:Int)]]=[au (mem1 cl (i+1) c)];rw[qS hc,if_pos rfl,emp hk];rfl
def  qT(ps:TR)(l:Lt):Int:=qG ps 0 l.w
def  cl(ps:TR)(ls:List Lt):T5:=ls.map (qT ps)
def  EL(ps:TR)(ls:List Lt)(c:Int):Int:=((ls.find? λl=>decide (qT ps l=c)).map λl=>iF ps 0 l.w).getD 0
structure Pln(ps:TR)(ls:List Lt):Prop where
 v:Valid ps
 w:Wide ps
 n:ls.length<=24
 o:∀l∈ls,One ps l
def Pln.ok{ps:TR}{ls:List Lt}(P:Pln ps ls):∀l∈ls,LtOk ps l:=λl hl=>(P.o l hl).ok P.w
def Pln.t{ps:TR}{ls:List Lt}(P:Pln ps ls):∀l∈ls,l.t=0:=λl hl=>(P.o l hl).t
def BG{ps:TR}{ls:List Lt}(P:Pln ps ls){k:Nat}{l:Lt}(h:ls[k]?=!l):cd ps ls ps.length k=qT ps l/\nS ps l ps.length=iF ps 0 l.w:=by
 have m:=UA h;have e:=Re P.v (P.ok l m);rw[P.t l m]at e;unfold cd qT;rw[h];exact e
def NG{ps:TR}{ls:List Lt}(P:Pln ps ls){k:Nat}{l:Lt}(h:ls[k]?=!l):EL ps ls (qT ps l)=iF ps 0 l.w:=by
 unfold EL;cases hf:ls.find? (λl'=>decide (qT ps l'=qT ps l))with
 |none=>
  have:=List.find?_eq_none.mp hf l (UA h);simp at this
 |some l'=>
  have e:qT ps l'=qT ps l:=by simpa using List.find?_some hf
  let⟨k',hk'⟩:=List.mem_iff_getElem?.mp (List.mem_of_find?_eq_some hf);have a:=BG P h;have b:=BG P hk';have:=pR P.v P.ok P.t hk' h ps.length (UB _) (by rw[a.1,b.1,e]);show iF ps 0 l'.w=_;rw[<-a.2,<-b.2,this]
def  ON(ps:TR)(ls:List Lt)(c:Int):D:=.tup [.int c,au (mem1 (cl ps ls) ls.length c),.int (EL ps ls c)]
def  srtK(ps:TR)(ls:List Lt):T5:=fP (kys (cl ps ls))
def  clsD(ps:TR)(ls:List Lt):D:=.lst ((srtK ps ls).map (ON ps ls))
def u9(ps:TR)(ls:List Lt):(cl ps ls).length=ls.length:=length_map _
def Gw{ps:TR}{ls:List Lt}(P:Pln ps ls):(kys (cl ps ls)).length<=24:=by
 have:=wG (cl ps ls);have:=P.n;rw[u9]at*;omega
def srt_mem{l:T5}{c:Int}:c∈fP l↔c∈l:=(List.mergeSort_perm _ _:(fP l).Perm l).mem_iff
def EM{ps:TR}{ls:List Lt}{c:Int}(h:c∈kys (cl ps ls)):∃k r l,mem1 (cl ps ls) ls.length c=k::r/\ls[k]?=!l/\qT ps l=c:=by
 let⟨m,hm⟩:=List.mem_iff_getElem?.mp (kys_mem.mp h);have hml:m<ls.length:=by rw[<-u9 ps ls];exact(Uk.mp hm).1
 have mm:m∈mem1 (cl ps ls) ls.length c:=List.mem_filter.mpr ⟨Uz.mpr hml,by rw[List.getD_eq_getElem?_getD,hm];exact decide_eq_true rfl⟩;cases hr:mem1 (cl ps ls) ls.length c with
 |nil=>rw[hr]at mm;cases mm
 |cons k r=>
  have hk:k∈mem1 (cl ps ls) ls.length c:=by rw[hr];exact Ul ..
  let⟨h1,h2⟩:=List.mem_filter.mp hk;have h1:=Uz.mp h1;have h2:=Uo h2;refine⟨k,r,ls[k],rfl,getElem?_eq_getElem h1,?_⟩;rw[List.getD_eq_getElem?_getD]at h2;unfold cl at h2;rw[getElem?_map,getElem?_eq_getElem h1]at h2;exact h2
def EN{xs:TK}{Y:Vv}{K:T5}{ds:T9}(h:xs Y=![.dct (K.map Sum.inl) ds])(hl:K.length<64):jX noV (sD xs (x8 xs)) Y=!((fP K).map D.int):=by
 have e:x8 xs Y=!((fP K).map D.int):=by
  unfold x8 aS;dsimp only;rw[h];show vU [.dct (K.map Sum.inl) ds]=_;show(uH (K.map Sum.inl)).bind _=_;rw[sZ,Option.bind_some,if_pos hl]
 show(sD xs (x8 xs) Y).bind seqD=_;rw[nW e];rfl
def NH{ls:List Lt}{k:Nat}{l:Lt}(h:ls[k]?=!l):ixD (plD true ls) (.int (k:Int))=!(wD l.w):=atI_mapN (mk:=λl:Lt=>wD l.w) h
end K42
namespace K42
open PySem PySem.Spec PyProof.Rows L2
def  EO(f:TJ):Prop:=∀(ps:TR)(ls:List Lt),Pln ps ls->∃c,f [ae ps,plD true ls]=!(c,clsD ps ls)
def EQ{R L Sp}{Y:Ev}{ds:T9}(h:R (vw Y)=!(.lst ds))(hL:L (vw Y)=!ds)(hS:ib ds=false->Sp (vw Y)=none)(hl2:L (eg Y)=none)(h2:R (eg Y)=none):∃z:Cat×Ev,aY R L Sp Y=!((z.1,.lst ds),z.2):=by
 cases f:ib ds with
 |true=>exact⟨(.deep,Y),evX_lfs h rfl hL f⟩
 |false=>
  refine⟨(.sh,eN Y),?_⟩;unfold aY aS c8 km ql xy frX aS kj ic;simp[h,hL,f,hS f,hl2,h2]
def vb{R L Sp}{Y:Vv}{d:D}(h:R Y=!d)(f:gq d=false)(hL:L Y=none)(hS:Sp Y=none):frX R L Sp Y=none:=by
 unfold frX aS kj ic;simp[h,f,hL,hS]
def J2{J:TK}{E:TL}{X:TK}{Y:Ev}{cs:T5}{f:Int->D}{g:Int->T9}(hJ:J (vw Y)=!(cs.map D.int))(hl:cs.length<big)(hN:J (eg Y)=none)
  (hE:∀c∈cs,E ((wipe [5] (vw Y)).set 5 (!(.int c)))=!(f c)/\gq (f c)=false/\bin2 ixD (va 2) (va 5) ((wipe [5] (vw Y)).set 5 (!(.int c)))=!(.lst (g c))):
  ∃z:Cat×Ev,aY (lsF (ah [5] J (aM 5) tQ E)) (ah [5] J (aM 5) tQ E) (x9 [5] J (aM 5) tQ (frX E noV (yw (aa (frX (va 5) noV noV) (aa (frX (bin2 ixD (va 2) (va 5)) noV noV) X))))) Y=!((z.1,.lst (cs.map f)),z.2):=by
 have hm:ah [5] J (aM 5) tQ E (vw Y)=!(cs.map f):=aB hJ (λc hc=>by simp only[stepF_a,gNm_a,tQ_a,Option.bind_some,if_true,(hE c hc).1]) hl
 have hn:∀F,ah [5] J (aM 5) tQ F (eg Y)=none:=λF=>by unfold ah;rw[hN];rfl
 refine EQ (by rw[lsF_a,hm];rfl) hm (λhne=>?_) (hn _) (by rw[lsF_a,hn];rfl)
 unfold x9 ah
 rw[hJ]
 cases cs with
 |nil=>cases hne
 |cons c cs=>
  let⟨e1,e2,e3⟩:=hE c Ul;have e4:frX (bin2 ixD (va 2) (va 5)) noV noV ((wipe [5] (vw Y)).set 5 (!(.int c)))=none:=vb e3 rfl rfl rfl;have e5:aa (frX (bin2 ixD (va 2) (va 5)) noV noV) X ((wipe [5] (vw Y)).set 5 (!(.int c)))=none:=by rw[consX_a,e4];rfl
  have e6:yw (aa (frX (va 5) noV noV) (aa (frX (bin2 ixD (va 2) (va 5)) noV noV) X)) ((wipe [5] (vw Y)).set 5 (!(.int c)))=none:=by
   unfold yw;rw[consX_a,e5];cases frX (va 5) noV noV ((wipe [5] (vw Y)).set 5 (!(.int c)))<;>rfl
  have e7:=vb e1 e2 (show noV _=none from rfl) e6;have e8:jw (aM 5) tQ (frX E noV (yw (aa (frX (va 5) noV noV) (aa (frX (bin2 ixD (va 2) (va 5)) noV noV) X)))) (wipe [5] (vw Y)) (.int c)=none:=by
   simp only[stepF_a,gNm_a,tQ_a,Option.bind_some,if_true,e7,Option.bind_none]
  rw[Option.bind_some,List.map_cons];show((bw ((jw (aM 5) tQ _ (wipe [5] (vw Y)) (.int c)).bind _)).bind _)=none;rw[e8];rfl
def NI{fa wc lw}(hf:AX fa)(hc:ww wc)(hl:u7 lw):EO (aR 2 6 (lu fa wc lw)):=λps ls P=>by
 have e1:=hl true ps ls P.v P.w P.n P.o;have n24:=P.n;suffices h:∃c,lu fa wc lw [!(.sh,ae ps),!(.sh,plD true ls),none,none,none,none]=!(.rt (c,clsD ps ls))/\True by
  let⟨c,h,_⟩:=h;exact⟨c,aq rfl h⟩
 unfold lu;refine nZ (d:=.non) ?_ ?_
 .simp only[vw_some,vw_none,vw_nil,clF_a,consX_a,nilX_a,va_a,shAt_0,shAt_s,Option.bind_some,e1,valO_some]
 refine sX (s:=(.deep,lv (cl ps ls) 0)) (Y':=[!(.sh,ae ps),!(.sh,plD true ls),none,none,none,none]) rfl ?_;refine Gu (xs:=ls.zipIdx) (mk:=λp=>.tup [.int (p.2:Nat),wD p.1.w]) (λi Y=>∃o3 o4,Y=[!(.sh,ae ps),!(.sh,plD true ls),!(.deep,lv (cl ps ls) i),o3,o4,none]) ?_ ⟨none,none,rfl⟩ ?_ ?_
 .refine Gp ?_;show(seqD (plD true ls)).bind (λxs=>!(lP xs))=_;rw[show seqD (plD true ls)=some (ls.map λl=>wD l.w)from rfl,Option.bind_some,pN]
 .rintro i ⟨l,n⟩ Y hx ⟨o3,o4,rfl⟩;rw[List.getElem?_zipIdx]at hx;let⟨l',hl',e⟩:=Option.map_eq_some_iff.mp hx;rw[Nat.zero_add]at e;cases e;have hi:i<ls.length:=(Uk.mp hl').1;have ml:=UA hl';have ec:=hc ps 0 l.w P.v (Nat.zero_le _) (P.o l ml).w;have hci:(cl ps ls)[i]?=!(qT ps l):=by unfold cl;rw[getElem?_map,hl'];rfl
  show∃Y',af (Ai 2 _ _) aF [!(.sh,ae ps),!(.sh,plD true ls),!(.deep,lv (cl ps ls) i),!(.sh,.int (i:Int)),!(.sh,wD l.w),none]=!(.nx Y')/\_;refine NA (Y':=[!(.sh,ae ps),!(.sh,plD true ls),!(.deep,lv (cl ps ls) (i+1)),!(.sh,.int (i:Int)),!(.sh,wD l.w),none]) ?_ ⟨_,_,rfl⟩;have kl:(kys ((cl ps ls).take i)).length<=24:=by
   have:=wG ((cl ps ls).take i);rw[List.length_take]at this;omega
  have ew:aL wc (aa (va 0) (aa (cI 0) (aa (va 4) ag))) (vw [!(.sh,ae ps),!(.sh,plD true ls),!(.deep,lv (cl ps ls) i),!(.sh,.int (i:Int)),!(.sh,wD l.w),none])=!(.int (qT ps l)):=by
   simp only[vw_some,vw_none,vw_nil,clF_a,consX_a,nilX_a,va_a,cI_a,shAt_0,shAt_s,Option.bind_some,show wc [ae ps,.int 0,wD l.w]=_ from ec,valO_some];rfl
  unfold Ai;show(((aL wc _ (vw [!(.sh,ae ps),!(.sh,plD true ls),!(.deep,lv (cl ps ls) i),!(.sh,.int (i:Int)),!(.sh,wD l.w),none])).bind λy=>_):Option Out)=_;rw[ew,Option.bind_some];show((uI ((kys ((cl ps ls).take i)).map Sum.inl) ((kys ((cl ps ls).take i)).map λc=>au (mem1 (cl ps ls) i c)) (.inl (qT ps l)) (.int (i:Int))).bind λz=>if((kys ((cl ps ls).take i)).map Sum.inl).length+1<big then _ else none)=_;rw[BF hci (!3),Option.bind_some,if_pos (by rw[length_map];exact Uq (show _<=25 by omega) (!4))];rfl
 .rintro Y ⟨o3,o4,rfl⟩;rw[List.length_zipIdx];have kl:=Gw P;have hk:(cl ps ls).take ls.length=cl ps ls:=List.take_of_length_le (by rw[u9];exact UB _);have hJ:jX noV (sD (aa (va 2) ag) (x8 (aa (va 2) ag))) [!(ae ps),!(plD true ls),!(lv (cl ps ls) ls.length),o3.map (·.2),o4.map (·.2),none]=!((srtK ps ls).map D.int):=by
   refine EN (K:=kys (cl ps ls)) (ds:=(kys (cl ps ls)).map λc=>au (mem1 (cl ps ls) ls.length c)) ?_ (!3);show some [lv (cl ps ls) ls.length]=_;unfold lv;rw[hk]
  have sl:(srtK ps ls).length<=24:=by rw[show(srtK ps ls).length=(kys (cl ps ls)).length from(List.mergeSort_perm _ _:(fP (kys (cl ps ls))).Perm _).length_eq];exact kl
  have i1:∀c∈srtK ps ls,ixD (lv (cl ps ls) ls.length) (.int c)=!(au (mem1 (cl ps ls) ls.length c)):=λc hc=>by
   unfold lv;rw[hk];exact BE (G:=λc=>au (mem1 (cl ps ls) ls.length c)) (srt_mem.mp hc)
  let⟨z,e⟩:=J2 (Y:=[!(.sh,ae ps),!(.sh,plD true ls),!(.deep,lv (cl ps ls) ls.length),o3,o4,none]) (f:=ON ps ls) (g:=λc=>(mem1 (cl ps ls) ls.length c).map λ(k:Nat)=>D.int (k:Int)) hJ (Uq sl (!4)) rfl (λc hcs=>by
   let⟨k,r,l,m1,m2,m3⟩:=EM (srt_mem.mp hcs);have ef:=hf ps 0 l.w P.v (Nat.zero_le _) (P.o l (UA m2)).w;have i2:ixD (au (mem1 (cl ps ls) ls.length c)) (.int 0)=!(.int (k:Int)):=by
    rw[m1];exact nw _ _
   have cp:∀a b c:D,bw (![a,b,c])=![a,b,c]:=λ_ _ _=>cR (show 3<big by decide);refine⟨?_,rfl,i1 c hcs⟩;show dU (aa (va 5) (aa (bin2 ixD (va 2) (va 5)) (aa (aL fa (aa (va 0) (aa (cI 0) (aa (bin2 ixD (va 1) (bin2 ixD (bin2 ixD (va 2) (va 5)) (cI 0))) ag)))) ag))) [!(ae ps),!(plD true ls),!(lv (cl ps ls) ls.length),o3.map (·.2),o4.map (·.2),!(.int c)]=_;simp only[jz,clF_a,consX_a,nilX_a,bin2_a,va_a,cI_a,shAt_0,shAt_1,shAt_s,Option.bind_some,i1 c hcs,i2,NH m2,show fa [ae ps,.int 0,wD l.w]=_ from ef,valO_some,cp];unfold ON;rw[<-m3,NG P m2])
  exact⟨z.1,cZ e,trivial⟩
def wJ{g}(hg:sJ g){ps:TR}(hv:Valid ps):g [av ps]=![(("passes":Str),av ps)]:=by
 have i1:(ps.map λp=>(false,p)).map (·.2)=ps:=by rw[List.map_map];exact List.map_id ps
 have i2:(ps.map λp=>(false,p)).map ox=ps.map bH:=by rw[List.map_map];rfl
 have q:=hg false (ps.map λp=>(false,p)) (by rw[i1];exact hv);rw[i1,i2]at q;exact q
end K42
namespace K42
open PySem PySem.Spec PyProof.Rows L2
def  gh:TM:=(af (cu (ao (bin2 (aE true) (cX (va 0)) (cX (va 1)))) (af noO' aF) aF) aF)
def  lx(cj cx aC:Fn):TM:=(af (bz (aL aC (x2 (va 0) (va 1)))) (af (bz (aL aC (x2 (va 2) (va 3)))) (af (bz (aL cx (x2 (va 1) (va 3)))) (af (aD 4 (aY (sD (x1 (aT eR (x1 (cX (va 1))))) (aS (Cs (x1 (cX (va 1)))) (xZ (x1 (aT eR (x1 (cX (va 1)))))))) (aS (Cs (x1 (cX (va 1)))) (xZ (x1 (aT eR (x1 (cX (va 1))))))) (pF (x1 (aT eR (x1 (cX (va 1)))))))) (af (lh (jX noV (dU (x2 (va 4) (sD (x1 (aT eR (x1 (va 4)))) (aS (FY (x1 (va 4))) (xZ (x1 (aT eR (x1 (va 4)))))))))) (gz 5) (af (cu (ao (bin2 (aE true) (aL cj (x3 (va 0) (va 1) (va 5))) (aL cj (x3 (va 2) (va 3) (va 5))))) (af (yy 5) aF) aF) aF)) (mh (fH cN)))))))
def td:∀a b:T1,tL (a.map λ(k:Nat)=>D.int (k:Int)) (b.map λ(k:Nat)=>D.int (k:Int))=decide (a=b)
 |[],[]=>rfl
 |[],_::_=>rfl
 |_::_,[]=>rfl
 |x::a,y::b=>by
  show(((x:Int)==(y:Int))&&tL (a.map λ(k:Nat)=>D.int (k:Int)) (b.map λ(k:Nat)=>D.int (k:Int)))=_;rw[td a b];by_cases h:x=y
  .subst h;simp
  .have:¬ ((x:Int)=(y:Int)):=by omega
   simp[h,this]
def ER(neg:Bool)(a b:T1):aE neg (au a) (au b)=!(.bl (if neg then not (decide (a=b))else decide (a=b))):=by
 unfold aE jx;have h1:ph (au a)=true:=(jW a).1;have h2:ph (au b)=true:=(jW b).1;have h3:vH (au a)<=50:=by show eC _+1<=50;rw[(jW a).2];decide
 rw[if_neg (by show¬ ((false&&bK (au b)&&_)=true);simp),h1,h2,decide_eq_true h3,if_pos (by rfl)];rw[show qf (au a) (au b)=decide (a=b)from td a b];rfl
def  J3(f:Fn):Prop:=∀(u v:Bool)(l1 l2:List Lt),l1.length=l2.length->f [plD u l1,plD v l2]=!(.deep,.non)
def NJ:J3 (aR 2 2 gh):=λu v l1 l2 h=>by
 have hs:ar 2 [plD u l1,plD v l2]=[!(.sh,plD u l1),!(.sh,plD v l2)]:=rfl;have y1:seqD (plD u l1)=!(l1.map λl=>wD l.w):=eE _ _;have y2:seqD (plD v l2)=!(l2.map λl=>wD l.w):=eE _ _;refine eW (Y:=[!(.sh,plD u l1),!(.sh,plD v l2)]) rfl ?_;rw[hs];unfold gh;refine q_if0 ?_ rfl;simp only[vw_some,vw_nil,testB_a,bin2_a,biF_a,consX_a,nilX_a,va_a,shAt_0,shAt_1,Option.bind_some,bG,y1,y2,length_map,h,iB,asB_bl];simp
structure Two(p1 p2:TR)(l1 l2:List Lt):Prop where
 v1:Valid p1
 v2:Valid p2
 w1:Wide p1
 w2:Wide p2
 n1:l1.length<=24
 n:l2.length=l1.length
 o1:∀l∈l1,One p1 l
 o2:∀l∈l2,One p2 l
def  wK(ps:TR)(ls:List Lt)(c:T1):T1:=cC ps ls c ps.length
def  BH(p1 p2:TR)(l1 l2:List Lt):Option (T1):=if wK p1 l1 (List.range l1.length)=wK p2 l2 (List.range l1.length)then(if wK p1 l1 (List.range l1.length).reverse=wK p2 l2 (List.range l1.length).reverse then none else some (List.range l1.length).reverse)else !(List.range l1.length)
def  Gx:Option (T1)->D
 |none=>.non
 |some r=>au r
def eq_bb(neg a b:Bool):aE neg (.bl a) (.bl b)=!(.bl (if neg then not (decide (a=b))else decide (a=b))):=by cases neg<;>cases a<;>cases b<;>rfl
def BI{step}(h:step d Y=!(.nx Y'))(k:jg step ds Y'=out):jg step (d::ds) Y=out:=by unfold jg;rw[h];exact k
def Gy{step}(h:step d Y=!(.rt s)):jg step (d::ds) Y=!(.rt s):=by unfold jg;rw[h];rfl
def BJ{J:TK}{tg:D->Ev->Option Ev}{F:TM}{Y:Ev}{ds:T9}(hN:J (eg Y)=none)(hJ:J (vw Y)=!ds):lh J tg F Y=jg (ig tg F) ds (eN Y):=by
 have h1:xA J tg F Y=none:=by unfold xA;rw[hN];rfl
 have h2:zL J tg F Y=jg (ig tg F) ds (eN Y):=by unfold zL;rw[hJ];rfl
 unfold lh aS;rw[h1,h2]
def  vc(f:Fn):Prop:=∀(u v:Bool)(p1 p2:TR)(l1 l2:List Lt),Two p1 p2 l1 l2->∃c,f [ae p1,plD u l1,ae p2,plD v l2]=!(c,Gx (BH p1 p2 l1 l2))
def ES{en lc lw}(hen:wF en)(hlc:J3 lc)(hlw:u7 lw):vc (aR 4 6 (lx en lc lw)):=λu v p1 p2 l1 l2 t=>by
 have n2:l2.length<=24:=by rw[t.n];exact t.n1
 have a1:=hlw u p1 l1 t.v1 t.w1 t.n1 t.o1;have a2:=hlw v p2 l2 t.v2 t.w2 n2 t.o2;have a3:=hlc u v l1 l2 t.n.symm;have y1:seqD (plD u l1)=!(l1.map λl=>wD l.w):=eE _ _;have lr:∀Y:Vv,cy Y 1=!(plD u l1)->aS (Cs (x1 (cX (va 1)))) (xZ (x1 (aT eR (x1 (cX (va 1)))))) Y=!((List.range l1.length).map λ(k:Nat)=>D.int (k:Int)):=λY h=>Nv t.n1 (by simp only[consX_a,nilX_a,biF_a,va_a,h,Option.bind_some,bG,y1,length_map]);have st:∀(c R:T1)(o:Option Sl),c.Perm (List.range l1.length)->ig (gz 5) (af (cu (ao (bin2 (aE true) (aL en (x3 (va 0) (va 1) (va 5))) (aL en (x3 (va 2) (va 3) (va 5))))) (af (yy 5) aF) aF) aF) (au c) [!(.sh,ae p1),!(.sh,plD u l1),!(.sh,ae p2),!(.sh,plD v l2),!(.sh,au R),o]=!(if wK p1 l1 c=wK p2 l2 c then .nx [!(.sh,ae p1),!(.sh,plD u l1),!(.sh,ae p2),!(.sh,plD v l2),!(.sh,au R),!(.sh,au c)]else .rt (.sh,au c)):=λc R o pm=>by
  have b1:=hen u p1 l1 c t.v1 t.w1 t.n1 t.o1 pm;have b2:=hen v p2 l2 c t.v2 t.w2 n2 t.o2 (by rw[t.n];exact pm);have e:ao (bin2 (aE true) (aL en (x3 (va 0) (va 1) (va 5))) (aL en (x3 (va 2) (va 3) (va 5)))) (vw [!(.sh,ae p1),!(.sh,plD u l1),!(.sh,ae p2),!(.sh,plD v l2),!(.sh,au R),!(.sh,au c)])=!(not (decide (wK p1 l1 c=wK p2 l2 c))):=by
   simp only[vw_some,vw_nil,testB_a,bin2_a,clF_a,consX_a,nilX_a,va_a,shAt_s,shAt_0,shAt_1,Option.bind_some,b1,b2,valO_some,ER,asB_bl];rfl
  show af (cu _ _ _) aF [!(.sh,ae p1),!(.sh,plD u l1),!(.sh,ae p2),!(.sh,plD v l2),!(.sh,au R),!(.sh,au c)]=_;by_cases h:wK p1 l1 c=wK p2 l2 c
  .rw[decide_eq_true h]at e;rw[if_pos h];exact q_if0 e rfl
  .rw[decide_eq_false h]at e;rw[if_neg h];exact aw ((ifS_t e).trans rfl)
 generalize hR:List.range l1.length=R at*;have pmR:R.Perm R:=.refl _;have pmV:R.reverse.Perm R:=List.reverse_perm R;suffices h:∃c,lx en lc lw [!(.sh,ae p1),!(.sh,plD u l1),!(.sh,ae p2),!(.sh,plD v l2),none,none]=!(.rt (c,Gx (BH p1 p2 l1 l2)))/\True by
  let⟨c,h,_⟩:=h;exact⟨c,aq rfl h⟩
 unfold lx;refine nZ (d:=.non) ?_ (nZ (d:=.non) ?_ (nZ (d:=.non) ?_ (sX (evX_lfs (d:=au R) (ds:=R.map λ(k:Nat)=>D.int (k:Int)) (nW (lr _ rfl)) rfl (lr _ rfl) (uZ R)) ?_)))
 .simp only[vw_some,vw_none,vw_nil,clF_a,consX_a,nilX_a,va_a,shAt_0,shAt_1,Option.bind_some,a1,valO_some]
 .simp only[vw_some,vw_none,vw_nil,clF_a,consX_a,nilX_a,va_a,shAt_s,shAt_0,shAt_1,Option.bind_some,a2,valO_some]
 .simp only[vw_some,vw_none,vw_nil,clF_a,consX_a,nilX_a,va_a,shAt_s,shAt_0,shAt_1,Option.bind_some,a3,valO_some]
 have rv:aS (FY (x1 (va 4))) (xZ (x1 (aT eR (x1 (va 4))))) [!(ae p1),!(plD u l1),!(ae p2),!(plD v l2),!(au R),none]=!(R.reverse.map λ(k:Nat)=>D.int (k:Int)):=by
  unfold aS;rw[show FY (x1 (va 4)) [!(ae p1),!(plD u l1),!(ae p2),!(plD v l2),!(au R),none]=some (R.reverse.map λ(k:Nat)=>D.int (k:Int))by rw[<-sV];rfl]
 have hJ:jX noV (dU (x2 (va 4) (sD (x1 (aT eR (x1 (va 4)))) (aS (FY (x1 (va 4))) (xZ (x1 (aT eR (x1 (va 4))))))))) [!(ae p1),!(plD u l1),!(ae p2),!(plD v l2),!(au R),none]=![au R,au R.reverse]:=by
  simp only[b9,jz,consX_a,nilX_a,va_a,shAt_s,shAt_0,Option.bind_some,nW rv,capL_2];rfl
 have s1:=st R R none pmR;have s2:=st R.reverse R (!(.sh,au R)) pmV;unfold BH;rw[hR];by_cases h1:wK p1 l1 R=wK p2 l2 R
 .rw[if_pos h1]at s1⊢;by_cases h2:wK p1 l1 R.reverse=wK p2 l2 R.reverse
  .rw[if_pos h2]at s2⊢;exact⟨.deep,(seqF_nx (Y':=[!(.sh,ae p1),!(.sh,plD u l1),!(.sh,ae p2),!(.sh,plD v l2),!(.sh,au R),!(.sh,au R.reverse)]) ((BJ rfl hJ).trans (BI s1 (BI s2 rfl)))).trans (cZ (evX_lf rfl rfl)),trivial⟩
  .rw[if_neg h2]at s2⊢;exact⟨.sh,aw ((BJ rfl hJ).trans (BI s1 (Gy s2))),trivial⟩
 .rw[if_neg h1]at s1⊢;exact⟨.sh,aw ((BJ rfl hJ).trans (Gy s1)),trivial⟩
end K42
namespace K42
open PySem PySem.Spec PyProof.Rows L2
def  iK(fl:Str->Str->Bool)(j2:Fn)(mt_codes:MT)(kk:Nat)(aJ bJ:Fn):TM:=(af (bz (aL bJ (x2 (va 0) (va 1)))) (af (cu (b7 (dJ (aL aJ (x3 (va 2) (cI 0) (bin2 bt (KZ (va 0) ag mt_codes kk "codes") (cI 1)))))) (af noO' aF) aF) (af (aD 3 NB) (af (aD 4 (fH (KZ (va 0) ag mt_codes kk "codes"))) (af (aD 5 (fH (va 2))) (af (lh (jX (Qx (x1 (!6))) (aT eR (x1 (!6)))) (gz 6) (af (aD 4 (fH (bin2 bi (va 4) (cX (va 6))))) (af (aD 7 (fH (bin2 bi (va 5) (va 4)))) (af (aD 5 (yk j2 (x3 (bin2 ixD (bin2 ixD (va 6) (va 7)) (cI 0)) (va 4) (bin2 bt (va 5) (bin2 cF (va 7) (va 4)))))) (af (xX 3 7 (fH (va 7)) (va 7)) aF))))) (af (cu (ao (bin2 (aE true) (va 5) (bin2 bt (va 4) (cI 1)))) (mh (fH cN)) aF) (mh (aY (Tk (x1 (va 3))) noV (pF (x1 (aT eR (x1 (va 3))))))))))))))
def  gH(fl:Str->Str->Bool)(bA:Fn):TM:=(mh (yk bA (x1 (i9 fl "passes" (va 0)))))
def  R4(mt:MT)(k:Nat):Prop:=∀ps:TR,Valid ps->pA mt k "codes" (ae ps) []=!(.deep,.int (prod ps:Nat))
def Rh(hfl:fl "Mill" "passes"=true)(hc:lm co)(hv:Valid ps):aR 1 1 (gH fl co) [ae ps]=!(.deep,.int (prod ps:Nat)):=by
 have fm:ji fl "passes" (ae ps)=!(av ps):=by simp[ji,ae,hfl]
 have hp:co [av ps]=!(.deep,.int (prod ps:Nat)):=pL hc ps λp hp=>by have:=(hv.p hp).2.1;omega
 refine aq rfl ?_;show gH fl co [!(.sh,ae ps)]=_;refine cZ (evX_lf ?_ rfl);simp_all
def NK(h:(xs Y).bind Mn=!ds):jX (Qx xs) R Y=!ds:=by
 unfold jX aS Qx;simp[h]
def ET{ps:TR}(hv:Valid ps)(k:Nat):1<=prod (ps.take k)/\prod (ps.take k)<=1000:=by
 have ge:∀{ps:TR},(∀p∈ps,1<=p.length)->1<=prod ps:=λ{ps}=>by
  induction ps with
  |nil=>exactλ_=>UB 1
  |cons p r ih=>exactλh=>Nat.mul_le_mul (h p Ul) (ih λq hq=>h q (Um _ hq))
 have h1:1<=prod (ps.take k):=ge λp hp=>(hv.p (List.mem_of_mem_take hp)).1;have h2:1<=prod (ps.drop k):=ge λp hp=>(hv.p (List.mem_of_mem_drop hp)).1;have h3:prod ps=prod (ps.take k)*prod (ps.drop k):=by rw[<-iE,List.take_append_drop]
 have h4:=hv.codes;have h5:prod (ps.take k)*1<=prod (ps.take k)*prod (ps.drop k):=Nat.mul_le_mul_left _ h2;exact⟨h1,by omega⟩
abbrev sW(ps:TR)(c:Nat)(ws:T1)(A L:Nat)(o6 o7:Option Sl):Ev:=[sn (ae ps),sn (iN 0),sn (iN c),dp (au ws),dp (iN A),dp (iN L),o6,o7]
def  J5(f:Fn):Prop:=∀(ps:TR)(c:Nat),Valid ps->c<prod ps->∃d,f [ae ps,.int 0,iN c]=dp d
def EU{fl la mt kk wi lo}(hf:fl "Mill" "passes"=true)(hl:wv la)(hm:R4 mt kk)(hw:dH wi)(hlo:qD lo):J5 (aR 3 8 (iK fl la mt kk wi lo)):=λps c hv hc=>by
 have em:∀Y:Vv,cy Y 0=!(ae ps)->KZ (va 0) ag mt kk "codes" Y=!(.int (prod ps:Nat)):=λY h=>by
  show gT (sf (va 0) ag mt kk "codes" Y)=_;unfold sf;rw[va_a,h,Option.bind_some];show gT (pA mt kk "codes" (ae ps) [])=_;rw[hm ps hv];rfl
 have e2:(decide ((c:Int)<=((prod ps:Nat):Int)-1))=true:=decide_eq_true (!3);suffices h:∃d,iK fl la mt kk wi lo [sn (ae ps),sn (iN 0),sn (iN c),none,none,none,none,none]=!(.rt (.deep,d))/\True by
  let⟨d,h,_⟩:=h;exact⟨d,aq rfl h⟩
 unfold iK;refine nZ (d:=.non) ?_ (Gs ?_ (sX (evX_lfs (d:=.lst []) (ds:=[]) rfl rfl rfl rfl) (sX (evX_lf (d:=.int (prod ps:Nat)) (em _ rfl) rfl) (sX (evX_lf (d:=iN c) rfl rfl)
  (Gu (xs:=ps.reverse) (mk:=bH) (λi Y=>∃ws A L o6 o7,ws.length=i/\A=prod (ps.take (ps.length-i))/\L<A/\Y=sW ps c ws A L o6 o7) ?_ ⟨[],_,c,none,none,rfl,by rw[Nat.sub_zero,List.take_length],hc,rfl⟩ ?_ ?_)))))
 .simp only[vw_some,vw_none,vw_nil,clF_a,consX_a,nilX_a,va_a,shAt_s,shAt_0,shAt_1,Option.bind_some,hlo ps 0 (Nat.zero_le _),valO_some]
 .rw[notQ_a,trF_a,clF_a,ym,consX_a,n5,consX_a,iH,consX_a,bin2_a,em _ rfl];simp only[vw_some,vw_none,vw_nil,nilX_a,va_a,shAt_s,shAt_0,shAt_1,cI_a,Option.bind_some,subD_ii,hw (c:Int) 0 (((prod ps:Nat):Int)-1),valO_some,e2];rw[decide_eq_true (show(0:Int)<=(c:Int)by omega)];rfl
 .refine NK ?_;have e:slF (i9 fl "passes" (va 0)) (partF (va 1)) noP (eg (sW ps c [] (prod ps) c none none))=!(.tup (ps.map bH)):=kr hf (ps:=ps) (t:=0) rfl rfl;refine(congrArg (λo:Ub=>(o.bind λd=>![d]).bind Mn) e).trans ?_;show some (ps.map bH).reverse=_;rw[List.map_reverse]
 .rintro i p Y hp ⟨ws,A,L,o6,o7,hn,hA,hL,rfl⟩;have hi:i<ps.length:=by have:=(Uk.mp hp).1;rwa [List.length_reverse]at this
  rw[List.getElem?_reverse hi]at hp;have h66:=hv.len;have hq:=hv.p (UA hp);have e1:ps.length-i=(ps.length-1-i)+1:=by omega
  let⟨t1,t2⟩:=ET hv (ps.length-1-i);rw[e1,List.take_succ,hp,Option.toList_some,pJ]at hA;generalize hB:prod (ps.take (ps.length-1-i))=B at t1 t2 hA;subst hA;have h5:L/B<p.length:=Nat.div_lt_of_lt_mul hL;have h6:L%B<B:=Nat.mod_lt _ t1;have eA:((B*p.length:Nat):Int)/(p.length:Int)=(B:Int):=by
   show(((B*p.length)/p.length:Nat):Int)=_;rw[Nat.mul_div_cancel _ (!3)]
  have eK:(L:Int)/(B:Int)=((L/B:Nat):Int):=rfl;have eM:(L:Int)-((L/B:Nat):Int)*(B:Int)=((L%B:Nat):Int):=by
   have:=Nat.div_add_mod' L B;rw[<-Int.natCast_mul];omega
  generalize L/B=k at h5 eK eM;have e0:∀q:Pk,ixD (dY q) (.int 0)=!(.str (kd q.1)):=λq=>nw _ _;have e6:ixD (bH p) (iN k)=!(dY (pkAt (k,p))):=AS (q:=(k,p)) h5;have e7:seqD (bH p)=!(p.map dY):=rfl;obtain⟨M,hM,el⟩:∃M,M<B/\la [.str (kd (pkAt (k,p)).1),.int (B:Int),.int ((L%B:Nat):Int)]=dp (iN M):=by
   refine⟨(lay (pkAt (k,p)).1 (B:Int) ((L%B:Nat):Int)).toNat,?_,(hl _ _ _).trans (congrArg (λz:Int=>dp (.int z)) ?_)⟩<;>unfold lay<;>split<;>omega
  have ec:∀Y:Vv,cy Y 6=!(bH p)->cy Y 7=!(iN k)->cy Y 4=!(iN B)->cy Y 5=!(iN L)->x3 (bin2 ixD (bin2 ixD (va 6) (va 7)) (cI 0)) (va 4) (bin2 bt (va 5) (bin2 cF (va 7) (va 4))) Y=![.str (kd (pkAt (k,p)).1),.int (B:Int),.int ((L%B:Nat):Int)]:=λY g6 g7 g4 g5=>by
   simp only[bin2_a,consX_a,nilX_a,va_a,cI_a,Option.bind_some,g4,g5,g6,g7,AW (show k<1000000 by omega),subD_ii,eM,e6,e0]
  refine⟨sW ps c (ws++[k]) B M (sn (bH p)) (dp (iN k)),?_,ws++[k],B,M,_,_,by rw[length_append,hn];rfl,by rw[show ps.length-(i+1)=ps.length-1-i by omega,hB],hM,rfl⟩;refine q_set (Y:=sW ps c ws (B*p.length) L (sn (bH p)) o7) (evX_lf (d:=iN B) ?_ rfl) (q_set (Y:=sW ps c ws B L (sn (bH p)) o7) (evX_lf (d:=iN k) ?_ rfl) (q_set (Y:=sW ps c ws B L (sn (bH p)) (dp (iN k))) (evX_lf (d:=iN M) ?_ rfl) (eF (pH (ds:=ws.map λ(k:Nat)=>D.int (k:Int)) (ds0:=ws.map λ(k:Nat)=>D.int (k:Int)) (c0:=.deep) (d:=iN k) rfl (evX_lf rfl rfl) rfl ?_) ?_)))
  .simp only[vw_o,vw_nil,map_some,Option.map_none,bin2_a,biF_a,consX_a,nilX_a,va_a,shAt_s,shAt_0,shAt_1,Option.bind_some,bG,e7,length_map];rw[dG (show(0:Int)<(p.length:Int)by omega) (!3),eA]
  .simp only[vw_o,vw_nil,map_some,Option.map_none,bin2_a,va_a,shAt_s,shAt_0,shAt_1,Option.bind_some];rw[dG (show(0:Int)<(B:Int)by omega) (!3),eK]
  .rw[clF_a,ec _ rfl rfl rfl rfl,Option.bind_some,el];rfl
  .rw[length_map,hn];exact Uq (show i+1<=6 by omega) (!4)
  .have em:au (ws++[k])=.lst ((ws.map λ(k:Nat)=>D.int (k:Int))++[iN k]):=by unfold au;rw[List.map_append];rfl
   simp only[sW,em];rfl
 .rintro Y ⟨ws,A,L,o6,o7,hn,hA,hL,rfl⟩;rw[List.length_reverse,Nat.sub_self]at hA;cases(show A=1 from hA);cases(show L=0 by omega);refine Gs rfl ⟨.tup (ws.map λ(k:Nat)=>D.int (k:Int)).reverse,cZ (evX_lf rfl ?_),trivial⟩;rw[<-List.map_reverse];exact QW _
end K42
namespace K42
open PySem PySem.Spec PyProof.Rows L2
def  dZ:TM:=(mh (fH (mY (bin2 (aE false) (va 1) (ngF (cI 1))) (bin2 uj (cX (va 0)) (cI 1)))))
def  cL(bo bL:Fn)(fl:Str->Str->Bool)(iP:T9->Option (List (Str×D)))(dF cU:Fn):TM:=(af (cu (dJ (aT l8 (x1 (lsF (ah [5,6,7] (jX noV (aL dF (x2 (va 0) (va 1)))) (iZ 3 (ai (aM 5) (ai (aM 6) (ai (aM 7) bc)))) tQ (aL cU (x2 (va 6) (va 7)))))))) (mh (fH cN)) aF) (af (aD 2 (aY (MU "Mill" iP (x1 (lsF (ah [3] (jX noV (i9 fl "passes" (va 0))) (aM 3) tQ (lsF (cA (dpF (x1 (dU (x2 (cS "queue") (cD (.int 9)))))) (cX (va 3)))))))) noV (pF (x1 (lsF (ah [3] (jX noV (i9 fl "passes" (va 0))) (aM 3) tQ (lsF (cA (dpF (x1 (dU (x2 (cS "queue") (cD (.int 9)))))) (cX (va 3)))))))))) (mh (aY (dU (x2 (va 2) (lsF (ah [4] (jX noV (va 1)) (aM 4) tQ (aL bL (x3 (va 2) (cI 0) (aL bo (x3 (va 0) (cI 0) (va 4))))))))) noV (yw (x2 (frX (va 2) noV noV) (frX (lsF (ah [4] (jX noV (va 1)) (aM 4) tQ (aL bL (x3 (va 2) (cI 0) (aL bo (x3 (va 0) (cI 0) (va 4))))))) (ah [4] (jX noV (va 1)) (aM 4) tQ (aL bL (x3 (va 2) (cI 0) (aL bo (x3 (va 0) (cI 0) (va 4)))))) (x9 [4] (jX noV (va 1)) (aM 4) tQ (frX (aL bL (x3 (va 2) (cI 0) (aL bo (x3 (va 0) (cI 0) (va 4))))) noV (Ct bL (x3 (va 2) (cI 0) (aL bo (x3 (va 0) (cI 0) (va 4))))))))))))))
def lt_big{n:Nat}(h:n<=1000):n<big:=Uq h (!4)
noncomputable def  qs(ps:TR):TR:=ps.map λp=>p.map λ_=>(true,9)
def qU:∀ps:TR,prod (qs ps)=prod ps
 |[]=>rfl
 |p::ps=>by
  show(p.map _).length*prod (qs ps)=p.length*prod ps;rw[qU ps,length_map]
def NM{ps:TR}(hv:Valid ps):Valid (qs ps)/\Wide (qs ps):=by
 have m:∀p∈qs ps,∃q∈ps,p=q.map λ_=>(true,9):=λp hp=>by
  let⟨q,h1,h2⟩:=Ut.mp hp;exact⟨q,h1,h2.symm⟩
 have k:∀p∈qs ps,∀z∈p,z=(true,9):=λp hp z hz=>by
  let⟨q,_,rfl⟩:=m p hp;let⟨_,_,e⟩:=Ut.mp hz;exact e.symm
 refine⟨⟨by have:=hv.len;unfold qs;rw[length_map];exact this,λp hp=>?_,by rw[qU];exact hv.codes⟩,λp hp z hz=>by rw[k p hp z hz];decide⟩;let⟨q,hq,e⟩:=m p hp;let⟨h1,h2,_⟩:=hv.p hq;have el:p.length=q.length:=by rw[e,length_map]
 unfold D3;rw[and_eq_true,and_eq_true,decide_eq_true_eq,decide_eq_true_eq,List.all_eq_true];exact⟨⟨by omega,by omega⟩,λz hz=>by rw[k p hp z hz];decide⟩
def NO{ps:TR}{ls:List Lt}(P:Pln ps ls){l:Lt}(hl:l∈ls):0<=qT ps l/\qT ps l<(prod ps:Nat):=by
 let⟨k,hk⟩:=List.mem_iff_getElem?.mp hl;have:=BA P.v P.ok hk (by rw[P.t l hl];exact Nat.zero_le _) (UB _);rw[(BG P hk).1]at this;unfold ahd at this;rw[List.take_length]at this;exact this
def  BK(f:Fn):Prop:=∀(m:T1)(s:Int),f [au m,.int s]=dp (.bl (decide (s= -1)&&decide (1<m.length)))
def J6:BK (aR 2 2 dZ):=λm s=>by
 refine aq rfl ?_;show dZ [sn (au m),sn (.int s)]=_;unfold dZ;refine cZ (evX_lf ?_ rfl);simp only[vw_some,vw_nil,uQ,bin2_a,F0,biF_a,consX_a,nilX_a,va_a,cI_a,shAt_0,shAt_1,Option.bind_some,AA,iB,asB_bl,bG,show seqD (au m)=some (m.map λ(k:Nat)=>D.int (k:Int))from rfl,length_map,nt];by_cases h:s= -1
 .subst h;have i1:decide ((1:Int)<(m.length:Int))=decide (1<m.length):=by rw[decide_eq_decide];omega
  simp[i1]
 .simp[h]
def  vd(f:Fn):Prop:=∀(ps:TR)(ls:List Lt),Pln ps ls->∃v,f [ae ps,plD true ls]=!v
def J7{wc cw fl mi cz tl}(hwc:ww wc)(hcw:J5 cw)(hfl:fl "Mill" "passes"=true)(hmi:sJ mi)(hcz:EO cz)(htl:BK tl):vd (aR 2 8 (cL wc cw fl mi cz tl)):=λps ls P=>by
 let⟨c,ec⟩:=hcz ps ls P;have sl:(srtK ps ls).length<=24:=by rw[show(srtK ps ls).length=(kys (cl ps ls)).length from(List.mergeSort_perm _ _:(fP (kys (cl ps ls))).Perm _).length_eq];exact Gw P
 have h6:=P.v.len;have h24:=P.n;have hT:dJ (aT l8 (x1 (lsF (ah [5,6,7] (jX noV (aL cz (x2 (va 0) (va 1)))) (iZ 3 (ai (aM 5) (ai (aM 6) (ai (aM 7) bc)))) tQ (aL tl (x2 (va 6) (va 7))))))) (vw [sn (ae ps),sn (plD true ls),none,none,none,none,none,none])=!((srtK ps ls).any λc=>decide (EL ps ls c= -1)&&decide (1<(mem1 (cl ps ls) ls.length c).length)):=by
  have e:ah [5,6,7] (jX noV (aL cz (x2 (va 0) (va 1)))) (iZ 3 (ai (aM 5) (ai (aM 6) (ai (aM 7) bc)))) tQ (aL tl (x2 (va 6) (va 7))) (vw [sn (ae ps),sn (plD true ls),none,none,none,none,none,none])=!((srtK ps ls).map λc=>.bl (decide (EL ps ls c= -1)&&decide (1<(mem1 (cl ps ls) ls.length c).length))):=by
   refine aB (mk:=ON ps ls) (out:=λc=>.bl (decide (EL ps ls c= -1)&&decide (1<(mem1 (cl ps ls) ls.length c).length))) ?_ (λc hc=>?_) (lt_big (!3))
   .simp only[vw_some,vw_none,vw_nil,b9,clF_a,consX_a,nilX_a,va_a,shAt_0,shAt_1,Option.bind_some,ec,valO_some];rfl
   .show jw _ _ _ _ (.tup [.int c,au (mem1 (cl ps ls) ls.length c),.int (EL ps ls c)])=_;have ht:=htl (mem1 (cl ps ls) ls.length c) (EL ps ls c);simp only[vw_some,vw_none,vw_nil];simp[ht]
  rw[trF_a,biF_a,iH,consX_a,lsF_a,e];simp only[map_some,nilX_a,Option.bind_some,nY (srtK ps ls) λc=>decide (EL ps ls c= -1)&&decide (1<(mem1 (cl ps ls) ls.length c).length),truD_bl]
 generalize (srtK ps ls).any _=z at hT;cases z with
 |true=>
  refine⟨(.deep,.non),aq rfl ?_⟩
  .show cL wc cw fl mi cz tl [sn (ae ps),sn (plD true ls),none,none,none,none,none,none]=_;unfold cL;exact aw ((ifS_t hT).trans rfl)
 |false=>
  let⟨v,w⟩:=NM P.v;have hf:ji fl "passes" (ae ps)=!(av ps):=by simp[ji,ae,hfl]
  have eq:∀Y:Vv,Y=[!(ae ps),!(plD true ls),none,none,none,none,none,none]->MU "Mill" mi (x1 (lsF (ah [3] (jX noV (i9 fl "passes" (va 0))) (aM 3) tQ (lsF (cA (dpF (x1 (dU (x2 (cS "queue") (cD (.int 9)))))) (cX (va 3))))))) Y=!(ae (qs ps)):=by
   rintro Y rfl;have e:ah [3] (jX noV (i9 fl "passes" (va 0))) (aM 3) tQ (lsF (cA (dpF (x1 (dU (x2 (cS "queue") (cD (.int 9)))))) (cX (va 3)))) [!(ae ps),!(plD true ls),none,none,none,none,none,none]=!(ps.map λp=>ox (true,p.map λ_=>(true,9))):=by
    refine aB (mk:=bH) (out:=λp=>ox (true,p.map λ_=>(true,9))) ?_ (λp hp=>?_) (lt_big (!3))
    .simp only[b9,we,va_a,shAt_0,Option.bind_some,hf];rfl
    .let⟨p1,p2,_⟩:=P.v.p hp;have er:∀Y:Vv,cy Y 3=!(bH p)->cA (dpF (x1 (dU (x2 (cS "queue") (cD (.int 9)))))) (cX (va 3)) Y=!(p.map λ_=>dY (true,9)):=λY h3=>by
      unfold cA;simp only[dpF_a,jz,biF_a,consX_a,nilX_a,va_a,cS_a,Az,h3,Option.bind_some,capL_1,capL_2,bG,show seqD (bH p)=some (p.map dY)from rfl,length_map,iA];rw[if_pos ⟨by omega,by omega,by show 1*_<=_;omega⟩];show some (List.replicate (p.length:Int).toNat [_]).flatten=_;rw[Int.toNat_natCast];rw[List.map_const',List.flatten_replicate_singleton];rfl
     simp only[stepF_a,wipe_cons,wipe_nil,gNm_a,tQ_a,set_cons_succ,set_cons_zero,Option.bind_some,if_true,lsF_a,er [!(ae ps),!(plD true ls),none,!(bH p),none,none,none,none] rfl,map_some];rw[ox];show some (!(D.lst _))=!(!(D.lst _));rw[List.map_map];rfl
   have g:=hmi true (ps.map λp=>(true,p.map λ_=>((true,9):Pk))) (by rw[List.map_map];exact v);rw[List.map_map,List.map_map]at g;simp only[wh,consX_a,nilX_a,lsF_a,e,map_some,Option.bind_some];rw[show mi [.lst (ps.map λp=>ox (true,p.map λ_=>(true,9)))]=some [(("passes":Str),av (qs ps))]from g];rfl
  have hd:∀l∈ls,∃d,aL cw (x3 (va 2) (cI 0) (aL wc (x3 (va 0) (cI 0) (va 4)))) [!(ae ps),!(plD true ls),!(ae (qs ps)),none,!(wD l.w),none,none,none]=!d:=λl hl=>by
   have e1:wc [ae ps,.int 0,wD l.w]=dp (.int (qT ps l)):=hwc ps 0 l.w P.v (Nat.zero_le _) (P.o l hl).w;let⟨b1,b2⟩:=NO P hl;let⟨d,e2⟩:=hcw (qs ps) (qT ps l).toNat v (by rw[qU];omega);rw[show iN (qT ps l).toNat=.int (qT ps l)from congrArg D.int (Int.toNat_of_nonneg b1)]at e2;exact⟨d,by simp only[clF_a,consX_a,nilX_a,va_a,cI_a,shAt_s,shAt_0,shAt_1,Option.bind_some,e1,e2,valO_some]⟩
  have e:ah [4] (jX noV (va 1)) (aM 4) tQ (aL cw (x3 (va 2) (cI 0) (aL wc (x3 (va 0) (cI 0) (va 4))))) [!(ae ps),!(plD true ls),!(ae (qs ps)),none,none,none,none,none]=!(ls.map λl=>(aL cw (x3 (va 2) (cI 0) (aL wc (x3 (va 0) (cI 0) (va 4)))) [!(ae ps),!(plD true ls),!(ae (qs ps)),none,!(wD l.w),none,none,none]).getD .non):=by
   refine aB (mk:=λl=>wD l.w) rfl (λl hl=>?_) (lt_big (!3));let⟨d,h⟩:=hd l hl;rw[h];simp only[stepF_a,wipe_cons,wipe_nil,gNm_a,tQ_a,set_cons_succ,set_cons_zero,Option.bind_some,if_true,h,Option.getD_some]
  generalize (ls.map λl=>(aL cw _ _).getD .non)=L at e;have r:dU (x2 (va 2) (lsF (ah [4] (jX noV (va 1)) (aM 4) tQ (aL cw (x3 (va 2) (cI 0) (aL wc (x3 (va 0) (cI 0) (va 4)))))))) [!(ae ps),!(plD true ls),!(ae (qs ps)),none,none,none,none,none]=!(.tup [ae (qs ps),.lst L]):=by
   rw[jz,n5,consX_a,iH,consX_a,lsF_a,e];exact congrArg (λo:TV=>o.bind λds=>!(D.tup ds)) (capL_2 (ae (qs ps)) (.lst L))
  refine⟨_,aq rfl (s:=(.sh,.tup [ae (qs ps),.lst L])) ?_⟩;show cL wc cw fl mi cz tl [sn (ae ps),sn (plD true ls),none,none,none,none,none,none]=_;unfold cL;exact q_if0 hT (q_set (evX_sh (d:=ae (qs ps)) (eq _ rfl) rfl rfl (by simp) rfl (eq _ rfl)) (cZ (evX_sh (d:=.tup [ae (qs ps),.lst L]) r rfl rfl rfl rfl r)))
end K42
namespace K42
open PySem PySem.Spec PyProof.Rows L2
def  d7(bf bB:Fn):Ev->Option Str:=(Bk jj (bz (aL bf (x2 (va 0) (va 1)))) (Bk (rr (o8 (b7 (dJ (aT fN (x2 (va 2) (dU (x2 (cT "list") (cT "tuple"))))))) (ao (bin2 (aE true) (cX (va 2)) (cX (va 1))))) (Ed "BadPlan") jj) (cu (o8 (b7 (dJ (aT fN (x2 (va 2) (dU (x2 (cT "list") (cT "tuple"))))))) (ao (bin2 (aE true) (cX (va 2)) (cX (va 1))))) (af noO' aF) aF) (rr (b7 (dJ (aT kQ (x1 (lsF (ah [3,4] (jX (qw (x2 (va 1) (va 2))) (aT eR (x2 (va 1) (va 2)))) (iZ 2 (ai (aM 3) (ai (aM 4) bc))) tQ (aL bB (x3 (va 0) (va 3) (va 4))))))))) (Ed "BadPlan") jj)))
def  jD:TM:=(af (aD 3 NB) (af (lh (jR (x1 (va 2))) (gz 4) (af (xQ 3 (bin2 aI (bin2 bi (bin2 ixD (va 0) (bin2 ay (va 1) (va 4))) (cI 81)) (bin2 ay (va 4) (cI 1))) (va 4)) aF)) (af (yy 3) aF)))
noncomputable def  wZ(w:T5):D:=.tup (w.map D.int)
noncomputable def  wN(w:T1):T5:=w.map λ(i:Nat)=>(i:Int)
def NQ(w:T1):wZ (wN w)=wD w:=by unfold wZ wN wD;rw[List.map_map];rfl
noncomputable def  J8(q:Int×List Pk):Bool:=decide (0<=q.1)&&decide (q.1<=(q.2.length:Int)-1)
def  dg(ps:TR)(t:Nat)(w:T5):Bool:=decide ((w.length:Int)=((ps.length-t:Nat):Int))&&(w.zip (ps.drop t)).all J8
def  ve(f:Fn):Prop:=∀(ps:TR)(t:Nat)(w:T5),Valid ps->f [ae ps,.int (t:Int),wZ w]=!(.deep,.bl (dg ps t w))
def EV{wi fl}(hw:dH wi)(hf:fl "Mill" "passes"=true):ve (aR 3 6 (lj wi fl)):=λps t w hv=>by
 refine aq rfl ?_;unfold lj;refine(seqF_nx (bj (evX_lf (kr hf (ps:=ps) (t:=t) rfl rfl) (nI _)))).trans ?_;have hs:((ar 6 [ae ps,.int (t:Int),wZ w]).set 3 (!(Cat.deep,.tup ((ps.drop t).map bH))))=[!(.sh,ae ps),!(.sh,.int (t:Int)),!(.sh,wZ w),!(.deep,.tup ((ps.drop t).map bH)),none,none]:=rfl;rw[hs];unfold dg;by_cases hl:(w.length:Int)=((ps.length-t:Nat):Int)
 .rw[decide_eq_true hl,Bool.true_and];refine(seqF_nx ((aW ?_).trans rfl)).trans ?_
  .simp[wZ,hl]
  refine aw (aV (evX_lf ?_ rfl));have hsh:(w.zip (ps.drop t)).length<big:=by
   rw[List.length_zip,List.length_drop];have:=hv.len;exact Uq (show min w.length (ps.length-t)<=6 by omega) (!4)
  have hm:ah [4,5] (jX (qw (x2 (va 2) (va 3))) (aT eR (x2 (va 2) (va 3)))) (iZ 2 (ai (aM 4) (ai (aM 5) bc))) tQ (aL wi (x3 (va 4) (cI 0) (bin2 bt (cX (va 5)) (cI 1))))
    [!(ae ps),!(.int (t:Int)),!(wZ w),!(.tup ((ps.drop t).map bH)),none,none]=!((w.zip (ps.drop t)).map λq=>.bl (J8 q)):=by
   refine aB (mk:=λq:Int×List Pk=>.tup [.int q.1,bH q.2]) (nr ?_) (λq hq=>?_) hsh
   .simp only[consX_a,va_a,shAt_s,shAt_0,nilX_a,Option.bind_some];rw[eX (xs:=w.map D.int) (ys:=(ps.drop t).map bH) rfl rfl,eY]
   .simp[bH,hw q.1 0 ((q.2.length:Int)-1),J8]
  simp only[vw_some,vw_none,vw_nil,biF_a,consX_a,lsF_a,hm,nilX_a,map_some,Option.bind_some];exact cH (w.zip (ps.drop t)) J8
 .rw[decide_eq_false hl,Bool.false_and];refine aw ((ifS_t ?_).trans (aw (aV (evX_lf (d:=.bl false) rfl rfl))));simp[wZ,hl]
noncomputable def  wI(w:T5):T1:=w.map Int.toNat
def tf{ps:TR}{t:Nat}{w:T5}(h:dg ps t w=true):w=wN (wI w)/\WordOk ps t (wI w):=by
 unfold dg at h;rw[and_eq_true,List.all_eq_true]at h;let⟨h1,h2⟩:=h;have h1:=Uo h1;have hl:w.length=(ps.drop t).length:=by rw[List.length_drop];omega
 have he:∀(i:Nat)(h:i<w.length)(h':i<(ps.drop t).length),0<=w[i]/\w[i]<((ps.drop t)[i].length:Int):=λi hi hi'=>by
  have hm:(w[i],(ps.drop t)[i])∈w.zip (ps.drop t):=by
   have:=List.getElem_mem (l:=w.zip (ps.drop t)) (n:=i) (by rw[List.length_zip];omega);rw[List.getElem_zip]at this;exact this
  have:=h2 _ hm;unfold J8 at this;rw[and_eq_true]at this;have a:=Uo this.1;have b:=Uo this.2;exact⟨a,by have:(w[i]:Int)<=((ps.drop t)[i].length:Int)-1:=b;omega⟩
 refine⟨?_,?_,λq hq=>?_⟩
 .unfold wN wI;rw[List.map_map];refine List.ext_getElem (by rw[length_map]) λi hi hi'=>?_;rw[List.getElem_map];have:=(he i hi (!3)).1;show w[i]=((w[i].toNat:Nat):Int);omega
 .unfold wI;rw[length_map];exact hl
 .let⟨i,hi,e⟩:=List.getElem_of_mem hq;rw[List.getElem_zip]at e;subst e;have hi2:i<w.length:=by rw[List.length_zip]at hi;unfold wI at hi;rw[length_map]at hi;omega
  have:=he i hi2 (!3);simp only[wI,List.getElem_map];omega
def yo{ps:TR}{t:Nat}{w:T1}(h:WordOk ps t w):dg ps t (wN w)=true:=by
 unfold dg;rw[and_eq_true,List.all_eq_true];have hl:=h.len;rw[List.length_drop]at hl;refine⟨decide_eq_true (by unfold wN;rw[length_map];omega),λq hq=>?_⟩;unfold wN at hq;rw[List.zip_map_left]at hq;let⟨p,hp,rfl⟩:=Ut.mp hq;have:=h.each p hp;unfold J8;rw[and_eq_true];exact⟨decide_eq_true (Int.natCast_nonneg _),decide_eq_true (show(p.1:Int)<=(p.2.length:Int)-1 by omega)⟩
def  yz(ps:TR)(l:Lt)(w:T5):Bool:=dg ps l.t w&&((wI w).zip (ps.drop l.t)).all λq=>decide (l.s<=(pkAt q).2)
def  BL(f:Fn):Prop:=∀(ps:TR)(l:Lt)(w:T5),Valid ps->l.t<=ps.length->1<=l.s->l.s<=9->f [ae ps,eZ l,wZ w]=!(.deep,.bl (yz ps l w))
def J9{fi wo}(hf:wu fi)(hw:ve wo):BL (aR 3 3 (fQ fi wo)):=λps l w hv ht h1 h9=>by
 have x1:ixD (eZ l) (.int 1)=!(.int (l.t:Int)):=wm _ _ _;have x0:ixD (eZ l) (.int 0)=!(.int l.s):=nw _ _;have e:=hw ps l.t w hv;refine aq rfl ?_;unfold fQ;refine aw (aV (evX_lf ?_ rfl));cases hb:dg ps l.t w with
 |false=>
  rw[hb]at e;simp[ar,x1,e,yz,hb]
 |true=>
  rw[hb]at e;let⟨z,hk⟩:=tf hb;have ez:wZ w=wD (wI w):=by rw[<-NQ,<-z]
  rw[ez]at e⊢;simp[ar,x1,x0,e,hf ps l.t (wI w) l.s hv ht hk h1 h9,yz,hb]
def  BM(ps:TR)(ls:List Lt)(ws:List (T5)):Bool:=decide (ws.length=ls.length)&&(ls.zip ws).all λq=>yz ps q.1 q.2
def  BN(z:Zf):Prop:=∀(ps:TR)(ls:List Lt)(ws:List (T5)),Valid ps->ls.length<=24->(∀l∈ls,LtOk ps l)->z [ae ps,lsD true ls,.lst (ws.map wZ)]=if BM ps ls ws=true then none else !("BadPlan":Str)
def EW{lo wf}(hl:my lo)(hf:BL wf):BN (mf 3 5 (d7 lo wf)):=λps ls ws hv h24 h=>by
 have hs:ar 5 [ae ps,lsD true ls,.lst (ws.map wZ)]=[!(.sh,ae ps),!(.sh,lsD true ls),!(.sh,.lst (ws.map wZ)),none,none]:=rfl;show d7 lo wf (ar 5 [ae ps,lsD true ls,.lst (ws.map wZ)])=_;rw[hs];unfold d7 BM;refine(nP rfl (bV (d:=.non) ?_)).trans ?_
 .simp[hl true ps ls h24 h]
 have sl:seqD (lsD true ls)=!(ls.map eZ):=rfl;have hc1:o8 (b7 (dJ (aT fN (x2 (va 2) (dU (x2 (cT "list") (cT "tuple"))))))) (ao (bin2 (aE true) (cX (va 2)) (cX (va 1)))) (vw [!(.sh,ae ps),!(.sh,lsD true ls),!(.sh,.lst (ws.map wZ)),none,none])=!(not (decide ((ws.length:Int)=(ls.length:Int)))):=by
  simp[sl]
 by_cases hw:ws.length=ls.length
 .rw[decide_eq_true hw,Bool.true_and];rw[decide_eq_true (show(ws.length:Int)=(ls.length:Int)by omega)]at hc1;refine(nP ((dC hc1).trans rfl) ((aW hc1).trans rfl)).trans ?_;have hm:ah [3,4] (jX (qw (x2 (va 1) (va 2))) (aT eR (x2 (va 1) (va 2)))) (iZ 2 (ai (aM 3) (ai (aM 4) bc))) tQ (aL wf (x3 (va 0) (va 3) (va 4))) [!(ae ps),!(lsD true ls),!(.lst (ws.map wZ)),none,none]=!((ls.zip ws).map λq=>.bl (yz ps q.1 q.2)):=by
   refine aB (mk:=λq:Lt×List Int=>.tup [eZ q.1,wZ q.2]) (nr ?_) (λq hq=>?_) ?_
   .simp only[consX_a,va_a,shAt_s,shAt_0,shAt_1,nilX_a,Option.bind_some];rw[eX (a:=lsD true ls) (b:=.lst (ws.map wZ)) (xs:=ls.map eZ) (ys:=ws.map wZ) rfl rfl,eY]
   .have ho:=h q.1 (List.of_mem_zip hq).1;simp[hf ps q.1 q.2 hv ho.t ho.s1 ho.s9]
   .rw[List.length_zip];exact Uq (show min ls.length ws.length<=24 by omega) (!4)
  have hc2:b7 (dJ (aT kQ (x1 (lsF (ah [3,4] (jX (qw (x2 (va 1) (va 2))) (aT eR (x2 (va 1) (va 2)))) (iZ 2 (ai (aM 3) (ai (aM 4) bc))) tQ (aL wf (x3 (va 0) (va 3) (va 4)))))))) (vw [!(.sh,ae ps),!(.sh,lsD true ls),!(.sh,.lst (ws.map wZ)),none,none])=!(not ((ls.zip ws).all λq=>yz ps q.1 q.2)):=by
   simp[hm,cH (ls.zip ws) λq=>yz ps q.1 q.2]
  cases hb:((ls.zip ws).all λq=>yz ps q.1 q.2)with
  |true=>
   rw[hb]at hc2;exact(dC hc2).trans rfl
  |false=>
   rw[hb]at hc2;exact(dC hc2).trans rfl
 .rw[decide_eq_false hw,Bool.false_and];rw[decide_eq_false (show¬ (ws.length:Int)=(ls.length:Int)by omega)]at hc1;exact jd ((dC hc1).trans rfl)
def EY{i:Nat}{fk R}{Y:Ev}{ds:T9}{k:Nat}{d:D}(h0:jh Y i=!(.deep,ds))(hk:fk (eg Y)=!(.int (k:Int)))(hkl:k<=ds.length)(hd:R (eg Y)=!d)(lf:gq d=true)(hl:ds.length+1<big):
  xQ i fk R Y=!(.nx (Y.set i (!(.deep,.lst (im k ds d))))):=by
 have e:DP ds.length (.int (k:Int))=!k:=by
  show(if 0<=(k:Int)/\(k:Int)<=(ds.length:Int)then some (k:Int).toNat else none)=_;rw[if_pos ⟨by omega,by omega⟩,Int.toNat_natCast]
 unfold xQ
 simp only[h0,Option.bind_some,hk,e,hd,kj,lf]
 show(if ds.length+1<big then _ else _)=_
 rw[if_pos hl]
 rfl
def EZ(f:α->g)(k:Nat)(l:List α)(x:α):im k (l.map f) (f x)=(im k l x).map f:=by simp[im]
def BO{α:Type}(k:Nat)(l:List α)(x:α):(im k l x).Perm (l++[x]):=by
 unfold im;refine List.perm_middle.trans ?_;rw[List.take_append_drop];exact(List.perm_append_singleton _ _).symm
def  Ka(f:Fn):Prop:=∀(cs:T5)(t n:Nat),t+n<=cs.length->n<=24->∃r:T1,r.Perm (List.range n)/\f [bg cs,.int (t:Int),.int (n:Int)]=!(.deep,au r)
def NR:Ka (aR 3 5 jD):=λcs t n ht hn=>by
 have hs:ar 5 [bg cs,.int (t:Int),.int (n:Int)]=[!(.sh,bg cs),!(.sh,.int (t:Int)),!(.sh,.int (n:Int)),none,none]:=rfl;have L:=gC (J:=(jR (x1 (va 2)))) (s:=4) (v:=λi=>(i:Int)) (n:=n)
  (F:=(af (xQ 3 (bin2 aI (bin2 bi (bin2 ixD (va 0) (bin2 ay (va 1) (va 4))) (cI 81)) (bin2 ay (va 4) (cI 1))) (va 4)) aF))
  (Y:=[!(.sh,bg cs),!(.sh,.int (t:Int)),!(.sh,.int (n:Int)),!(.deep,.lst []),none])
  (λi Y=>∃o4,∃r:T1,r.Perm (List.range i)/\Y=[!(.sh,bg cs),!(.sh,.int (t:Int)),!(.sh,.int (n:Int)),!(.deep,au r),o4]) (iz (by simp;exact cJ (!3))) ⟨none,[],.refl _,rfl⟩ (by
   rintro i Y hi ⟨o4,r,pm,rfl⟩;have hl:r.length=i:=by rw[pm.length_eq,length_range]
   let⟨y,ey⟩:=pK (ns:=cs) (i:=(t:Int)+(i:Int)) (!3) (!3);have h0:(0:Int)<(i:Int)+1:=by omega
   let⟨m0,m1⟩:=JT (y/81) h0;have hk:y/81%((i:Int)+1)=(((y/81%((i:Int)+1)).toNat:Nat):Int):=by omega
   have hk2:(y/81%((i:Int)+1)).toNat<=i:=by omega
   generalize (y/81%((i:Int)+1)).toNat=k at hk hk2;refine⟨_,eF (EY (ds:=r.map λ(k:Nat)=>D.int (k:Int)) (k:=k) (d:=.int (i:Int)) rfl ?_ (by rw[length_map];omega) rfl rfl (by rw[length_map,hl];exact Nat.lt_trans (show i+1<26 by omega) (!4))) rfl,⟨!(.sh,.int (i:Int)),im k r i,?_,?_⟩⟩
   .simp only[set_cons_succ,set_cons_zero,iC,eV,bin2_a,va_a,shAt_s,shAt_0,shAt_1,cI_a,Option.bind_some,addD_ii,ey,dG (show(0:Int)<81 by decide) (show(81:Int)<1073741824 by decide),bC h0,hk]
   .refine(BO k r i).trans ?_;rw[List.range_succ];exact pm.append_right _
   .rw[EZ (λ(k:Nat)=>D.int (k:Int)) k r i];rfl)
 let⟨Y',e,o4,r,pm,rfl⟩:=L;refine⟨r,pm,aq rfl ?_⟩;rw[hs];unfold jD;exact q_set (evX_lfs (d:=.lst []) (ds:=[]) (by simp) rfl (by simp) rfl) (eF e (aw rfl))
end K42
namespace K42
open PySem PySem.Spec PyProof.Rows L2
def  dh(fl:Str->Str->Bool):Ev->Option Str:=(Tr (jX noV (i9 fl "passes" (va 0))) (gz 1) (af (cu (dJ (aT l8 (x1 (lsF (ah [2,3] (jX noV (va 1)) (iZ 2 (ai (aM 2) (ai (aM 3) bc))) tQ (bin2 (aE false) (va 3) (cI 0))))))) (af noO' aF) aF) aF) (rr (dJ (aT l8 (x1 (lsF (ah [2,3] (jX noV (va 1)) (iZ 2 (ai (aM 2) (ai (aM 3) bc))) tQ (bin2 (aE false) (va 3) (cI 0))))))) (Ed "Shut") jj))
def seqD_l(ds:T9):seqD (.lst ds)=!ds:=rfl
def BP(S:T5):cb [bg S]=!(.int (S.length:Int)):=by rw[bG,bg,seqD_l,Option.bind_some,length_map]
def n6(S:T5):pi (S.map D.int)=true/\eC (S.map D.int)<=0:=by
 induction S with
 |nil=>exact⟨rfl,UB _⟩
 |cons a S ih=>
  refine⟨?_,?_⟩
  .show(ph (.int a)&&pi (S.map D.int))=true;rw[ih.1];rfl
  .show max (vH (.int a)) (eC (S.map D.int))<=0;have:vH (.int a)=0:=rfl;have:=ih.2;omega
def tj:∀a b:T5,tL (a.map D.int) (b.map D.int)=decide (a=b)
 |[],[]=>rfl
 |[],b::bs=>rfl
 |a::as,[]=>rfl
 |a::as,b::bs=>by
  show((a==b)&&tL (as.map D.int) (bs.map D.int))=_;rw[tj as bs];by_cases h:a=b<;>by_cases h2:as=bs<;>simp[h,h2]
def Kb(a b:T5):aE false (bg a) (bg b)=!(.bl (decide (a=b))):=by
 unfold aE jx;rw[show(bK (bg a)&&bK (bg b)&&xf (l6 (bg a)) (l6 (bg b)))=false from rfl,if_neg (!4)];rw[if_pos (by
  show(true&&pi (a.map D.int)&&pi (b.map D.int)&&decide (eC (a.map D.int)+1<=50))=true;have:=(n6 a).2;rw[(n6 a).1,(n6 b).1,decide_eq_true (!3)];rfl)]
 show some (D.bl (tL (a.map D.int) (b.map D.int)))=_;rw[tj]
def tm:∀zs:T5,dX (zs.map D.int)=!zs
 |[]=>rfl
 |z::zs=>by
  show(dX (zs.map D.int)).bind (λxs=>!(z::xs))=_;rw[tm zs];rfl
def NS{n:Nat}(hn:n<=100):Ms [iN n]=!((List.range n).map λ(k:Nat)=>D.int (k:Int)):=by
 show(if C7 (n:Int)/\(n:Int)<1000000 then !(kR 0 (n:Int).toNat)else none)=_;rw[if_pos ⟨qy (!3),by omega⟩,Int.toNat_natCast,qz]
def Ri{ys zs:TK}{Y:Vv}{n:Nat}(hn:n<=100)(h:ys Y=![iN n]):aS (Cs ys) zs Y=!((List.range n).map λ(k:Nat)=>D.int (k:Int)):=by
 have:Cs ys Y=!((List.range n).map λ(k:Nat)=>D.int (k:Int)):=by
  unfold Cs;rw[h];exact NS hn
 unfold aS;rw[this]
def Kc(r:T1):au r=bg (r.map λ(k:Nat)=>(k:Int)):=by
 unfold au;rw[bg,List.map_map];rfl
def  R5(zs:T5):Prop:=24<zs.length\/(∃z∈zs,¬ (0<=z/\z<=(zs.length:Int)-1))\/¬zs.Nodup
def  Kd(f:Fn):Prop:=∀zs:T5,zs.length<=60->R5 zs->f [bg zs]=dp (.bl false)
def NT{w}(hw:dH w):Kd (aR 1 2 (kx w)):=λzs hn bad=>by
 have hs:ar 2 [bg zs]=[sn (bg zs),none]:=rfl;have nl:=BP zs;have hc:o8 (b7 (dJ (aT fN (x2 (va 0) (dU (x2 (cT "list") (cT "tuple"))))))) (ao (bin2 uj (cX (va 0)) (cD (.int 24)))) (vw [sn (bg zs),none])=!(decide (24<(zs.length:Int))):=by
  simp only[sB,sF,jz,MY,Az,F6,AE,show cV (bg zs)=some "list"from rfl,List.any_cons,List.any_nil,AF,nl,nt];rfl
 refine aq rfl ?_;rw[hs];unfold kx;by_cases h24:24<zs.length
 .rw[decide_eq_true (!3)]at hc;exact aw ((ifS_t hc).trans (cZ (evX_lf rfl rfl)))
 .rw[decide_eq_false (!3)]at hc;have hm:ah [1] (jX noV (va 0)) (aM 1) tQ (aL w (x3 (va 1) (cI 0) (bin2 bt (cX (va 0)) (cI 1)))) [!(bg zs),none]=!(zs.map λz=>.bl (decide (0<=z)&&decide (z<=(zs.length:Int)-1))):=by
   refine aB (xs:=zs) (mk:=D.int) (out:=λz=>.bl (decide (0<=z)&&decide (z<=(zs.length:Int)-1))) (by simp only[sB,b9];rfl) (λk hk=>?_) (lt_big (!3));simp only[sB,nl,hw k 0 ((zs.length:Int)-1)]
  refine q_if0 hc (cZ (evX_lf ?_ rfl));simp only[sB,uQ,hm,cH zs λz=>decide (0<=z)&&decide (z<=(zs.length:Int)-1)];cases ha:zs.all λz=>decide (0<=z)&&decide (z<=(zs.length:Int)-1)with
  |false=>rfl
  |true=>
   have nd:¬zs.Nodup:=by
    rcases bad with h|⟨z,h1,h2⟩|h
    .exact absurd h h24
    .have:=List.all_eq_true.mp ha z h1;rw[and_eq_true,decide_eq_true_eq,decide_eq_true_eq]at this;exact absurd this h2
    .exact h
   have s1:x8 (x1 (va 0)) [!(bg zs),none]=!((fP zs).map D.int):=by
    unfold x8 aS;have e:(x1 (va 0) [!(bg zs),none]).bind sk=!((fP zs).map D.int):=by
     show((dX (zs.map D.int)).bind λns=>if ns.length<64 then !((fP ns).map D.int)else none)=_;rw[tm,Option.bind_some,if_pos (!3)]
    dsimp only;rw[e]
   simp only[if_true,bin2_a];rw[nW s1,nW (Ri (n:=zs.length) (!3) (by simp only[sB,nl]))];show aE false (bg (fP zs)) (au (List.range zs.length))=_;rw[Kc,Kb,decide_eq_false λe=>nd ?_];have p:(fP zs).Perm zs:=List.mergeSort_perm _ _;refine p.nodup_iff.mp ?_;rw[e,List.Nodup,List.pairwise_map];exact List.pairwise_lt_range.imp λh=>by omega
noncomputable def  sh(ps:TR):Bool:=ps.any λp=>p.any λk=>decide (k.2=0)
def tq{N:D->TM}{Z:D->Ev->Option Str}{β:Type}{mk:β->D}{x:Str}{bad:β->Bool}{I:Ev->Prop}:∀(xs:List β)(Y:Ev),I Y->(∀b∈xs,∀Y,I Y->(Z (mk b) Y=if bad b=true then !x else none)/\(bad b=false->∃Y',N (mk b) Y=!(.nx Y')/\I Y'))->gd N Z (xs.map mk) Y=if xs.any bad=true then !x else none
 |[],_,_,_=>rfl
 |b::xs,Y,hI,hs=>by
  let⟨h1,h2⟩:=hs b Ul Y hI;rw[List.map_cons,List.any_cons];unfold gd;rw[h1];cases e:bad b with
  |true=>rfl
  |false=>
   let⟨Y',h3,h4⟩:=h2 e;rw[if_neg (!4),h3];exact tq xs Y' h4 λc hc=>hs c (Um _ hc)
def E7{G G':Ev->Option Str}{Y:Ev}{v:Option Str}(h:G Y=v)(h':G' Y=v):aS G G' Y=v:=by
 cases v with
 |some x=>exact Gm h
 |none=>exact(Gn h).trans h'
def  Ke(z:Zf):Prop:=∀ps:TR,Valid ps->z [ae ps]=if sh ps=true then !("Shut":Str)else none
def Kf{fl}(hfl:fl "Mill" "passes"=true):Ke (mf 1 4 (dh fl)):=λqs hv=>by
 have hs:ar 4 [ae qs]=[sn (ae qs),none,none,none]:=rfl;have hf:ji fl "passes" (ae qs)=!(av qs):=by simp[ji,ae,hfl]
 show dh fl (ar 4 [ae qs])=_;rw[hs];unfold dh;have hJ:jX noV (i9 fl "passes" (va 0)) [!(ae qs),none,none,none]=!(qs.map bH):=by
  simp only[sB,b9,we,hf];rfl
 have hcnd:∀p∈qs,dJ (aT l8 (x1 (lsF (ah [2,3] (jX noV (va 1)) (iZ 2 (ai (aM 2) (ai (aM 3) bc))) tQ (bin2 (aE false) (va 3) (cI 0)))))) (vw [sn (ae qs),sn (bH p),none,none])=!(p.any λk=>decide (k.2=0)):=λp hp=>by
  have hpl:p.length<=6:=(hv.p hp).2.1;have hm:ah [2,3] (jX noV (va 1)) (iZ 2 (ai (aM 2) (ai (aM 3) bc))) tQ (bin2 (aE false) (va 3) (cI 0)) [!(ae qs),!(bH p),none,none]=!(p.map λk=>.bl (decide (k.2=0))):=by
   refine aB (xs:=p) (mk:=dY) (out:=λk=>.bl (decide (k.2=0))) (by simp only[sB,b9];rfl) (λk hk=>?_) (Uq hpl (!4));show jw _ _ _ _ (.tup [.str (kd k.1),.int k.2])=_;simp
  simp only[sB,hm,nY p λk=>decide (k.2=0)]
 have key:=tq (N:=ig (gz 1) (af (cu (dJ (aT l8 (x1 (lsF (ah [2,3] (jX noV (va 1)) (iZ 2 (ai (aM 2) (ai (aM 3) bc))) tQ (bin2 (aE false) (va 3) (cI 0))))))) (af noO' aF) aF) aF)) (Z:=l9 (gz 1) (rr (dJ (aT l8 (x1 (lsF (ah [2,3] (jX noV (va 1)) (iZ 2 (ai (aM 2) (ai (aM 3) bc))) tQ (bin2 (aE false) (va 3) (cI 0))))))) (Ed "Shut") jj)) (mk:=bH) (x:="Shut") (bad:=λp=>p.any λk=>decide (k.2=0)) (I:=λY=>∃o1,Y=[sn (ae qs),o1,none,none]) qs [sn (ae qs),none,none,none] ⟨none,rfl⟩ (λp hp Y hI=>by
  let⟨o1,rfl⟩:=hI;have hc:=hcnd p hp;refine⟨?_,λhb=>⟨[sn (ae qs),sn (bH p),none,none],?_,⟨_,rfl⟩⟩⟩
  .show(rr _ _ _) [sn (ae qs),sn (bH p),none,none]=_;exact dC hc
  .rw[hb]at hc;show(af _ _) [sn (ae qs),sn (bH p),none,none]=_;exact(seqF_nx ((aW hc).trans rfl)).trans rfl)
 refine E7 ?_ ?_
 .unfold OG;rw[show eg [sn (ae qs),none,none,none]=[!(ae qs),none,none,none]from rfl,hJ];exact key
 .unfold OH;rw[show vw [sn (ae qs),none,none,none]=[!(ae qs),none,none,none]from rfl,hJ];exact key
def evFr_eq{F:TL}{Y:Ev}{d:D}(h:F (vw Y)=!d):c8 F Y=!((.deep,d),Y):=by unfold c8;rw[h];rfl
def isN_ok{o:Option Bool}{b:Bool}{i:Nat}{a:Addr}{Y:Vv}(h:o=!b)(e:cy Y i=!(.adr a)):qJ (sR o i a) Y=!(.bl b):=by
 subst h;show kj (Em i a b Y)=_;unfold Em;rw[e];simp only[if_true];rfl
end K42
namespace K42
open PySem PySem.Spec PyProof.Rows L2
def  bI(bS:Zf)(bq aZ:Fn)(cv:Zf):Ev->Option Str:=(Bk (rp (x1 (va 0)) bS) (bz (aL bq (x1 (va 0)))) (Bk (rr (ao (bin2 uj (cX (va 1)) (cD (.int 24)))) (Ed "BadPlan") jj) (cu (ao (bin2 uj (cX (va 1)) (cD (.int 24)))) (af noO' aF) aF) (rp (x3 (va 0) (aL aZ (x1 (va 1))) (va 1)) cv)))
def  iL(ax:Zf)(aC dQ:Fn):Ev->Option Str:=(Bk (rp (x2 (va 0) (va 1)) ax) (bz (aL aC (x2 (va 0) (va 1)))) (rr (o8 (b7 (dJ (aL dQ (x1 (va 2))))) (ao (bin2 (aE true) (cX (va 2)) (cX (va 1))))) (Ed "BadRow") jj))
def  vf(ax:Zf):Ev->Option Str:=(rp (x2 (va 0) (va 1)) ax)
def  di:Ev->Option Str:=(rr (ao (bin2 (aE true) (cX (va 0)) (cX (va 1)))) (Ed "BadPlan") jj)
def  jY(ax:Zf)(aC:Fn)(bT:Zf):Ev->Option Str:=(Bk (rp (x2 (va 0) (va 1)) ax) (bz (aL aC (x2 (va 0) (va 1)))) (Bk (rp (x2 (va 2) (va 3)) ax) (bz (aL aC (x2 (va 2) (va 3)))) (rp (x2 (va 1) (va 3)) bT)))
def  n9(ck:Zf):Ev->Option Str:=(rp (x2 (va 0) (va 1)) ck)
noncomputable abbrev bp:Option Str:=!("BadPlan":Str)
noncomputable abbrev bs:Option Str:=!("Shut":Str)
noncomputable abbrev br:Option Str:=!("BadRow":Str)
def  d8(ws:List (T5)):D:=.lst (ws.map wZ)
noncomputable def  l0(ps:TR):Lt:=⟨1,0,ps.map λ_=>0⟩
def NU{ps:TR}(hv:Valid ps):One ps (l0 ps):=by
 refine⟨rfl,rfl,by simp[l0],λq hq=>?_⟩;have h1:=List.of_mem_zip hq;let⟨_,_,e⟩:=Ut.mp h1.1;have:=(hv.p (show q.2∈ps by simpa using h1.2)).1;omega
def E8{ps:TR}(hv:Valid ps)(h:sh ps=false):Wide ps:=λp hp k hk=>by
 have h1:(p.any λk=>decide (k.2=0))=false:=Bool.eq_false_iff.mpr (List.any_eq_false.mp h p hp);have h2:=List.any_eq_false.mp h1 k hk;rw[decide_eq_true_eq]at h2;have:=((hv.p hp).2.2 k hk).1;omega
def qV{ps:TR}(h:Wide ps):sh ps=false:=
 List.any_eq_false.mpr λp hp=>by
  rw[List.any_eq_false.mpr λk hk=>by have:=h p hp k hk;simp only[decide_eq_true_eq];omega];exact Uj
def  BQ(f:Fn):Prop:=∀(ps:TR)(ws:List (T5)),ws.length<=24->f [d8 ws]=dp (lsD true (List.replicate ws.length (l0 ps)))
def Kg:BQ (aR 1 2 de):=λps ws h24=>by
 have hm:ah [1] (jX noV (va 0)) (aM 1) tQ (dU (x2 (cI 1) (cI 0))) [!(d8 ws),none]=!((List.replicate ws.length (l0 ps)).map eZ):=by
  rw[List.map_replicate,<-List.map_const'];refine aB (xs:=ws) (mk:=wZ) (out:=λ_=>eZ (l0 ps)) (by simp only[sB,b9];rfl) (λl hl=>?_) (lt_big (!3));unfold eZ l0;simp
 refine aq rfl ?_;show de [sn (d8 ws),none]=_;unfold de;exact cZ (evX_lfs (d:=lsD true (List.replicate ws.length (l0 ps))) (by simp only[vw_some,vw_none,vw_nil,lsF_a,hm];rfl) rfl (by simp only[vw_some,vw_none,vw_nil,hm]) (wE _))
def NV{ps:TR}(hw:Wide ps)(w:T5):yz ps (l0 ps) w=dg ps 0 w:=by
 unfold yz;show(dg ps 0 w&&_)=_;cases h:dg ps 0 w with
 |false=>rfl
 |true=>
  let⟨_,k⟩:=tf h;exact wA (l:=⟨1,0,wI w⟩) ((show One ps ⟨1,0,wI w⟩from⟨rfl,rfl,k⟩).ok hw)
def  wL(ps:TR)(ws:List (T5)):Bool:=decide (ws.length<=24)&&ws.all λw=>dg ps 0 w
def wM{α β:Type}(a:α)(p:α->β->Bool):∀ws:List β,((List.replicate ws.length a).zip ws).all (λq=>p q.1 q.2)=ws.all (p a)
 |[]=>rfl
 |w::ws=>by
  rw[length_cons,List.replicate_succ,List.zip_cons_cons,List.all_cons,List.all_cons,wM a p ws]
def  yq(z:Zf):Prop:=∀ps,Valid ps->(∀d,sh ps=true->z [ae ps,d]=bs)/\(sh ps=false->∀ws,ws.length<=1000->z [ae ps,d8 ws]=if wL ps ws=true then none else bp)
def Kh{zw wi lo zp}(h1:Ke zw)(h2:ED wi)(h3:BQ lo)(h4:BN zp):yq (mf 2 2 (bI zw wi lo zp)):=λps hv=>by
 have e1:=h1 ps hv;refine⟨λd hs=>?_,λhs ws hn=>?_⟩
 .show bI zw wi lo zp [sn (ae ps),sn d]=_;unfold bI;refine jd ?_;rw[hs]at e1;exact e1
 .show bI zw wi lo zp [sn (ae ps),sn (d8 ws)]=_;unfold bI;have hw:=E8 hv hs;rw[hs]at e1;refine(nP (Y':=[sn (ae ps),sn (d8 ws)]) e1 (bV (d:=.non) ?_)).trans ?_
  .simp only[vw_some,vw_nil,clF_a,consX_a,nilX_a,va_a,shAt_0,Option.bind_some,h2 ps hv hw,valO_some]
  have hc:ao (bin2 uj (cX (va 1)) (cD (.int 24))) (vw [sn (ae ps),sn (d8 ws)])=!(decide ((24:Int)<(ws.length:Int))):=by
   simp only[vw_some,vw_nil,testB_a,bin2_a,biF_a,consX_a,nilX_a,va_a,shAt_1,Az,Option.bind_some,bG,show seqD (d8 ws)=some (ws.map wZ)from rfl,length_map,nt,asB_bl]
  unfold wL;by_cases h24:ws.length<=24
  .rw[decide_eq_false (!3)]at hc;rw[decide_eq_true h24,Bool.true_and];refine(nP (Y':=[sn (ae ps),sn (d8 ws)]) ((dC hc).trans rfl) ((aW hc).trans rfl)).trans ?_;have e4:=h4 ps (List.replicate ws.length (l0 ps)) ws hv (by rw[List.length_replicate];exact h24) λl hl=>by
    rw[List.eq_of_mem_replicate hl];exact(NU hv).ok hw
   unfold BM at e4;rw[List.length_replicate,decide_eq_true rfl,Bool.true_and,wM (l0 ps) (yz ps) ws,show yz ps (l0 ps)=λw=>dg ps 0 w from funext (NV hw)]at e4;show((x3 (va 0) (aL lo (x1 (va 1))) (va 1)) (vw [sn (ae ps),sn (d8 ws)])).bind zp=_;simp only[vw_some,vw_nil,consX_a,nilX_a,va_a,shAt_0,shAt_1,clF_a,Option.bind_some,h3 ps ws h24,valO_some];exact e4
  .rw[decide_eq_true (!3)]at hc;rw[decide_eq_false h24,Bool.false_and];exact jd ((dC hc).trans rfl)
def jE(ls:List Lt):plD true ls=d8 (ls.map λl=>wN l.w):=by
 unfold d8;rw[List.map_map];show D.lst _=D.lst _;congr 1;exact List.map_congr_left λl _=>(NQ l.w).symm
def Ki{ps:TR}{ls:List Lt}(P:Pln ps ls):wL ps (ls.map λl=>wN l.w)=true:=by
 unfold wL;rw[and_eq_true,List.all_eq_true];refine⟨decide_eq_true (by rw[length_map];exact P.n),λw hw=>?_⟩;let⟨l,hl,rfl⟩:=Ut.mp hw;exact yo (P.o l hl).w
def qW{z}(h:yq z){ps:TR}{ls:List Lt}(P:Pln ps ls):z [ae ps,plD true ls]=none:=by
 rw[jE,(h ps P.v).2 (qV P.w) _ (by rw[length_map];have:=P.n;omega),Ki P];rfl
def  Kj(zl:Zf)(ir:Fn)(z:Zf):Prop:=(∀m d e x,zl [m,d]=!x->z [m,d,e]=!x)/\∀ps ls zs b,Pln ps ls->ir [bg zs]=dp (.bl b)->z [ae ps,plD true ls,bg zs]=if b=true/\zs.length=ls.length then none else br
def Kk{zl lw ir}(h1:yq zl)(h2:u7 lw):Kj zl ir (mf 3 6 (iL zl lw ir)):=by
 refine⟨λm d e x h=>jd h,λps ls zs b P h=>?_⟩;show iL zl lw ir [sn (ae ps),sn (plD true ls),sn (bg zs),none,none,none]=_;unfold iL;refine(nP (Y':=[sn (ae ps),sn (plD true ls),sn (bg zs),none,none,none]) (qW h1 P) (bV (d:=.non) ?_)).trans ?_
 .simp only[vw_some,vw_none,vw_nil,clF_a,consX_a,nilX_a,va_a,shAt_0,shAt_1,Option.bind_some,h2 true ps ls P.v P.w P.n P.o,valO_some]
 have hc:o8 (b7 (dJ (aL ir (x1 (va 2))))) (ao (bin2 (aE true) (cX (va 2)) (cX (va 1)))) (vw [sn (ae ps),sn (plD true ls),sn (bg zs),none,none,none])=!(not (decide (b=true/\zs.length=ls.length))):=by
  have i1:decide ((zs.length:Int)=(ls.length:Int))=decide (zs.length=ls.length):=by rw[decide_eq_decide];omega
  simp only[vw_some,vw_none,vw_nil,sF,notQ_a,trF_a,clF_a,testB_a,bin2_a,biF_a,consX_a,nilX_a,va_a,shAt_s,shAt_0,shAt_1,Option.bind_some,h,valO_some,truD_bl,BP,bG,show seqD (plD true ls)=some (ls.map λl=>wD l.w)from rfl,length_map,iB,asB_bl,i1];cases b<;>simp[i1]
 rw[dC hc];by_cases q:b=true/\zs.length=ls.length
 .rw[decide_eq_true q,if_pos q];rfl
 .rw[decide_eq_false q,if_neg q];rfl
def  Kl(z:Zf):Prop:=∀ds es:T9,z [.lst ds,.lst es]=if ds.length=es.length then none else bp
def Km:Kl (mf 2 2 di):=λds es=>by
 show di [sn (.lst ds),sn (.lst es)]=_;unfold di;have hc:ao (bin2 (aE true) (cX (va 0)) (cX (va 1))) (vw [sn (.lst ds),sn (.lst es)])=!(not (decide (ds.length=es.length))):=by
  have i1:decide ((ds.length:Int)=(es.length:Int))=decide (ds.length=es.length):=by rw[decide_eq_decide];omega
  simp only[vw_some,vw_nil,testB_a,bin2_a,biF_a,consX_a,nilX_a,va_a,shAt_0,shAt_1,Option.bind_some,bG,seqD_l,iB,asB_bl,i1,if_true]
 rw[dC hc];by_cases q:ds.length=es.length
 .rw[decide_eq_true q,if_pos q];rfl
 .rw[decide_eq_false q,if_neg q];rfl
def  vg(zl z:Zf):Prop:=∀a b,z [a,b]=zl [a,b]
def Kn{zl}:vg zl (mf 2 6 (vf zl)):=λa b=>rfl
def E9{zl zc}(h:vg zl zc):vg zl (mf 2 8 (n9 zc)):=λa b=>h a b
def  BR(zl z:Zf):Prop:=(∀m d n e x,zl [m,d]=!x->z [m,d,n,e]=!x)/\(∀ps ls n e x,Pln ps ls->zl [n,e]=!x->z [ae ps,plD true ls,n,e]=!x)/\
 ∀p1 l1 p2 l2,Pln p1 l1->Pln p2 l2->z [ae p1,plD true l1,ae p2,plD true l2]=if l1.length=l2.length then none else bp
def Fa{zl lw zc}(h1:yq zl)(h2:u7 lw)(h3:Kl zc):BR zl (mf 4 6 (jY zl lw zc)):=by
 have go:∀ps ls (n e:D),Pln ps ls->jY zl lw zc [sn (ae ps),sn (plD true ls),sn n,sn e,none,none]=Bk (rp (x2 (va 2) (va 3)) zl) (bz (aL lw (x2 (va 2) (va 3)))) (rp (x2 (va 1) (va 3)) zc) [sn (ae ps),sn (plD true ls),sn n,sn e,none,none]:=λps ls n e P=>by
  unfold jY;refine nP (qW h1 P) (bV (d:=.non) ?_);simp only[vw_some,vw_none,vw_nil,clF_a,consX_a,nilX_a,va_a,shAt_0,shAt_1,Option.bind_some,h2 true ps ls P.v P.w P.n P.o,valO_some]
 refine⟨λm d n e x h=>jd h,λps ls n e x P h=>(go ps ls n e P).trans (jd h),λp1 l1 p2 l2 P Q=>(go p1 l1 _ _ P).trans ((nP (qW h1 Q) (bV (d:=.non) ?_)).trans ?_)⟩
 .simp only[vw_some,vw_none,vw_nil,clF_a,consX_a,nilX_a,va_a,shAt_s,shAt_0,shAt_1,Option.bind_some,h2 true p2 l2 Q.v Q.w Q.n Q.o,valO_some]
 .have e:=h3 (l1.map λl=>wD l.w) (l2.map λl=>wD l.w);rw[length_map,length_map]at e;exact e
end K42
namespace K42
open PySem PySem.Spec PyProof.Rows L2
def  dM(cj dF cP gp:Fn)(dv ck bW dR:Zf)(tb:Str->Str->Option Bool):TM:=(af (aD 6 (fH (cS "none"))) (af (sO (af (cu (ao (bin2 (aE false) (va 0) (cI 0))) (af (bz (aL cj (x3 (va 1) (va 2) (va 5)))) aF) (af (cu (ao (bin2 (aE false) (va 0) (cI 1))) (af (bz (aL dF (x2 (va 1) (va 2)))) aF) (af (cu (ao (bin2 (aE false) (va 0) (cI 2))) (af (bz (aL cP (x2 (va 1) (va 2)))) aF) (af (bz (aL gp (x4 (va 1) (va 2) (va 3) (va 4)))) aF)) aF)) aF)) aF) (rr (ao (bin2 (aE false) (va 0) (cI 0))) (rp (x3 (va 1) (va 2) (va 5)) dv) (rr (ao (bin2 (aE false) (va 0) (cI 1))) (rp (x2 (va 1) (va 2)) ck) (rr (ao (bin2 (aE false) (va 0) (cI 2))) (rp (x2 (va 1) (va 2)) bW) (rp (x4 (va 1) (va 2) (va 3) (va 4)) dR)))) (K2 (λx=>tb x "MillError") (λx=>Ep 7 (λa=>(af (aD 8 (c8 (qx (x3 (qJ (sR (tb x "Shut") 7 a)) (qJ (sR (tb x "BadPlan") 7 a)) (qJ (sR (tb x "BadRow") 7 a)))))) (af (aD 6 (c8 (qJ (cS "odd")))) (af (aD 9 (c8 (qJ (sR ((tb x "BadWord").bind λb=>(((tb x "BadMill").bind λb=>(((tb x "BadLetters").bind λb=>(((tb x "BadCode").bind λb=>(((tb x "BadCount").bind λb=>(((tb x "NoRow").bind λb=>(((tb x "BadPrices").bind λb=>((!false)).bind λd=>!(b||d))).bind λd=>!(b||d))).bind λd=>!(b||d))).bind λd=>!(b||d))).bind λd=>!(b||d))).bind λd=>!(b||d))).bind λd=>!(b||d)) 7 a)))) (af (cu (kh (dJ (sR (tb x "ValueError") 7 a)) (kh (ao (bin2 (aE false) (qr Ae (va 8) (cB true)) (cI 1))) (b7 (dJ (va 9))))) (af (aD 6 (c8 (qJ (bin2 ixD (lsF (dpF (x3 (cS "shut") (cS "plan") (cS "row")))) (qr Af (va 8) (cB true)))))) aF) aF) aF)))))) (λ_ _=>none))) (af (yy 6) aF)))
def  jZ:TM:=(af (cu (dJ (bin2 ixD (va 1) (cI 0))) (mh (fH (cS "shut"))) aF) (af (cu (dJ (bin2 ixD (va 1) (cI 1))) (mh (fH (cS "plan"))) aF) (af (cu (kh (ao (bin2 (aE false) (va 0) (cI 0))) (dJ (bin2 ixD (va 1) (cI 2)))) (mh (fH (cS "row"))) aF) (af (cu (kh (ao (bin2 (aE false) (va 0) (cI 3))) (dJ (bin2 ixD (va 1) (cI 3)))) (mh (fH (cS "shut"))) aF) (af (cu (kh (ao (bin2 (aE false) (va 0) (cI 3))) (dJ (bin2 ixD (va 1) (cI 4)))) (mh (fH (cS "plan"))) aF) (mh (fH (cS "none"))))))))
noncomputable def  vh:T3:=["BadMill","BadLate","BadWord","BadCode","BadSize","BadLetters","BadPlan","BadCount","BadRow","BadPrices","NoRow","Shut"]
def Ko{o:Option Bool}{b:Bool}{i:Nat}{a:Addr}{Y:Vv}(h:o=!b)(e:cy Y i=!(.adr a)):sR o i a Y=!(.bl b):=by
 subst h;show Em i a b Y=_;unfold Em;rw[e];simp only[if_true]
noncomputable def  tn(k:Nat):Str:=[("shut":Str),"plan","row"].getD k ""
def vi{o1 o2 o3 o4 o5:Option Bool}{k:Nat}{d0 d1 d2 d3 d4 d5:D}(hk:k<3)(h1:o1=!(decide (k=0)))(h2:o2=!(decide (k=1)))(h3:o3=!(decide (k=2)))(h4:o4=!false)(h5:o5=!true):
  Ep 7 (λa=>(af (aD 8 (c8 (qx (x3 (qJ (sR o1 7 a)) (qJ (sR o2 7 a)) (qJ (sR o3 7 a)))))) (af (aD 6 (c8 (qJ (cS "odd")))) (af (aD 9 (c8 (qJ (sR o4 7 a)))) (af (cu (kh (dJ (sR o5 7 a)) (kh (ao (bin2 (aE false) (qr Ae (va 8) (cB true)) (cI 1))) (b7 (dJ (va 9))))) (af (aD 6 (c8 (qJ (bin2 ixD (lsF (dpF (x3 (cS "shut") (cS "plan") (cS "row")))) (qr Af (va 8) (cB true)))))) aF) aF) aF))))) [sn d0,sn d1,sn d2,sn d3,sn d4,sn d5,dp (.str "none"),none,none,none]=
   ![sn d0,sn d1,sn d2,sn d3,sn d4,sn d5,dp (.str (tn k)),none,dp (.lst [.bl (decide (k=0)),.bl (decide (k=1)),.bl (decide (k=2))]),dp (.bl false)]:=JC λa=>by
 refine⟨[sn d0,sn d1,sn d2,sn d3,sn d4,sn d5,dp (.str (tn k)),sn (.adr a),dp (.lst [.bl (decide (k=0)),.bl (decide (k=1)),.bl (decide (k=2))]),dp (.bl false)],?_,rfl⟩
 refine q_set (evFr_eq (d:=.lst [.bl (decide (k=0)),.bl (decide (k=1)),.bl (decide (k=2))]) ?_) (q_set (evFr_eq (d:=.str "odd") rfl) (q_set (evFr_eq (isN_ok h4 rfl)) ((seqF_nx ((ifS_t ?_).trans (q_set (evFr_eq (d:=.str (tn k)) ?_) rfl))).trans rfl)))
 .rw[MZ,ym,consX_a,isN_ok h1 rfl,Option.bind_some,n5,consX_a,isN_ok h2 rfl,Option.bind_some,iH,consX_a,isN_ok h3 rfl];rfl
 .rw[andQ_a,trF_a,Ko h5 rfl];rcases(show k=0\/k=1\/k=2 by omega)with rfl|rfl|rfl<;>rfl
 .rcases(show k=0\/k=1\/k=2 by omega)with rfl|rfl|rfl<;>rfl
noncomputable def  nk(x:Str):Nat:=if x=("Shut":Str)then 0 else if x=("BadPlan":Str)then 1 else 2
def  R6(x:Str):Prop:=x=("Shut":Str)\/x=("BadPlan":Str)\/x=("BadRow":Str)
abbrev NW:Str->Ev->Option Ev:=K2 (λx=>pM vh x "MillError") (λx=>Ep 7 (λa=>(af (aD 8 (c8 (qx (x3 (qJ (sR (pM vh x "Shut") 7 a)) (qJ (sR (pM vh x "BadPlan") 7 a)) (qJ (sR (pM vh x "BadRow") 7 a)))))) (af (aD 6 (c8 (qJ (cS "odd")))) (af (aD 9 (c8 (qJ (sR ((pM vh x "BadWord").bind λb=>(((pM vh x "BadMill").bind λb=>(((pM vh x "BadLetters").bind λb=>(((pM vh x "BadCode").bind λb=>(((pM vh x "BadCount").bind λb=>(((pM vh x "NoRow").bind λb=>(((pM vh x "BadPrices").bind λb=>((!false)).bind λd=>!(b||d))).bind λd=>!(b||d))).bind λd=>!(b||d))).bind λd=>!(b||d))).bind λd=>!(b||d))).bind λd=>!(b||d))).bind λd=>!(b||d)) 7 a)))) (af (cu (kh (dJ (sR (pM vh x "ValueError") 7 a)) (kh (ao (bin2 (aE false) (qr Ae (va 8) (cB true)) (cI 1))) (b7 (dJ (va 9))))) (af (aD 6 (c8 (qJ (bin2 ixD (lsF (dpF (x3 (cS "shut") (cS "plan") (cS "row")))) (qr Af (va 8) (cB true)))))) aF) aF) aF)))))) (λ_ _=>none)
def Kp{x:Str}(hx:R6 x){d0 d1 d2 d3 d4 d5:D}:NW x [sn d0,sn d1,sn d2,sn d3,sn d4,sn d5,dp (.str "none"),none,none,none]=![sn d0,sn d1,sn d2,sn d3,sn d4,sn d5,dp (.str (tn (nk x))),none,dp (.lst [.bl (decide (nk x=0)),.bl (decide (nk x=1)),.bl (decide (nk x=2))]),dp (.bl false)]:=by
 rcases hx with rfl|rfl|rfl
 .exact(congrFun (uY (!1)) _).trans (vi (k:=0) (!4) (!1) (!1) (!1) (!1) (!1))
 .exact(congrFun (uY (!1)) _).trans (vi (k:=1) (!4) (!1) (!1) (!1) (!1) (!1))
 .exact(congrFun (uY (!1)) _).trans (vi (k:=2) (!4) (!1) (!1) (!1) (!1) (!1))
noncomputable def  wz(ze zc zi zp:Zf)(w:Nat)(m p m2 p2 c:D):Option Str:=if w=0 then ze [m,p,c]else if w=1 then zc [m,p]else if w=2 then zi [m,p]else zp [m,p,m2,p2]
def  wf(en cl iq pa:Fn)(w:Nat)(m p m2 p2 c:D):Option Sl:=if w=0 then en [m,p,c]else if w=1 then cl [m,p]else if w=2 then iq [m,p]else pa [m,p,m2,p2]
structure sTold(ze zc zi zp:Zf)(en cl iq pa f:Fn):Prop where
 x:∀w m p m2 p2 c x,w<=3->R6 x->wz ze zc zi zp w m p m2 p2 c=!x->f [iN w,m,p,m2,p2,c]=dp (.str (tn (nk x)))
 no:∀w m p m2 p2 c v,w<=3->wz ze zc zi zp w m p m2 p2 c=none->wf en cl iq pa w m p m2 p2 c=!v->f [iN w,m,p,m2,p2,c]=dp (.str "none")
def Kq{ze zc zi zp en cl iq pa}:sTold ze zc zi zp en cl iq pa (aR 6 10 (dM en cl iq pa ze zc zi zp (pM vh))) where
 x:=λw m p m2 p2 c x hw hx h=>aq rfl (by
  show dM en cl iq pa ze zc zi zp (pM vh) [sn (iN w),sn m,sn p,sn m2,sn p2,sn c,none,none,none,none]=_;unfold dM;refine q_set (evX_lf (d:=.str "none") rfl rfl) (eF (JJ (x:=x) ?_ (Kp hx)) rfl);rcases(show w=0\/w=1\/w=2\/w=3 by omega)with rfl|rfl|rfl|rfl
  .exact(dC (c:=true) rfl).trans h
  .exact(dC (c:=false) rfl).trans ((dC (c:=true) rfl).trans h)
  .exact(dC (c:=false) rfl).trans ((dC (c:=false) rfl).trans ((dC (c:=true) rfl).trans h))
  .exact(dC (c:=false) rfl).trans ((dC (c:=false) rfl).trans ((dC (c:=false) rfl).trans h)))
 no:=λw m p m2 p2 c v hw h e=>aq rfl (by
  show dM en cl iq pa ze zc zi zp (pM vh) [sn (iN w),sn m,sn p,sn m2,sn p2,sn c,none,none,none,none]=_;unfold dM;have cf:∀(f:Fn)(xs:TK)(Y:Vv)(ds:T9),xs Y=!ds->f ds=!v->aL f xs Y=!v.2:=λf xs Y ds h1 h2=>by
   rw[clF_a,h1,Option.bind_some,h2];rfl
  refine q_set (evX_lf (d:=.str "none") rfl rfl) (eF (JI (Y':=[sn (iN w),sn m,sn p,sn m2,sn p2,sn c,dp (.str "none"),none,none,none]) ?_ ?_) rfl)
  .rcases(show w=0\/w=1\/w=2\/w=3 by omega)with rfl|rfl|rfl|rfl
   .exact(dC (c:=true) rfl).trans h
   .exact(dC (c:=false) rfl).trans ((dC (c:=true) rfl).trans h)
   .exact(dC (c:=false) rfl).trans ((dC (c:=false) rfl).trans ((dC (c:=true) rfl).trans h))
   .exact(dC (c:=false) rfl).trans ((dC (c:=false) rfl).trans ((dC (c:=false) rfl).trans h))
  .rcases(show w=0\/w=1\/w=2\/w=3 by omega)with rfl|rfl|rfl|rfl
   .exact(seqF_nx ((ifS_t rfl).trans (jV (d:=v.2) (cf _ _ _ _ rfl e) rfl))).trans rfl
   .exact(seqF_nx ((aW rfl).trans ((seqF_nx ((ifS_t rfl).trans (jV (d:=v.2) (cf _ _ _ _ rfl e) rfl))).trans rfl))).trans rfl
   .exact(seqF_nx ((aW rfl).trans ((seqF_nx ((aW rfl).trans ((seqF_nx ((ifS_t rfl).trans (jV (d:=v.2) (cf _ _ _ _ rfl e) rfl))).trans rfl))).trans rfl))).trans rfl
   .exact(seqF_nx ((aW rfl).trans ((seqF_nx ((aW rfl).trans ((seqF_nx ((aW rfl).trans (jV (d:=v.2) (cf _ _ _ _ rfl e) rfl))).trans rfl))).trans rfl))).trans rfl)
noncomputable def  Kr(w:Nat)(b:Nat->Bool):Str:=if b 0 then"shut"else if b 1 then"plan"else if w=0/\b 2 then"row"else if w=3/\b 3 then"shut"else if w=3/\b 4 then"plan"else"none"
noncomputable def  OO(b:Nat->Bool):D:=.lst ((List.range 6).map λk=>.bl (b k))
def  Ks(f:Fn):Prop:=∀(w:Nat)(b:Nat->Bool),w<=3->f [iN w,OO b]=dp (.str (Kr w b))
def NX:Ks (aR 2 2 jZ):=λw b hw=>aq rfl (by
 show jZ [sn (iN w),sn (.lst [.bl (b 0),.bl (b 1),.bl (b 2),.bl (b 3),.bl (b 4),.bl (b 5)])]=_;unfold jZ Kr;generalize b 0=b0,b 1=b1,b 2=b2,b 3=b3,b 4=b4,b 5=b5;rcases(show w=0\/w=1\/w=2\/w=3 by omega)with rfl|rfl|rfl|rfl<;>cases b0<;>cases b1<;>cases b2<;>cases b3<;>cases b4<;>rfl)
end K42
namespace K42
open PySem PySem.Spec PyProof.Rows L2
def  iM:TM:=(af (aD 2 (fH (bin2 aI (va 1) (cX (va 0))))) (af (aD 3 (fH (bin2 aI (bin2 bi (va 1) (cI 7)) (cX (bin2 ixD (va 0) (va 2)))))) (af (aD 4 (aY (Ot (x1 (bin2 ixD (va 0) (va 2)))) (xZ (x1 (bin2 ixD (va 0) (va 2)))) (pF (x1 (bin2 ixD (va 0) (va 2)))))) (af (cg 4 (va 3) (aY (dU (x2 (bin2 ixD (bin2 ixD (va 4) (va 3)) (cI 0)) (cI 0))) noV (yw (x2 (frX (bin2 ixD (bin2 ixD (va 4) (va 3)) (cI 0)) noV noV) (frX (cI 0) noV noV))))) (mh (aY (bin2 ay (bin2 ay (!19) (dU (x1 (aT bO (x1 (va 4)))))) (slF (va 0) (partF (bin2 ay (va 2) (cI 1))) noP)) (catF (aS (bin2 ay (!19) (dU (x1 (aT bO (x1 (va 4)))))) (lsF (catF (!19) (dU (x1 (aT bO (x1 (va 4)))))))) (slF (va 0) (partF (bin2 ay (va 2) (cI 1))) noP)) noV))))))
def  fR:TM:=(af (aD 3 (fH (bin2 aI (va 2) (cX (va 1))))) (af (aD 4 (fH (bin2 ixD (va 1) (va 3)))) (af (aD 5 (fH (bin2 aI (bin2 bi (va 2) (cI 9)) (cX (va 0))))) (af (aD 6 (aY (cX (bin2 ixD (va 0) (va 5))) noV (pF (x1 (bin2 ixD (va 0) (va 5)))))) (af (aD 7 (fH (bin2 aI (bin2 bi (va 2) (cI 36)) (bin2 CZ (cI 10) (cI 9))))) (af (aD 8 (fH (bin2 ixD (lsF (dpF (x4 (va 6) (ngF (cI 1)) (bin2 ay (va 6) (va 7)) (bin2 bt (ngF (cI 1)) (va 7))))) (bin2 aI (bin2 bi (va 2) (cI 45)) (cI 4))))) (af (cu (ao (bin2 (aE false) (bin2 aI (bin2 bi (va 2) (cI 180)) (cI 3)) (cI 0))) (af (aD 4 (aY (bin2 ay (!12) (slF (va 4) (partF (bin2 ay (va 5) (cI 1))) noP)) (catF (!12) (slF (va 4) (partF (bin2 ay (va 5) (cI 1))) noP)) noV)) aF) (af (cu (ao (bin2 (aE false) (bin2 aI (bin2 bi (va 2) (cI 180)) (cI 3)) (cI 1))) (af (aD 4 (aY (bin2 ay (bin2 ay (!12) (dU (x1 (cI 0)))) (slF (va 4) (partF (va 5)) noP)) (catF (aS (bin2 ay (!12) (dU (x1 (cI 0)))) (lsF (catF (!12) (dU (x1 (cI 0)))))) (slF (va 4) (partF (va 5)) noP)) noV)) aF) (af (aD 4 (aY (bin2 ay (bin2 ay (!12) (dU (x1 (va 8)))) (slF (va 4) (partF (bin2 ay (va 5) (cI 1))) noP)) (catF (aS (bin2 ay (!12) (dU (x1 (va 8)))) (lsF (catF (!12) (dU (x1 (va 8)))))) (slF (va 4) (partF (bin2 ay (va 5) (cI 1))) noP)) noV)) aF)) aF)) (mh (aY (bin2 ay (lsF (catF (slF (va 1) noP (partF (va 3))) (lsF (dpF (x1 (va 4)))))) (slF (va 1) (partF (bin2 ay (va 3) (cI 1))) noP)) (catF (aS (lsF (catF (slF (va 1) noP (partF (va 3))) (lsF (dpF (x1 (va 4)))))) (lsF (catF (slF (va 1) noP (partF (va 3))) (lsF (dpF (x1 (va 4))))))) (slF (va 1) (partF (bin2 ay (va 3) (cI 1))) noP)) noV)))))))))
def  iO:TM:=(af (aD 2 (fH (bin2 aI (va 1) (cX (va 0))))) (af (cu (ao (bin2 (aE false) (bin2 aI (bin2 bi (va 1) (cI 9)) (cI 4)) (cI 0))) (mh (aY (bin2 ay (!19) (slF (va 0) (partF (bin2 ay (va 2) (cI 1))) noP)) (catF (!19) (slF (va 0) (partF (bin2 ay (va 2) (cI 1))) noP)) noV)) aF) (af (cu (ao (bin2 (aE false) (bin2 aI (bin2 bi (va 1) (cI 9)) (cI 4)) (cI 1))) (af (aD 3 (fH (bin2 ixD (va 0) (bin2 aI (bin2 bi (va 1) (cI 36)) (cX (va 0)))))) (mh (aY (bin2 ay (lsF (catF (!19) (lsF (dpF (x1 (va 3)))))) (slF (va 0) (partF (va 2)) noP)) (catF (aS (lsF (catF (!19) (lsF (dpF (x1 (va 3)))))) (lsF (catF (!19) (lsF (dpF (x1 (va 3))))))) (slF (va 0) (partF (va 2)) noP)) noV))) aF) (af (cu (ao (bin2 (aE false) (bin2 aI (bin2 bi (va 1) (cI 9)) (cI 4)) (cI 2))) (mh (aY (bin2 ay (lsF (catF (!19) (lsF (dpF (x1 (cX (va 0))))))) (slF (va 0) (partF (bin2 ay (va 2) (cI 1))) noP)) (catF (aS (lsF (catF (!19) (lsF (dpF (x1 (cX (va 0))))))) (lsF (catF (!19) (lsF (dpF (x1 (cX (va 0)))))))) (slF (va 0) (partF (bin2 ay (va 2) (cI 1))) noP)) noV)) aF) (mh (aY (bin2 ay (lsF (catF (!19) (lsF (dpF (x1 (ngF (cI 1))))))) (slF (va 0) (partF (bin2 ay (va 2) (cI 1))) noP)) (catF (aS (lsF (catF (!19) (lsF (dpF (x1 (ngF (cI 1))))))) (lsF (catF (!19) (lsF (dpF (x1 (ngF (cI 1)))))))) (slF (va 0) (partF (bin2 ay (va 2) (cI 1))) noP)) noV))))))
def vj{a b:T9}(h:a.length+b.length<100):ay (.tup a) (.tup b)=!(.tup (a++b)):=by
 show(if a.length+b.length<big then !(D.tup (a++b))else none)=_;rw[if_pos (Nat.lt_trans h (!4))]
def og{a b:T9}(h:a.length+b.length<100):Ir (.lst a) (.lst b)=!(a++b):=by
 show bw (!(a++b))=_;exact cR (by rw[length_append];exact Nat.lt_trans h (!4))
section
variable{β:Type}{f:β->D}{xs:List β}{y:β}{A B C E:Fv}{Y:Vv}{t u:Nat}
def wO(h:A Y=!(.tup (xs.map f)))(ht:B Y=!(iN t)):slF A noP (partF B) Y=!(.tup ((xs.take t).map f)):=by
 unfold slF aS;rw[show l7 A noP (partF B) Y=some (.tup ((xs.take t).map f))by
  unfold l7;simp only[h,wg,mw,ht,iA,Option.bind_some];rw[nK]]
def wP(h:A Y=!(.tup (xs.map f)))(ht:B Y=!(iN t)):slF A (partF B) noP Y=!(.tup ((xs.drop t).map f)):=by
 unfold slF aS;rw[show l7 A (partF B) noP Y=some (.tup ((xs.drop t).map f))by
  unfold l7;simp only[h,wg,mw,ht,iA,Option.bind_some];rw[nJ]]
def oh(h:A Y=!(.lst (xs.map f)))(ht:B Y=!(iN t)):slF A noP (partF B) Y=!(.lst ((xs.take t).map f)):=by
 unfold slF aS l7 kY;simp only[h,wg,mw,ht,iA,Option.bind_some,nK];rfl
def kA(h:A Y=!(.lst (xs.map f)))(ht:B Y=!(iN t)):slF A (partF B) noP Y=!(.lst ((xs.drop t).map f)):=by
 unfold slF aS l7 kY;simp only[h,wg,mw,ht,iA,Option.bind_some,nJ];rfl
def Fb(xs:List β)(t u:Nat)(hl:xs.length<=30):(xs.take t).length<=30/\(xs.drop u).length<=30:=by
 rw[List.length_take,List.length_drop];omega
def BS(h:A Y=!(.tup (xs.map f)))(hb:B Y=!(iN t))(hc:C Y=!(iN u))(he:E Y=!(f y))(hl:xs.length<=30):
  bin2 ay (bin2 ay (slF A noP (partF B)) (dU (x1 E))) (slF A (partF C) noP) Y=!(.tup ((xs.take t++y::xs.drop u).map f)):=by
 let⟨l1,l2⟩:=Fb xs t u hl
 have e1:dU (x1 E) Y=!(.tup [f y]):=by simp only[jz,sB,he]
 rw[bin2_a,bin2_a,wO h hb,wP h hc,e1,Option.bind_some,Option.bind_some,vj (by simp only[length_map,length_cons,List.length_nil];omega),Option.bind_some,Option.bind_some,vj (by simp only[length_append,length_map,length_cons,List.length_nil];omega),List.append_assoc,List.map_append]
 rfl
def NY(h:A Y=!(.tup (xs.map f)))(hb:B Y=!(iN t))(hc:C Y=!(iN u))(hl:xs.length<=30):bin2 ay (slF A noP (partF B)) (slF A (partF C) noP) Y=!(.tup ((xs.take t++xs.drop u).map f)):=by
 let⟨l1,l2⟩:=Fb xs t u hl;rw[bin2_a,wO h hb,wP h hc,Option.bind_some,Option.bind_some,vj (by simp only[length_map];omega),List.map_append]
def wQ{Y:Ev}(h:A (vw Y)=!(.lst (xs.map f)))(hb:B (vw Y)=!(iN t))(hc:C (vw Y)=!(iN u))(he:E (vw Y)=!(f y))(hl:xs.length<=30)(hf:ib ((xs.take t++y::xs.drop u).map f)=true){Sp:Fv}:
  aY (bin2 ay (lsF (catF (slF A noP (partF B)) (lsF (dpF (x1 E))))) (slF A (partF C) noP)) (catF (aS (lsF (catF (slF A noP (partF B)) (lsF (dpF (x1 E))))) (lsF (catF (slF A noP (partF B)) (lsF (dpF (x1 E)))))) (slF A (partF C) noP)) Sp Y=!((.deep,.lst ((xs.take t++y::xs.drop u).map f)),Y):=by
 let⟨l1,l2⟩:=Fb xs t u hl
 have e1:lsF (dpF (x1 E)) (vw Y)=!(.lst [f y]):=by simp only[sB,he]
 have e2:lsF (catF (slF A noP (partF B)) (lsF (dpF (x1 E)))) (vw Y)=!(.lst ((xs.take t).map f++[f y])):=by
  rw[lsF_a];unfold catF;rw[oh h hb,e1,Option.bind_some,Option.bind_some,og (by simp only[length_map,length_cons,List.length_nil];omega)];rfl
 refine qP ?_ ?_ hf
 .rw[bin2_a,e2,kA h hc];rfl
 .unfold catF aS;rw[show lsF (λY=>(slF A noP (partF B) Y).bind λx=>(lsF (dpF (x1 E)) Y).bind λy=>Ir x y) (vw Y)=_ from e2];dsimp only;rw[kA h hc,Option.bind_some,Option.bind_some,og (by simp only[length_append,length_map,length_cons,List.length_nil];omega),List.append_assoc,List.map_append];rfl
def NZ{Y:Ev}(h:A (vw Y)=!(.lst (xs.map f)))(hb:B (vw Y)=!(iN t))(hc:C (vw Y)=!(iN u))(hl:xs.length<=30)(hf:ib ((xs.take t++xs.drop u).map f)=true){Sp:Fv}:
  aY (bin2 ay (slF A noP (partF B)) (slF A (partF C) noP)) (catF (slF A noP (partF B)) (slF A (partF C) noP)) Sp Y=!((.deep,.lst ((xs.take t++xs.drop u).map f)),Y):=by
 let⟨l1,l2⟩:=Fb xs t u hl
 refine qP ?_ ?_ hf
 .rw[bin2_a,oh h hb,kA h hc];rfl
 .unfold catF;rw[oh h hb,kA h hc,Option.bind_some,Option.bind_some,og (by simp only[length_map];omega),List.map_append]
end
def tu:∀{ps qs:TR},ps.map List.length=qs.map List.length->prod ps=prod qs
 |[],[],_=>rfl
 |p::ps,q::qs,h=>by
  injection h with h1 h2;show p.length*prod ps=q.length*prod qs;rw[h1,tu h2]
def dD(c:Int){n:Nat}(h:0<n):∃a:Nat,a<n/\c%(n:Int)=(a:Int):=by
 let⟨a0,a1⟩:=JT c (show(0:Int)<(n:Int)by omega);exact⟨(c%(n:Int)).toNat,by omega,by omega⟩
section
variable{A B:Fv}{Y:Vv}{c:Int}{n a:Nat}
def vk(hA:A Y=!(.int c))(hB:B Y=!(iN n))(h0:0<n)(e:c%(n:Int)=(a:Int)):bin2 aI A B Y=!(iN a):=by
 rw[bin2_a,hA,hB,Option.bind_some,Option.bind_some,bC (!3),e]
def yt{k:Nat}(hA:A Y=!(.int c))(hB:B Y=!(iN n))(h0:0<n)(hk:0<k)(hk2:k<1000)(e:c/(k:Int)%(n:Int)=(a:Int)):bin2 aI (bin2 bi A (cI (k:Int))) B Y=!(iN a):=by
 refine vk ?_ hB h0 e;rw[bin2_a,hA,Option.bind_some,cI_a,Option.bind_some,dG (!3) (!3)]
def BU{β:Type}{f:β->D}{xs:List β}(h:A Y=!(.tup (xs.map f))):cX A Y=!(iN xs.length):=by
 simp only[sB,h,bG,show seqD (.tup (xs.map f))=some (xs.map f)from rfl,length_map]
def Fc{β:Type}{f:β->D}{xs:List β}(h:A Y=!(.lst (xs.map f))):cX A Y=!(iN xs.length):=by
 simp only[sB,h,bG,show seqD (.lst (xs.map f))=some (xs.map f)from rfl,length_map]
def ix_t{β:Type}{f:β->D}{xs:List β}{y:β}(h:A Y=!(.tup (xs.map f)))(hB:B Y=!(iN n))(e:xs[n]?=!y):bin2 ixD A B Y=!(f y):=by
 rw[bin2_a,h,hB,Option.bind_some,Option.bind_some];exact atI_mapN e
def ix_l{β:Type}{f:β->D}{xs:List β}{y:β}(h:A Y=!(.lst (xs.map f)))(hB:B Y=!(iN n))(e:xs[n]?=!y):bin2 ixD A B Y=!(f y):=by
 rw[bin2_a,h,hB,Option.bind_some,Option.bind_some];exact atI_mapN e
def Rj{g:D->D->Ub}{x y z:D}(hA:A Y=!x)(hB:B Y=!y)(h:g x y=!z):bin2 g A B Y=!z:=by rw[bin2_a,hA,hB,Option.bind_some,Option.bind_some,h]
def Gz{k m:Nat}(hA:A Y=!(.int c))(hk:0<k)(hk2:k<1000)(hn:0<n)(e:c/(k:Int)%(n:Int)=(a:Int)):ao (bin2 (aE false) (bin2 aI (bin2 bi A (cI (k:Int))) (cI (n:Int))) (cI (m:Int))) Y=!(decide (a=m)):=by
 rw[testB_a,bin2_a,yt hA (show cI (n:Int) Y=some (iN n)from rfl) hn hk hk2 e,Option.bind_some,cI_a,Option.bind_some,iB,Option.bind_some,asB_bl];congr 1;show decide ((a:Int)=(m:Int))=_;rw[decide_eq_decide];omega
end
def  BV(f:Fn):Prop:=∀(ps:TR)(c:Int),0<ps.length->ps.length<=4->(∀p∈ps,Pas p)->∃qs:TR,Valid qs/\sh qs=true/\f [av ps,.int c]=dp (av qs)
def Kt:BV (aR 2 5 iM):=λps c h0 h4 hp=>by
 let⟨a,ha,ea⟩:=dD c h0;have hpa:=hp _ (List.getElem_mem ha);have ep:ps[a]?=some ps[a]:=getElem?_eq_getElem ha;generalize hpe:ps[a]=p at hpa ep;let⟨j,hj,ej⟩:=dD (c/7) (show 0<p.length from hpa.lo);have ek:p[j]?=some p[j]:=getElem?_eq_getElem hj;have hk:=List.getElem_mem hj;generalize p[j]=k at ek hk;have hl:=hpa.hi;have inp:∀z∈p.set j (k.1,0),0<=z.2/\z.2<=9:=λz hz=>by
  rcases List.mem_or_eq_of_mem_set hz with h|rfl
  .have:=hpa.w z h;omega
  .exact⟨Int.le_refl 0,show(0:Int)<=9 by decide⟩
 refine⟨ps.set a (p.set j (k.1,0)),⟨by rw[List.length_set];omega,λq hq=>?_,?_⟩,List.any_eq_true.mpr ⟨_,List.mem_set ha _,List.any_eq_true.mpr ⟨_,List.mem_set hj _,decide_eq_true rfl⟩⟩,aq rfl ?_⟩
 .have q1:1<=q.length/\q.length<=3/\∀z∈q,0<=z.2/\z.2<=9:=by
   rcases List.mem_or_eq_of_mem_set hq with h|rfl
   .have w:=hp q h;exact⟨w.lo,w.hi,λz hz=>by have:=w.w z hz;omega⟩
   .rw[List.length_set];exact⟨hpa.lo,hpa.hi,inp⟩
  unfold D3;rw[and_eq_true,and_eq_true,decide_eq_true_eq,decide_eq_true_eq,List.all_eq_true];refine⟨⟨q1.1,by omega⟩,λz hz=>?_⟩;unfold Jb;rw[and_eq_true,decide_eq_true_eq,decide_eq_true_eq];exact q1.2.2 z hz
 .rw[tu (qs:=ps)]
  .exact(pT h4 hp).1.codes
  .rw[List.map_set,List.length_set,<-hpe];refine List.ext_getElem (by simp) λi h1 h2=>?_;rw[List.getElem_set];split
   .rename_i e;subst e;simp
   .rfl
 .have es:ps.set a (p.set j (k.1,0))=ps.take a++p.set j (k.1,0)::ps.drop (a+1):=by rw[List.set_eq_take_append_cons_drop,if_pos ha]
  show iM [sn (av ps),sn (.int c),none,none,none]=_;unfold iM;refine q_set (evX_lf (d:=iN a) (vk rfl (BU (f:=bH) rfl) h0 ea) rfl) (q_set (evX_lf (d:=iN j) (yt (k:=7) (c:=c) rfl (BU (f:=dY) (ix_t (n:=a) (f:=bH) rfl rfl ep)) hpa.lo (!4) (!4) ej) rfl) (q_set (evX_lfs (d:=.lst (p.map dY)) (ds:=p.map dY) ?_ rfl ?_ ?_) ((seqF_nx (iD (ds:=p.map dY) (d:=dY (k.1,0)) (k:=(j:Int)) (evX_lf ?_ rfl) rfl rfl (!3) (by rw[length_map];omega))).trans (cZ (evX_lf (d:=av (ps.set a (p.set j (k.1,0)))) ?_ (nI _))))))
  .rw[F4,iH,consX_a,ix_t (n:=a) (f:=bH) (xs:=ps) rfl rfl ep];rfl
  .rw[F3,iH,consX_a,ix_t (n:=a) (f:=bH) (xs:=ps) rfl rfl ep];rfl
  .exact AL p
  .rw[jz,n5,consX_a,bin2_a,ix_l (n:=j) (f:=dY) (xs:=p) rfl rfl ek];rfl
  .rw[es];refine BS (f:=bH) (t:=a) (u:=a+1) (y:=p.set j (k.1,0)) rfl rfl rfl ?_ (!3);show some (D.tup ((p.map dY).set (j:Int).toNat (dY (k.1,0))))=!(D.tup _);rw[Int.toNat_natCast,List.map_set]
def BW{ps:TR}{w:T5}(h:w.length≠ps.length):dg ps 0 w=false:=by
 unfold dg;rw[decide_eq_false (!3)];rfl
def N0{ps:TR}{w:T5}{t:Nat}{p:List Pk}{z:Int}(hp:ps[t]?=!p)(hw:w[t]?=!z)(h:z<0\/(p.length:Int)<=z):dg ps 0 w=false:=by
 unfold dg;rw[Bool.and_eq_false_iff];refine .inr (List.all_eq_false.mpr ⟨(z,p),UA (i:=t) ?_,?_⟩)
 .rw[List.drop_zero,List.getElem?_zip_eq_some];exact⟨hw,hp⟩
 .unfold J8;rw[and_eq_true,decide_eq_true_eq,decide_eq_true_eq];dsimp only;omega
def Ku{ps:TR}{ws:List (T5)}{w:T5}(hw:w∈ws)(h:dg ps 0 w=false):wL ps ws=false:=by
 unfold wL;rw[Bool.and_eq_false_iff];exact .inr (List.all_eq_false.mpr ⟨w,hw,by rw[h];exact Uj⟩)
def oi(ws:List (T5)):ib (ws.map wZ)=true:=dc λd hd=>by
 let⟨w,_,rfl⟩:=Ut.mp hd;exact cK w
def  qX(f:Fn):Prop:=∀(ps:TR)(ls:List Lt)(c:Int),0<ps.length->ps.length<=4->(∀p∈ps,Pas p)->0<ls.length->ls.length<=24->(∀l∈ls,One ps l)->∃ws,ws.length<=1000/\wL ps ws=false/\f [av ps,plD true ls,.int c]=dp (d8 ws)
def BX:qX (aR 3 9 fR):=λps ls c h0 h4 hp l0 l24 ho=>by
 obtain⟨w0,ew,hw⟩:∃w0:List (T5),w0=ls.map (λl=>wN l.w)/\∀w∈w0,w.length=ps.length:=⟨_,rfl,λw h=>by
  let⟨l,hl,rfl⟩:=Ut.mp h;have:=(ho l hl).w.len;unfold wN;rw[length_map,this,List.length_drop];omega⟩
 have e0:plD true ls=d8 w0:=by rw[ew];exact jE ls
 rw[e0];have n0:0<w0.length:=by rw[ew,length_map];exact l0
 have n1:w0.length<=24:=by rw[ew,length_map];exact l24
 clear ew e0 l0 l24 ho;let⟨a,ha,ea⟩:=dD c n0;have iw:w0[a]?=some w0[a]:=getElem?_eq_getElem ha;have hwl:=hw _ (List.getElem_mem ha);generalize w0[a]=w at iw hwl;let⟨t,ht,et⟩:=dD (c/9) h0;have ip:ps[t]?=some ps[t]:=getElem?_eq_getElem ht;generalize ps[t]=p at ip;let⟨be,_,eb⟩:=dD (c/36) (show 0<1000000000 by decide);let⟨q,hq,eq⟩:=dD (c/45) (show 0<4 by decide);obtain⟨z,ez,hz⟩:∃z:Int,mP [iN p.length,.int (-1),.int ((p.length:Int)+(be:Int)),.int (-1-(be:Int))] (q:Int)=!(.int z)/\(z<0\/(p.length:Int)<=z):=by
  rcases(show q=0\/q=1\/q=2\/q=3 by omega)with rfl|rfl|rfl|rfl
  .exact⟨_,rfl,.inr (Int.le_refl _)⟩
  .exact⟨_,rfl,.inl (!4)⟩
  .exact⟨_,rfl,.inr (!3)⟩
  .exact⟨_,rfl,.inl (!3)⟩
 let⟨m,hm,em⟩:=dD (c/180) (show 0<3 by decide);let s4:D->Ev:=λd=>[sn (av ps),sn (d8 w0),sn (.int c),dp (iN a),dp d,dp (iN t),dp (iN p.length),dp (iN be),dp (.int z)];have go:∃w':T5,dg ps 0 w'=false/\(cu (ao (bin2 (aE false) (bin2 aI (bin2 bi (va 2) (cI 180)) (cI 3)) (cI 0))) (af (aD 4 (aY (bin2 ay (!12) (slF (va 4) (partF (bin2 ay (va 5) (cI 1))) noP)) (catF (!12) (slF (va 4) (partF (bin2 ay (va 5) (cI 1))) noP)) noV)) aF) (af (cu (ao (bin2 (aE false) (bin2 aI (bin2 bi (va 2) (cI 180)) (cI 3)) (cI 1))) (af (aD 4 (aY (bin2 ay (bin2 ay (!12) (dU (x1 (cI 0)))) (slF (va 4) (partF (va 5)) noP)) (catF (aS (bin2 ay (!12) (dU (x1 (cI 0)))) (lsF (catF (!12) (dU (x1 (cI 0)))))) (slF (va 4) (partF (va 5)) noP)) noV)) aF) (af (aD 4 (aY (bin2 ay (bin2 ay (!12) (dU (x1 (va 8)))) (slF (va 4) (partF (bin2 ay (va 5) (cI 1))) noP)) (catF (aS (bin2 ay (!12) (dU (x1 (va 8)))) (lsF (catF (!12) (dU (x1 (va 8)))))) (slF (va 4) (partF (bin2 ay (va 5) (cI 1))) noP)) noV)) aF)) aF)) (s4 (wZ w))=!(.nx (s4 (wZ w'))):=by
  have c0:∀k:Nat,ao (bin2 (aE false) (bin2 aI (bin2 bi (va 2) (cI 180)) (cI 3)) (cI (k:Int))) (vw (s4 (wZ w)))=!(decide (m=k)):=λk=>Gz (k:=180) (n:=3) (m:=k) (c:=c) rfl (!4) (!4) (!4) em;rcases(show m=0\/m=1\/m=2 by omega)with rfl|rfl|rfl
  .refine⟨w.take t++w.drop (t+1),BW ?_,(ifS_t (c0 0)).trans (q_set (evX_lf (d:=wZ (w.take t++w.drop (t+1))) (NY (f:=D.int) (t:=t) (u:=t+1) rfl rfl rfl (!3)) (cK _)) rfl)⟩;rw[length_append,List.length_take,List.length_drop];omega
  .refine⟨w.take t++0::w.drop t,BW ?_,(aW (c0 0)).trans (eF ((ifS_t (c0 1)).trans (q_set (evX_lf (d:=wZ (w.take t++0::w.drop t)) (BS (f:=D.int) (y:=0) (t:=t) (u:=t) rfl rfl rfl rfl (!3)) (cK _)) rfl)) rfl)⟩;rw[length_append,length_cons,List.length_take,List.length_drop];omega
  .refine⟨w.take t++z::w.drop (t+1),N0 ip (by rw[getElem?_append_right (by rw[List.length_take];omega),List.length_take,show t-min t w.length=0 by omega];rfl) hz,(aW (c0 0)).trans (eF ((aW (c0 1)).trans (q_set (evX_lf (d:=wZ (w.take t++z::w.drop (t+1))) (BS (f:=D.int) (y:=z) (t:=t) (u:=t+1) rfl rfl rfl rfl (!3)) (cK _)) rfl)) rfl)⟩
 let⟨w',hw',ew'⟩:=go;refine⟨w0.take a++w'::w0.drop (a+1),?_,Ku (Uw _ Ul) hw',aq rfl ?_⟩
 .rw[length_append,length_cons,List.length_take,List.length_drop];omega
 show fR [sn (av ps),sn (d8 w0),sn (.int c),none,none,none,none,none,none]=_;unfold fR;refine q_set (evX_lf (d:=iN a) (vk (c:=c) rfl (Fc (f:=wZ) rfl) n0 ea) rfl) (q_set (evX_lf (d:=wZ w) (ix_l (n:=a) (f:=wZ) rfl rfl iw) (cK w)) (q_set (evX_lf (d:=iN t) (yt (k:=9) (c:=c) rfl (BU (f:=bH) rfl) h0 (!4) (!4) et) rfl) (q_set (evX_lf (d:=iN p.length) (BU (f:=dY) (ix_t (n:=t) (f:=bH) rfl rfl ip)) rfl) (q_set (evX_lf (d:=iN be) (yt (k:=36) (c:=c) (n:=1000000000) rfl ?_ (!4) (!4) (!4) eb) rfl) (q_set (evX_lf (d:=.int z) ?_ rfl) (eF ew' (cZ (wQ (f:=wZ) (xs:=w0) (y:=w') (t:=a) (u:=a+1) rfl rfl rfl rfl (!3) (oi _)))))))))
 .exact(if_pos (show oy 10 9 from⟨by decide,by decide,by decide⟩)).trans (congrArg (λz:Int=>!(D.int z)) (!4))
 .exact Rj (x:=.lst [iN p.length,.int (-1),.int ((p.length:Int)+(be:Int)),.int (-1-(be:Int))]) (by simp only[lsF_a,dpF_a,consX_a,nilX_a];exact congrArg (Option.map D.lst) (JS _ _ _ _)) (yt (k:=45) (c:=c) (n:=4) rfl rfl (!4) (!4) (!4) eq) ez
def  Fd(n:Nat)(zs:T5):Prop:=zs.length<=60/\(R5 zs\/∃r m,zs=wN r/\r.Perm (List.range m)/\m<=24/\m≠n)
def  BY(f:Fn):Prop:=∀(r:T1)(n:Nat)(c:Int),r.Perm (List.range n)->0<n->n<=24->∃zs,Fd n zs/\f [au r,.int c]=dp (bg zs)
def ly(r:T1):au r=bg (wN r):=by unfold au bg wN;rw[List.map_map];rfl
def N1{n:Nat}(h:0<n):(List.range n).Perm ((n-1)::List.range (n-1)):=by
 obtain⟨m,rfl⟩:∃m,n=m+1:=⟨n-1,by omega⟩;rw[List.range_succ,Nat.add_sub_cancel];exact List.perm_append_comm
def Kv:BY (aR 2 4 iO):=λr n c pm h0 h24=>by
 have hl:r.length=n:=by rw[pm.length_eq,length_range]
 have hz:(wN r).length=n:=by unfold wN;rw[length_map,hl]
 let⟨a,ha,ea⟩:=dD c (show 0<(wN r).length by omega);let⟨m,hm,em⟩:=dD (c/9) (show 0<4 by decide);rw[ly];suffices h:∃zs,Fd n zs/\iO [sn (bg (wN r)),sn (.int c),none,none]=some (.rt (.deep,bg zs))by
  let⟨zs,h1,h2⟩:=h;exact⟨zs,h1,aq rfl h2⟩
 unfold iO;have c0:∀k:Nat,ao (bin2 (aE false) (bin2 aI (bin2 bi (va 1) (cI 9)) (cI 4)) (cI (k:Int))) (vw [sn (bg (wN r)),sn (.int c),dp (iN a),none])=!(decide (m=k)):=λk=>Gz (k:=9) (n:=4) (m:=k) (c:=c) rfl (!4) (!4) (!4) em;have st:∀{G:TM}{out:Option Out},G [sn (bg (wN r)),sn (.int c),dp (iN a),none]=out->af (aD 2 (fH (bin2 aI (va 1) (cX (va 0))))) G [sn (bg (wN r)),sn (.int c),none,none]=out:=λh=>q_set (evX_lf (d:=iN a) (vk (c:=c) rfl (Fc (f:=D.int) rfl) (!3) ea) rfl) h;rcases(show m=0\/m=1\/m=2\/m=3 by omega)with rfl|rfl|rfl|rfl
 .refine⟨(wN r).take a++(wN r).drop (a+1),⟨by rw[length_append,List.length_take,List.length_drop];omega,?_⟩,st (aw ((ifS_t (c0 0)).trans (cZ (NZ (f:=D.int) (xs:=wN r) (t:=a) (u:=a+1) rfl rfl rfl (!3) (cK _)))))⟩;have har:a<r.length:=by omega
  have er:(wN r).take a++(wN r).drop (a+1)=wN (r.take a++r.drop (a+1)):=by unfold wN;rw[List.map_append,List.map_take,List.map_drop]
  have ep:r.Perm (r[a]::(r.take a++r.drop (a+1))):=by
   have e:r=r.take a++r[a]::r.drop (a+1):=by rw[<-List.drop_eq_getElem_cons har,List.take_append_drop]
   exact(List.Perm.of_eq e).trans List.perm_middle
  by_cases h:r[a]=n-1
  .rw[h]at ep;exact .inr ⟨_,n-1,er,List.Perm.cons_inv (a:=n-1) (ep.symm.trans (pm.trans (N1 h0))),by omega,by omega⟩
  .refine .inl (.inr (.inl ⟨((n-1:Nat):Int),?_,?_⟩))
   .rw[er];refine Ut.mpr ⟨n-1,?_,rfl⟩;rcases mem_cons.mp (ep.mem_iff.mp (pm.mem_iff.mpr (Uz.mpr (show n-1<n by omega))))with e|e
    .exact absurd e.symm h
    .exact e
   .rw[length_append,List.length_take,List.length_drop];omega
 .let⟨j,hj,ej⟩:=dD (c/36) (show 0<(wN r).length by omega);have ij:(wN r)[j]?=some (wN r)[j]:=getElem?_eq_getElem hj;have mj:=List.getElem_mem hj;generalize (wN r)[j]=x at ij mj;refine⟨(wN r).take a++x::(wN r).drop a,⟨by rw[length_append,length_cons,List.length_take,List.length_drop];omega,.inl (.inr (.inr λnd=>?_))⟩,st ((seqF_nx ((aW (c0 0)).trans rfl)).trans (aw ((ifS_t (c0 1)).trans (q_set (evX_lf (d:=.int x) (ix_l (n:=j) (f:=D.int) rfl (yt (k:=36) (c:=c) rfl (Fc (f:=D.int) rfl) (!3) (!4) (!4) ej) ij) rfl) (cZ (wQ (f:=D.int) (xs:=wN r) (y:=x) (t:=a) (u:=a) rfl rfl rfl rfl (!3) (cK _)))))))⟩;have n1:=(List.perm_middle.nodup_iff.mp nd);rw[List.take_append_drop,List.nodup_cons]at n1;exact n1.1 mj
 .refine⟨(wN r).take a++(n:Int)::(wN r).drop (a+1),⟨by rw[length_append,length_cons,List.length_take,List.length_drop];omega,.inl (.inr (.inl ⟨(n:Int),Uw _ Ul,?_⟩))⟩,st ((seqF_nx ((aW (c0 0)).trans rfl)).trans ((seqF_nx ((aW (c0 1)).trans rfl)).trans (aw ((ifS_t (c0 2)).trans (cZ (wQ (f:=D.int) (xs:=wN r) (y:=(n:Int)) (t:=a) (u:=a+1) rfl rfl rfl ?_ (!3) (cK _)))))))⟩
  .rw[length_append,length_cons,List.length_take,List.length_drop];omega
  .rw[Fc (f:=D.int) (xs:=wN r) rfl,hz]
 .refine⟨(wN r).take a++ -1::(wN r).drop (a+1),⟨by rw[length_append,length_cons,List.length_take,List.length_drop];omega,.inl (.inr (.inl ⟨-1,Uw _ Ul,by omega⟩))⟩,st ((seqF_nx ((aW (c0 0)).trans rfl)).trans ((seqF_nx ((aW (c0 1)).trans rfl)).trans ((seqF_nx ((aW (c0 2)).trans rfl)).trans (cZ (wQ (f:=D.int) (xs:=wN r) (y:=-1) (t:=a) (u:=a+1) rfl rfl rfl rfl (!3) (cK _))))))⟩
end K42
namespace K42
open PySem PySem.Spec PyProof.Rows L2
def  wR(fA c6:Fn)(iP:T9->Option (List (Str×D)))(b6 c5 dP cO dO aQ cM dq:Fn):TM:=(af (aD 1 (yk dq (x2 (va 0) (cI 63)))) (af (aD 2 (yk cM (x2 (va 1) (cI 0)))) (af (cu (ao (bin2 (aE false) (cX (va 2)) (cI 0))) (af (aD 2 (aY (dU (x1 (aL aQ (x1 (bin2 ixD (va 1) (cI 1)))))) noV (yw (x1 (frX (aL aQ (x1 (bin2 ixD (va 1) (cI 1)))) noV (Ct aQ (x1 (bin2 ixD (va 1) (cI 1))))))))) aF) aF) (af (aD 3 (aY (bin2 ay (cI 1) (bin2 aI (bin2 ixD (va 1) (cI 12)) (cI 8))) (catF (cI 1) (bin2 aI (bin2 ixD (va 1) (cI 12)) (cI 8))) noV)) (af (aD 4 (yk dO (x4 (va 1) (cI 15) (va 2) (va 3)))) (af (aD 5 (yk cO (x3 (va 1) (cI 39) (va 3)))) (af (aD 6 (aY (lsF (ah [12] (jR (x1 (cI 6))) (aM 12) tQ (bin2 (aE false) (bin2 aI (bin2 bi (bin2 ixD (va 1) (cI 13)) (bin2 ixD (lsF (dpF (x6 (cI 1) (cI 3) (cI 9) (cI 27) (cI 81) (cI 243)))) (va 12))) (cI 3)) (cI 1)))) (ah [12] (jR (x1 (cI 6))) (aM 12) tQ (bin2 (aE false) (bin2 aI (bin2 bi (bin2 ixD (va 1) (cI 13)) (bin2 ixD (lsF (dpF (x6 (cI 1) (cI 3) (cI 9) (cI 27) (cI 81) (cI 243)))) (va 12))) (cI 3)) (cI 1))) (x9 [12] (jR (x1 (cI 6))) (aM 12) tQ (frX (bin2 (aE false) (bin2 aI (bin2 bi (bin2 ixD (va 1) (cI 13)) (bin2 ixD (lsF (dpF (x6 (cI 1) (cI 3) (cI 9) (cI 27) (cI 81) (cI 243)))) (va 12))) (cI 3)) (cI 1)) noV noV)))) (af (aD 7 (MJ [2,4,5,2,4] (frX (lsF (dpF (x5 (va 2) (va 4) (va 5) (va 2) (va 4)))) (dpF (x5 (va 2) (va 4) (va 5) (va 2) (va 4))) (qx (x5 (frX (va 2) noV noV) (frX (va 4) noV noV) (frX (va 5) noV noV) (frX (va 2) noV noV) (frX (va 4) noV noV)))) (dpF (x5 (va 2) (va 4) (va 5) (va 2) (va 4))) (lsF (dpF (x5 (va 2) (va 4) (va 5) (va 2) (va 4)))))) (af (cu (dJ (bin2 ixD (va 6) (cI 0))) (af (cg 7 (cI 0) (yk c5 (x2 (va 2) (bin2 ixD (va 1) (cI 14))))) aF) aF) (af (cu (dJ (bin2 ixD (va 6) (cI 1))) (af (cg 7 (cI 1) (yk b6 (x3 (va 2) (va 4) (bin2 ixD (va 1) (cI 11))))) (af (cu (ao (bin2 (aE false) (bin2 aI (bin2 ixD (va 1) (cI 7)) (cI 4)) (cI 1))) (af (cg 7 (cI 1) (aY (bin2 ay (va 4) (lsF (cA (!2) (!13)))) (catF (va 4) (lsF (cA (!2) (!13)))) noV)) aF) aF) aF)) aF) (af (cu (dJ (bin2 ixD (va 6) (cI 2))) (af (cg 7 (cI 2) (yk dP (x2 (va 5) (bin2 ixD (va 1) (cI 10))))) aF) aF) (af (cu (dJ (bin2 ixD (va 6) (cI 3))) (af (cg 7 (cI 3) (yk c5 (x2 (va 2) (bin2 ixD (va 1) (cI 9))))) aF) aF) (af (cu (dJ (bin2 ixD (va 6) (cI 4))) (af (cg 7 (cI 4) (yk b6 (x3 (va 2) (va 4) (bin2 ixD (va 1) (cI 8))))) aF) (af (cu (dJ (bin2 ixD (va 6) (cI 5))) (af (cg 7 (cI 4) (aY (bin2 ixD (lsF (dpF (x3 (lsF (catF (va 4) (lsF (!2)))) (!9) (bin2 ay (va 4) (lsF (cA (!2) (!13))))))) (bin2 aI (bin2 ixD (va 1) (cI 6)) (cI 3))) noV (KY (frX (lsF (dpF (x3 (lsF (catF (va 4) (lsF (!2)))) (!9) (bin2 ay (va 4) (lsF (cA (!2) (!13))))))) (dpF (x3 (lsF (catF (va 4) (lsF (!2)))) (!9) (bin2 ay (va 4) (lsF (cA (!2) (!13)))))) (qx (x3 (frX (lsF (catF (va 4) (lsF (!2)))) (catF (va 4) (lsF (!2))) noV) (frX (!9) (kY (va 4) noP (partF (ngF (cI 1)))) noV) (frX (bin2 ay (va 4) (lsF (cA (!2) (!13)))) (catF (va 4) (lsF (cA (!2) (!13)))) noV)))) (bin2 aI (bin2 ixD (va 1) (cI 6)) (cI 3))))) (af (cg 6 (cI 4) (fH (cB true))) aF)) aF) aF)) (af (aD 8 (aY (MU "Mill" iP (x1 (bin2 ixD (va 7) (cI 0)))) noV (pF (x1 (bin2 ixD (va 7) (cI 0)))))) (af (aD 9 (aY (MU "Mill" iP (x1 (bin2 ixD (va 7) (cI 3)))) noV (pF (x1 (bin2 ixD (va 7) (cI 3)))))) (af (lh (jR (x1 (cI 4))) (gz 10) (af (aD 11 (yk c6 (x6 (va 10) (va 8) (bin2 ixD (va 7) (cI 1)) (va 9) (bin2 ixD (va 7) (cI 4)) (bin2 ixD (va 7) (cI 2))))) (af (cu (ao (bin2 (aE true) (va 11) (aL fA (x2 (va 10) (va 6))))) (mh (fH (cB false))) aF) aF))) (mh (fH (cB true)))))))))))))))))))
def cY{i:Nat}{fk g}{Y Y':Ev}{ds:T9}{s:Sl}{k:Nat}(h:g Y=!(s,Y'))(ho:jh Y' i=!(.top,ds))(hk:fk (vw Y')=!(iN k))(hl:k<ds.length):cg i fk g Y=!(.nx (Y'.set i (!(.top,.lst (ds.set k s.2))))):=by
 unfold cg;rw[h];simp only[Option.bind_some,ho,hk];rw[show re ds.length (k:Int)=some k by unfold re;rw[if_pos (!3),if_pos (!3)];rfl];rfl
def Fe{is:T1}{F R:Fv}{L:Fx}{Y:Ev}{ds:T9}(h1:F (vw Y)=none)(h2:L (eg Y)=none)(h3:R (eg Y)=none)(h4:L (eg (frzS is Y))=!ds):MJ is F L R Y=!((.top,.lst ds),frzS is Y):=by
 unfold MJ aS c8 km ql;simp only[h1,h2,h3,h4,Option.bind_some,Option.bind_none]
def q_ifE{c}{F F' G:TM}{Y:Ev}{b:Bool}{out:Option Out}{α:Type}(st:α->Ev)(C:α->Prop)(h:c (vw Y)=!b)(k1:∃a,C a/\(if b then F Y else F' Y)=!(.nx (st a)))(k:∀a,C a->G (st a)=out):af (cu c F F') G Y=out:=by
 let⟨a,ha,e⟩:=k1;exact Rg h e (k a ha)
structure Fst(ps:TR)(ls:List Lt)(r:T1)(b:Nat->Bool)(q0:TR)(w1:List (T5))(z2:T5)(q3:TR)(w4:List (T5)):Prop where
 P:Pln ps ls
 pm:r.Perm (List.range ls.length)
 c0:Valid q0/\if b 0=true then sh q0=true else q0=ps
 c1:if b 1=true then w1.length<=1000/\wL ps w1=false else d8 w1=plD true ls
 c2:if b 2=true then Fd ls.length z2 else z2=wN r
 c3:Valid q3/\if b 3=true then sh q3=true else q3=ps
 c4:if b 4=true then(w4.length<=1000/\wL ps w4=false)\/∃l2,d8 w4=plD true l2/\Pln ps l2/\ls.length≠l2.length else d8 w4=plD true ls
def N2{zl ze zc zi zp:Zf}{en cl iq pa ir to:Fn}(hT:sTold ze zc zi zp en cl iq pa to)(hl:yq zl)(he:Kj zl ir ze)(hc:vg zl zc)(hi:vg zl zi)(hp:BR zl zp)(hr:qQ ir)(hn:Kd ir)(f1:wF en)(f2:EO cl)(f3:vd iq)(f4:vc pa)
  {ps:TR} {ls:List Lt} {r:T1} {b:Nat->Bool} {q0:TR} {w1:List (T5)} {z2:T5} {q3:TR} {w4:List (T5)} (F:Fst ps ls r b q0 w1 z2 q3 w4) (w:Nat) (hw:w<=3):to [iN w,ae q0,d8 w1,ae q3,d8 w4,bg z2]=dp (.str (Kr w b)):=by
 let⟨P,pm,⟨v0,c0⟩,c1,c2,⟨v3,c3⟩,c4⟩:=F
 have any:∀x,zl [ae q0,d8 w1]=!x->wz ze zc zi zp w (ae q0) (d8 w1) (ae q3) (d8 w4) (bg z2)=!x:=λx h=>by
  unfold wz;split
  .exact he.1 _ _ _ _ h
  split
  .rw[hc];exact h
  split
  .rw[hi];exact h
  .exact hp.1 _ _ _ _ _ h
 unfold Kr
 by_cases b0:b 0=true
 .rw[if_pos b0]at c0⊢;exact hT.x w _ _ _ _ _ "Shut" hw (.inl rfl) (any _ ((hl q0 v0).1 _ c0))
 rw[if_neg b0]at c0⊢;subst c0;by_cases b1:b 1=true
 .rw[if_pos b1]at c1⊢;exact hT.x w _ _ _ _ _ "BadPlan" hw (.inr (.inl rfl)) (any _ (((hl q0 v0).2 (qV P.w) w1 c1.1).trans (by rw[c1.2];rfl)))
 rw[if_neg b1]at c1⊢;rw[c1];have lw:=qW hl P;rcases(show w=0\/w=1\/w=2\/w=3 by omega)with rfl|rfl|rfl|rfl
 .by_cases b2:b 2=true
  .rw[if_pos b2]at c2;rw[if_pos ⟨rfl,b2⟩];obtain⟨b',e,ne⟩:∃b',ir [bg z2]=dp (.bl b')/\¬ (b'=true/\z2.length=ls.length):=by
    obtain⟨hz,bd|⟨r',m,rfl,pm',hm,nm⟩⟩:=c2
    .exact⟨false,hn z2 hz bd,λh=>nomatch h.1⟩
    .refine⟨true,by rw[<-ly];exact hr r' m pm' hm,λh=>nm ?_⟩;rw[<-h.2];unfold wN;rw[length_map,pm'.length_eq,length_range]
   exact hT.x 0 _ _ _ _ _ "BadRow" hw (.inr (.inr rfl)) ((he.2 _ _ _ _ P e).trans (if_neg ne))
  .rw[if_neg b2]at c2;subst c2;rw[if_neg λh=>b2 h.2,if_neg λh=>absurd h.1 (!4),if_neg λh=>absurd h.1 (!4),<-ly];refine hT.no 0 _ _ _ _ _ _ hw ?_ (f1 true q0 ls r P.v P.w P.n P.o pm);show ze _=none;rw[ly,he.2 _ _ _ true P (by rw[<-ly];exact hr r _ pm P.n),if_pos ⟨rfl,by unfold wN;rw[length_map,pm.length_eq,length_range]⟩]
 .rw[if_neg λh=>absurd h.1 (!4),if_neg λh=>absurd h.1 (!4),if_neg λh=>absurd h.1 (!4)];let⟨c,e⟩:=f2 q0 ls P;exact hT.no 1 _ _ _ _ _ _ hw ((hc _ _).trans lw) e
 .rw[if_neg λh=>absurd h.1 (!4),if_neg λh=>absurd h.1 (!4),if_neg λh=>absurd h.1 (!4)];let⟨v,e⟩:=f3 q0 ls P;exact hT.no 2 _ _ _ _ _ _ hw ((hi _ _).trans lw) e
 .rw[if_neg λh=>absurd h.1 (!4)];by_cases b3:b 3=true
  .rw[if_pos b3]at c3;rw[if_pos ⟨rfl,b3⟩];exact hT.x 3 _ _ _ _ _ "Shut" hw (.inl rfl) (hp.2.1 _ _ _ _ _ P ((hl q3 v3).1 _ c3))
  rw[if_neg b3]at c3;subst c3;rw[if_neg λh=>b3 h.2];by_cases b4:b 4=true
  .rw[if_pos b4]at c4;rw[if_pos ⟨rfl,b4⟩];refine hT.x 3 _ _ _ _ _ "BadPlan" hw (.inr (.inl rfl)) ?_;rcases c4 with c4|⟨l2,e,Q,ne⟩
   .exact hp.2.1 _ _ _ _ _ P (((hl q3 v3).2 (qV P.w) w4 c4.1).trans (by rw[c4.2];rfl))
   .rw[e];exact(hp.2.2 _ _ _ _ P Q).trans (if_neg ne)
  .rw[if_neg b4]at c4;rw[if_neg λh=>b4 h.2,c4];let⟨c,e⟩:=f4 true true q3 q3 ls ls ⟨P.v,P.v,P.w,P.w,P.n,rfl,P.o,P.o⟩;exact hT.no 3 _ _ _ _ _ _ hw ((hp.2.2 _ _ _ _ P P).trans (if_pos rfl)) e
def  R7(to:Fn):Prop:=∀ps ls r b q0 w1 z2 q3 w4,Fst ps ls r b q0 w1 z2 q3 w4->∀w,w<=3->to [iN w,ae q0,d8 w1,ae q3,d8 w4,bg z2]=dp (.str (Kr w b))
abbrev z2(ns cs:T5)(ps:TR):Ev:=[sn (bg ns),dp (bg cs),dp (av ps),none,none,none,none,none,none,none,none,none,none]
abbrev z7(ns cs:T5)(ps:TR)(ls:List Lt)(r:T1)(b:Nat->Bool)(a0 a1 a2 a3 a4:D):Ev:=[sn (bg ns),dp (bg cs),sn (av ps),dp (iN ls.length),sn (plD true ls),sn (au r),dp (OO b),!(.top,.lst [a0,a1,a2,a3,a4]),none,none,none,none,none]
abbrev z9(ns cs:T5)(ps:TR)(ls:List Lt)(r:T1)(b:Nat->Bool)(a0 a1 a2 a3 a4 m0 m3:D)(o10 o11:Option Sl):Ev:=[sn (bg ns),sn (bg cs),sn (av ps),sn (iN ls.length),sn (plD true ls),sn (au r),sn (OO b),sn (.lst [a0,a1,a2,a3,a4]),sn m0,sn m3,o10,o11,none]
def ev_c{f:Fn}{xs:Fx}{Y:Ev}{ds:T9}{d:D}(h:xs (vw Y)=!ds)(e:f ds=dp d):yk f xs Y=!((.deep,d),Y):=by
 cases l:gq d with
 |true=>exact evX_lf (by rw[clF_a,h,Option.bind_some,e,valO_some]) l
 |false=>exact evX_call (by rw[clF_a,h,Option.bind_some,e,valO_some]) l rfl (by rw[fCl_a,h,Option.bind_some,e];rfl)
def Kw{n:Nat}(h:n<=8):(25:Int)-(n:Int)=((25-n:Nat):Int):=by omega
def BZ{A B:Fv}{Y:Vv}{W:List (T5)}{n:Nat}{w:T5}(hA:A Y=!(d8 W))(hB:B Y=!(iN n))(hn:n<=8)(hw:W[0]?=!w)(hl:W.length<=24):
  bin2 ay A (lsF (cA (dpF (x1 (bin2 ixD A (cI 0)))) (bin2 bt (cI 25) B))) Y=none/\catF A (lsF (cA (dpF (x1 (bin2 ixD A (cI 0)))) (bin2 bt (cI 25) B))) Y=!((W++List.replicate (25-n) w).map wZ):=by
 have e1:bin2 ixD A (cI 0) Y=!(wZ w):=ix_l (f:=wZ) (n:=0) hA rfl hw
 have e2:lsF (cA (dpF (x1 (bin2 ixD A (cI 0)))) (bin2 bt (cI 25) B)) Y=!(.lst ((List.replicate (25-n) w).map wZ)):=by
  rw[lsF_a];unfold cA;simp only[dpF_a,iH,consX_a,nilX_a,e1,Option.bind_some,capL_1,bin2_a,cI_a,hB,subD_ii,Kw hn,iA];rw[if_pos ⟨by omega,by omega,by simp only[length_cons,List.length_nil];omega⟩,Int.toNat_natCast,List.map_replicate];show some (D.lst _)=!(D.lst _);congr 2;generalize 25-n=k;induction k with
  |zero=>rfl
  |succ k ih=>rw[List.replicate_succ,List.flatten_cons,ih,List.replicate_succ];rfl
 refine⟨by rw[bin2_a,hA,e2];rfl,?_⟩
 unfold catF
 rw[hA,e2,Option.bind_some,Option.bind_some,List.map_append]
 exact og (by rw[length_map,length_map,List.length_replicate];omega)
def B0{ps:TR}{ws:List (T5)}(h:24<ws.length):wL ps ws=false:=by
 unfold wL;rw[decide_eq_false (!3)];rfl
end K42
namespace K42
open PySem PySem.Spec PyProof.Rows L2
def jF{cs:T5}(hc:cs.length=63)(i:Nat)(h:i<63):∃x:Int,∀(B:Fv)(Y:Vv),cy Y 1=!(bg cs)->B Y=!(iN i)->bin2 ixD (va 1) B Y=!(.int x):=by
 have e:cs[i]?=some cs[i]:=getElem?_eq_getElem (!3);exact⟨cs[i],λB Y h1 h2=>ix_l (f:=D.int) (n:=i) h1 h2 e⟩
def N3(x:Int){Y:Vv}(h:∀o,bin2 ixD (va 1) (cI 13) (Y.set 12 o)=!(.int x))(hY:Y.length=13)(hw:wipe [12] Y=Y):∃b:Nat->Bool,ah [12] (jR (x1 (cI 6))) (aM 12) tQ (bin2 (aE false) (bin2 aI (bin2 bi (bin2 ixD (va 1) (cI 13)) (bin2 ixD (lsF (dpF (x6 (cI 1) (cI 3) (cI 9) (cI 27) (cI 81) (cI 243)))) (va 12))) (cI 3)) (cI 1)) Y=!((List.range 6).map λk=>.bl (b k)):=by
 refine⟨λk=>decide (x/([1,3,9,27,81,243].getD k 1)%3=1),aB (xs:=List.range 6) (mk:=λi=>iN i) (iz (cJ (n:=6) (!4))) (λk hk=>?_) (!4)⟩;rw[hw];have hg:aM 12 (iN k) Y=!(Y.set 12 (!(iN k))):=rfl;rw[stepF_a,hg,Option.bind_some,tQ_a,Option.bind_some,if_pos rfl];have hv:va 12 (Y.set 12 (!(iN k)))=!(iN k):=by
  show cy _ 12=_;unfold cy;rw[List.getElem?_set_self (!3)]
 have hk:=Uz.mp hk;have hl:bin2 ixD (lsF (dpF (x6 (cI 1) (cI 3) (cI 9) (cI 27) (cI 81) (cI 243)))) (va 12) (Y.set 12 (!(iN k)))=!(.int ([1,3,9,27,81,243].getD k 1)):=by
  rw[bin2_a,hv];rcases(show k=0\/k=1\/k=2\/k=3\/k=4\/k=5 by omega)with rfl|rfl|rfl|rfl|rfl|rfl<;>rfl
 have hp:(0:Int)<[1,3,9,27,81,243].getD k 1/\[1,3,9,27,81,243].getD k (1:Int)<1073741824:=by
  rcases(show k=0\/k=1\/k=2\/k=3\/k=4\/k=5 by omega)with rfl|rfl|rfl|rfl|rfl|rfl<;>decide
 rw[bin2_a,bin2_a,bin2_a,h,hl,Option.bind_some,Option.bind_some,dG hp.1 hp.2,Option.bind_some,cI_a,Option.bind_some,bC (!4),Option.bind_some,cI_a,Option.bind_some,iB];rfl
def Ff{R Sp:Fv}{L:Fx}{Y:Vv}(h1:kj (R Y)=none)(h2:ic (L Y)=none)(h3:Sp Y=none):frX R L Sp Y=none:=by
 unfold frX aS;dsimp only;rw[h1,h2,h3]
def GA{a b:Fv}{xs:Fx}{Y:Vv}(h:b Y=none):aa a (aa b xs) Y=none:=by
 rw[consX_a,consX_a,h];cases a Y<;>rfl
def ev_first{ns cs:T5}{ps:TR}{ls:List Lt}{r:T1}{n d6:D}:MJ [2,4,5,2,4] (frX (lsF (dpF (x5 (va 2) (va 4) (va 5) (va 2) (va 4)))) (dpF (x5 (va 2) (va 4) (va 5) (va 2) (va 4))) (qx (x5 (frX (va 2) noV noV) (frX (va 4) noV noV) (frX (va 5) noV noV) (frX (va 2) noV noV) (frX (va 4) noV noV)))) (dpF (x5 (va 2) (va 4) (va 5) (va 2) (va 4))) (lsF (dpF (x5 (va 2) (va 4) (va 5) (va 2) (va 4)))) [sn (bg ns),dp (bg cs),dp (av ps),dp n,dp (plD true ls),dp (au r),dp d6,none,none,none,none,none,none]=
  !((.top,.lst [av ps,plD true ls,au r,av ps,plD true ls]),[sn (bg ns),dp (bg cs),sn (av ps),dp n,sn (plD true ls),sn (au r),dp d6,none,none,none,none,none,none]):=by
 have e1:dpF (x5 (va 2) (va 4) (va 5) (va 2) (va 4)) (vw [sn (bg ns),dp (bg cs),dp (av ps),dp n,dp (plD true ls),dp (au r),dp d6,none,none,none,none,none,none])=![av ps,plD true ls,au r,av ps,plD true ls]:=(congrArg bw rfl).trans (AD _ _ _ _ _)
 have n1:dpF (x5 (va 2) (va 4) (va 5) (va 2) (va 4)) (eg [sn (bg ns),dp (bg cs),dp (av ps),dp n,dp (plD true ls),dp (au r),dp d6,none,none,none,none,none,none])=none:=(congrArg bw (GA rfl)).trans rfl
 refine Fe (Ff ?_ ?_ ?_) n1 (by rw[lsF_a,n1];rfl) ((congrArg bw rfl).trans (AD _ _ _ _ _))
 .rw[lsF_a,e1];rfl
 .rw[e1];show(if(gq (av ps)&&(false&&_))=true then _ else _)=_;rw[Bool.false_and,Bool.and_false];rfl
 .unfold qx;rw[show x5 (frX (va 2) noV noV) (frX (va 4) noV noV) (frX (va 5) noV noV) (frX (va 2) noV noV) (frX (va 4) noV noV) _=none from GA (vb (d:=plD true ls) rfl rfl rfl rfl)];rfl
def Kx{R Sp:Fv}{L:Fx}{Y:Ev}{d:D}(h:R (vw Y)=none)(hL:L (vw Y)=none)(hs:Sp (vw Y)=!d):aY R L Sp Y=!((.deep,d),Y):=by
 unfold aY aS c8 frX aS kj ic;simp only[h,hL,hs,Option.bind_some,Option.bind_none]
def fr_lfs'{R Sp:Fv}{L:Fx}{Y:Vv}{ds:T9}(h1:kj (R Y)=none)(hL:L Y=!ds)(hf:ib ds=true):frX R L Sp Y=!(.lst ds):=by
 unfold frX aS;dsimp only;rw[h1,hL];unfold ic;rw[Option.bind_some,if_pos hf]
def N4{R Sp:Fv}{L:Fx}{Y:Vv}(h1:kj (R Y)=none)(h2:ic (L Y)=none):frX R L Sp Y=Sp Y:=by
 unfold frX aS;dsimp only;rw[h1,h2]
def N5(n:Nat):HT.sIx n n (!(-1))=n-1:=by
 show(if(-1:Int)<0 then(-1+(n:Int)).toNat else min (-1:Int).toNat n)=n-1;rw[if_pos (!4)];omega
def Ky(a b c:D):bw (![a,b,c])=![a,b,c]:=cR (show 3<big by decide)
def Kz(ls:List Lt)(l:Lt):plD true (ls++[l])=d8 ((ls.map λl=>wN l.w)++[wN l.w]):=by rw[jE,List.map_append];rfl
def B3{ns cs:T5}{ps:TR}{ls:List Lt}{r:T1}{b:Nat->Bool}{a0 a1 a2 a3 a4:D}{x:Int}(P:Pln ps ls)(h0:0<ls.length)(h8:ls.length<=8)(k6:∀(B:Fv)(Y:Vv),cy Y 1=!(bg cs)->B Y=!(iN 6)->bin2 ixD (va 1) B Y=!(.int x)):
  ∃w4:List (T5),((w4.length<=1000/\wL ps w4=false)\/∃l2,d8 w4=plD true l2/\Pln ps l2/\ls.length≠l2.length)/\(aY (bin2 ixD (lsF (dpF (x3 (lsF (catF (va 4) (lsF (!2)))) (!9) (bin2 ay (va 4) (lsF (cA (!2) (!13))))))) (bin2 aI (bin2 ixD (va 1) (cI 6)) (cI 3))) noV (KY (frX (lsF (dpF (x3 (lsF (catF (va 4) (lsF (!2)))) (!9) (bin2 ay (va 4) (lsF (cA (!2) (!13))))))) (dpF (x3 (lsF (catF (va 4) (lsF (!2)))) (!9) (bin2 ay (va 4) (lsF (cA (!2) (!13)))))) (qx (x3 (frX (lsF (catF (va 4) (lsF (!2)))) (catF (va 4) (lsF (!2))) noV) (frX (!9) (kY (va 4) noP (partF (ngF (cI 1)))) noV) (frX (bin2 ay (va 4) (lsF (cA (!2) (!13)))) (catF (va 4) (lsF (cA (!2) (!13)))) noV)))) (bin2 aI (bin2 ixD (va 1) (cI 6)) (cI 3)))) (!17)=!((.deep,d8 w4),z7 ns cs ps ls r b a0 a1 a2 a3 a4):=by
 have e0:ls[0]?=some ls[0]:=getElem?_eq_getElem h0
 have ml:ls[0]∈ls:=List.getElem_mem h0
 generalize ls[0]=l at e0 ml
 have ew:(ls.map λl=>wN l.w)[0]?=!(wN l.w):=by rw[getElem?_map,e0];rfl
 let⟨q,hq,eq⟩:=dD x (show 0<3 by decide)
 have eq:=λY h=>vk (A:=bin2 ixD (va 1) (cI 6)) (B:=cI 3) (Y:=Y) (n:=3) (k6 _ Y h rfl) rfl (!4) eq
 have eA:va 4 (vw (!17))=!(d8 (ls.map λl=>wN l.w)):=congrArg some (jE ls)
 let⟨p1,p2⟩:=BZ (A:=va 4) (B:=va 3) eA rfl h8 ew (by rw[length_map];omega)
 have t1:bin2 ixD (va 4) (cI 0) (vw (!17))=!(wZ (wN l.w)):=ix_l (f:=wZ) (n:=0) eA rfl ew
 have t2:catF (va 4) (lsF (!2)) (vw (!17))=!(((ls.map λl=>wN l.w)++[wN l.w]).map wZ):=by
  unfold catF;rw[eA,Option.bind_some,lsF_a,dpF_a,iH,consX_a,t1,Option.bind_some,nilX_a,Option.bind_some,capL_1,map_some,Option.bind_some,List.map_append];exact og (by rw[length_map,length_map];show _+1<100;omega)
 have t3:kY (va 4) noP (partF (ngF (cI 1))) (vw (!17))=!(((ls.take (ls.length-1)).map λl=>wN l.w).map wZ):=by
  unfold kY;rw[eA];show some (L2.cutD (((ls.map λl=>wN l.w)).map wZ) none (!(-1)))=_;unfold L2.cutD;rw[N5];show some (((((ls.map λl=>wN l.w)).map wZ).drop 0).take (_-1-0))=_;rw[List.drop_zero,Nat.sub_zero,length_map,length_map,<-List.map_take,<-List.map_take]
 have t4:kj (slF (va 4) noP (partF (ngF (cI 1))) (vw (!17)))=none:=by
  unfold slF aS l7;dsimp only;rw[eA,t3];rfl
 have nX:x3 (lsF (catF (va 4) (lsF (!2)))) (!9) (bin2 ay (va 4) (lsF (cA (!2) (!13)))) (vw (!17))=none:=by
  rw[ym,consX_a,show x2 _ _ _=none by rw[n5,consX_a,iH,consX_a,p1];cases slF (va 4) noP (partF (ngF (cI 1))) _<;>rfl];cases lsF (catF (va 4) (lsF (!2))) _<;>rfl
 have nD:dpF (x3 (lsF (catF (va 4) (lsF (!2)))) (!9) (bin2 ay (va 4) (lsF (cA (!2) (!13))))) (vw (!17))=none:=by rw[dpF_a,nX];rfl
 have f1:frX (lsF (catF (va 4) (lsF (!2)))) (catF (va 4) (lsF (!2))) noV (vw (!17))=_:=fr_lfs' (by rw[lsF_a,t2];rfl) t2 (oi _)
 have f2:frX (!9) (kY (va 4) noP (partF (ngF (cI 1)))) noV (vw (!17))=_:=fr_lfs' t4 t3 (oi _)
 have f3:frX (bin2 ay (va 4) (lsF (cA (!2) (!13)))) (catF (va 4) (lsF (cA (!2) (!13)))) noV (vw (!17))=_:=fr_lfs' (by rw[p1];rfl) p2 (oi _)
 have go:∀d:D,[d8 ((ls.map λl=>wN l.w)++[wN l.w]),d8 ((ls.take (ls.length-1)).map λl=>wN l.w),d8 ((ls.map λl=>wN l.w)++List.replicate (25-ls.length) (wN l.w))][q]?=!d->(aY (bin2 ixD (lsF (dpF (x3 (lsF (catF (va 4) (lsF (!2)))) (!9) (bin2 ay (va 4) (lsF (cA (!2) (!13))))))) (bin2 aI (bin2 ixD (va 1) (cI 6)) (cI 3))) noV (KY (frX (lsF (dpF (x3 (lsF (catF (va 4) (lsF (!2)))) (!9) (bin2 ay (va 4) (lsF (cA (!2) (!13))))))) (dpF (x3 (lsF (catF (va 4) (lsF (!2)))) (!9) (bin2 ay (va 4) (lsF (cA (!2) (!13)))))) (qx (x3 (frX (lsF (catF (va 4) (lsF (!2)))) (catF (va 4) (lsF (!2))) noV) (frX (!9) (kY (va 4) noP (partF (ngF (cI 1)))) noV) (frX (bin2 ay (va 4) (lsF (cA (!2) (!13)))) (catF (va 4) (lsF (cA (!2) (!13)))) noV)))) (bin2 aI (bin2 ixD (va 1) (cI 6)) (cI 3)))) (!17)=!((.deep,d),z7 ns cs ps ls r b a0 a1 a2 a3 a4):=λd hd=>by
  refine Kx (by rw[bin2_a,lsF_a,nD];rfl) rfl ?_;unfold KY;rw[N4 (by rw[lsF_a,nD];rfl) (by rw[nD];rfl)];unfold qx;rw[ym,consX_a,f1,n5,consX_a,f2,iH,consX_a,f3];show((bw (![_,_,_])).bind _).bind _=_;rw[Ky,Option.bind_some,Option.bind_some];show((bin2 aI (bin2 ixD (va 1) (cI 6)) (cI 3) (vw (!17))).bind _)=_;rw[eq _ rfl,Option.bind_some,iA,Option.bind_some];have e3:re 3 (q:Int)=!q:=by unfold re;rw[if_pos (!3),if_pos (!3),Int.toNat_natCast]
  show((re 3 (q:Int)).bind λj=>[_,_,_][j]?)=_;rw[e3];exact hd
 rcases(show q=0\/q=1\/q=2 by omega)with rfl|rfl|rfl
 .refine⟨_,.inr ⟨ls++[l],(Kz ls l).symm,⟨P.v,P.w,by rw[length_append];show _+1<=24;omega,λz hz=>?_⟩,by rw[length_append];show _≠_+1;omega⟩,go _ rfl⟩;rcases mem_append.mp hz with h|h
  .exact P.o z h
  .rw[mem_singleton.mp h];exact P.o l ml
 .exact⟨_,.inr ⟨ls.take (ls.length-1),(jE _).symm,⟨P.v,P.w,by rw[List.length_take];omega,λz hz=>P.o z (List.mem_of_mem_take hz)⟩,by rw[List.length_take];omega⟩,go _ rfl⟩
 .exact⟨_,.inl ⟨by rw[length_append,length_map,List.length_replicate];omega,B0 (by rw[length_append,length_map,List.length_replicate];omega)⟩,go _ rfl⟩
def N6{du to mi sp su tn co pl po pa ce}(hdu:Ks du)(hto:R7 to)(hmi:sJ mi)(hsp:qX sp)(hsu:BV su)(htn:BY tn)(hco:Ka co)(hpl:BD pl)(hpo:EK po)(hpa:JU pa)(hce:qF ce)(ns:T5)(hn:ns.length<=63):aR 1 13 (wR du to mi sp su tn co pl po pa ce) [bg ns]=dp (.bl true):=by
 let⟨cs,hcl,e0⟩:=hce ns 63 (!3) (!4) (!4)
 let⟨p0,hp4,hP0,e1⟩:=hpa cs 0 (!3)
 let⟨x1',k1⟩:=jF hcl 1 (!4)
 let⟨x6',k6⟩:=jF hcl 6 (!4)
 let⟨x7',k7⟩:=jF hcl 7 (!4)
 let⟨x8',k8⟩:=jF hcl 8 (!4)
 let⟨x9',k9⟩:=jF hcl 9 (!4)
 let⟨x10',k10⟩:=jF hcl 10 (!4)
 let⟨x11',k11⟩:=jF hcl 11 (!4)
 let⟨x12',k12⟩:=jF hcl 12 (!4)
 let⟨x13',k13⟩:=jF hcl 13 (!4)
 let⟨x14',k14⟩:=jF hcl 14 (!4)
 refine aq rfl ?_
 show wR du to mi sp su tn co pl po pa ce [sn (bg ns),none,none,none,none,none,none,none,none,none,none,none,none]=_
 unfold wR
 refine q_set (ev_c rfl e0) (q_set (ev_c rfl e1) (q_ifE (b:=decide (p0.length=0)) (z2 ns cs) (λps=>0<ps.length/\ps.length<=4/\∀p∈ps,Pas p) ?_ ?_ ?_))
 .rw[testB_a,bin2_a,BU (f:=bH) (xs:=p0) rfl,Option.bind_some,cI_a,Option.bind_some,iB,Option.bind_some,asB_bl]
  show some (decide ((p0.length:Int)=0))=_
  congr 1;rw[decide_eq_decide];omega
 .by_cases h:p0.length=0
  .let⟨p,hp,ep⟩:=hpo x1'
   refine⟨[p],⟨Nat.zero_lt_one,show 1<=4 by decide,λq hq=>by rw[mem_singleton.mp hq];exact hp⟩,?_⟩
   rw[decide_eq_true h,if_pos rfl]
   refine q_set (evX_lf (d:=av [p]) ?_ (nI _)) rfl
   rw[jz,iH,consX_a,clF_a,iH,consX_a,k1 _ _ rfl rfl,Option.bind_some,nilX_a,Option.bind_some,Option.bind_some,ep]
   rfl
  .refine⟨p0,⟨by omega,hp4,hP0⟩,?_⟩
   rw[decide_eq_false h,if_neg Bool.false_ne_true]
   rfl
 intro ps ⟨h0,h4,hP⟩
 let⟨pv,pw⟩:=pT h4 hP
 let⟨m,hm,em⟩:=dD x12' (show 0<8 by decide)
 let⟨ls,hl,hO,e2⟩:=hpl cs 15 (m+1) ps (!3) (!3) h4 hP
 let⟨r,pm,e3⟩:=hco cs 39 (m+1) (!3) (!3)
 rw[<-hl]at e2 e3 pm
 have hl8:ls.length<=8:=by omega
 have hl0:0<ls.length:=by omega
 have P:Pln ps ls:=⟨pv,pw,by omega,hO⟩
 obtain⟨w0,hw0⟩:∃w0,(ls.map λl=>wN l.w)[0]?=!w0:=⟨_,getElem?_eq_getElem (by rw[length_map];exact hl0)⟩
 let⟨b,eb⟩:=N3 x13' (Y:=vw [sn (bg ns),dp (bg cs),dp (av ps),dp (iN ls.length),dp (plD true ls),dp (au r),none,none,none,none,none,none,none]) (λo=>k13 _ _ rfl rfl) rfl rfl
 refine q_set (evX_lf (d:=iN ls.length) ?_ rfl) (q_set (ev_c rfl e2) (q_set (ev_c rfl e3) (q_set (evX_lfs (d:=OO b) (ds:=(List.range 6).map λk=>.bl (b k)) ?_ rfl eb rfl) (q_set ev_first ?_))))
 .rw[bin2_a,cI_a,Option.bind_some,vk (c:=x12') (n:=8) (k12 _ _ rfl rfl) rfl (!4) em,Option.bind_some,addD_ii]
  show some (D.int _)=!(D.int _)
  congr 2;omega
 .exact congrArg (Option.map D.lst) eb
 -- the mill
 refine q_ifE (b:=b 0) (λq0=>z7 ns cs ps ls r b (av q0) (plD true ls) (au r) (av ps) (plD true ls)) (λq0=>Valid q0/\if b 0=true then sh q0=true else q0=ps) rfl ?_ ?_
 .cases b 0 with
  |true=>
   let⟨q,v,s,e⟩:=hsu ps x14' h0 h4 hP
   exact⟨q,⟨v,s⟩,eF (cY (k:=0) (ev_c (by rw[n5,consX_a,iH,consX_a,k14 _ _ rfl rfl];rfl) e) rfl rfl (by show 0<5;decide)) rfl⟩
  |false=>exact⟨ps,⟨pv,rfl⟩,rfl⟩
 intro q0 c0
 -- the plan
 refine q_ifE (b:=b 1) (λw1=>z7 ns cs ps ls r b (av q0) (d8 w1) (au r) (av ps) (plD true ls)) (λw1:List (T5)=>if b 1=true then w1.length<=1000/\wL ps w1=false else d8 w1=plD true ls) rfl ?_ ?_
 .cases hb:b 1 with
  |true=>
   let⟨ws,wl,wo,e⟩:=hsp ps ls x11' h0 h4 hP hl0 (!3) hO
   let⟨q,hq,eq⟩:=dD x7' (show 0<4 by decide)
   have c7:ao (bin2 (aE false) (bin2 aI (bin2 ixD (va 1) (cI 7)) (cI 4)) (cI 1)) (vw (z7 ns cs ps ls r b (av q0) (d8 ws) (au r) (av ps) (plD true ls)))=!(decide (q=1)):=by
    rw[testB_a,bin2_a,vk (n:=4) (k7 _ _ rfl rfl) rfl (!4) eq,Option.bind_some,cI_a,Option.bind_some,iB,Option.bind_some,asB_bl]
    show some (decide ((q:Int)=1))=_
    congr 1;rw[decide_eq_decide];omega
   have s1:=cY (i:=7) (fk:=cI 1) (k:=1) (Y:=z7 ns cs ps ls r b (av q0) (plD true ls) (au r) (av ps) (plD true ls)) (ev_c (xs:=x3 (va 2) (va 4) (bin2 ixD (va 1) (cI 11))) (by rw[ym,consX_a,n5,consX_a,iH,consX_a,k11 _ _ rfl rfl];rfl) e) rfl rfl (by show 1<5;decide)
   by_cases h:q=1
   .rw[decide_eq_true h]at c7
    let⟨p1,p2⟩:=BZ (A:=va 4) (B:=va 3) (Y:=vw (z7 ns cs ps ls r b (av q0) (d8 ws) (au r) (av ps) (plD true ls))) (W:=ls.map λl=>wN l.w) (congrArg some (jE ls)) rfl hl8 hw0 (by rw[length_map];omega)
    exact⟨_,⟨by rw[length_append,length_map,List.length_replicate];omega,B0 (by rw[length_append,length_map,List.length_replicate];omega)⟩,eF s1 (eF ((ifS_t c7).trans (eF (cY (k:=1) (qP p1 p2 (oi _)) rfl rfl (by show 1<5;decide)) rfl)) rfl)⟩
   .rw[decide_eq_false h]at c7
    exact⟨ws,⟨wl,wo⟩,eF s1 (eF ((aW c7).trans rfl) rfl)⟩
  |false=>exact⟨ls.map λl:Lt=>wN l.w,show d8 _=_ from(jE ls).symm,by rw[<-jE];rfl⟩
 intro w1 c1
 -- the coming
 refine q_ifE (b:=b 2) (λy2=>z7 ns cs ps ls r b (av q0) (d8 w1) (bg y2) (av ps) (plD true ls)) (λy2=>if b 2=true then Fd ls.length y2 else y2=wN r) rfl ?_ ?_
 .cases b 2 with
  |true=>
   let⟨y,ty,e⟩:=htn r ls.length x10' pm hl0 (!3)
   exact⟨y,ty,eF (cY (k:=2) (ev_c (by rw[n5,consX_a,iH,consX_a,k10 _ _ rfl rfl];rfl) e) rfl rfl (by show 2<5;decide)) rfl⟩
  |false=>exact⟨wN r,rfl,by rw[<-ly];rfl⟩
 intro y2 c2
 -- the other mill
 refine q_ifE (b:=b 3) (λq3=>z7 ns cs ps ls r b (av q0) (d8 w1) (bg y2) (av q3) (plD true ls)) (λq3=>Valid q3/\if b 3=true then sh q3=true else q3=ps) rfl ?_ ?_
 .cases b 3 with
  |true=>
   let⟨q,v,s,e⟩:=hsu ps x9' h0 h4 hP
   exact⟨q,⟨v,s⟩,eF (cY (k:=3) (ev_c (by rw[n5,consX_a,iH,consX_a,k9 _ _ rfl rfl];rfl) e) rfl rfl (by show 3<5;decide)) rfl⟩
  |false=>exact⟨ps,⟨pv,rfl⟩,rfl⟩
 intro q3 c3
 -- the other plan
 refine q_ifE (b:=b 4) (λz:(Nat->Bool)×List (T5)=>z7 ns cs ps ls r z.1 (av q0) (d8 w1) (bg y2) (av q3) (d8 z.2)) (λz=>(z.1 0=b 0/\z.1 1=b 1/\z.1 2=b 2/\z.1 3=b 3)/\if z.1 4=true then(z.2.length<=1000/\wL ps z.2=false)\/∃l2,d8 z.2=plD true l2/\Pln ps l2/\ls.length≠l2.length else d8 z.2=plD true ls) rfl ?_ ?_
 .cases hb:b 4 with
  |true=>
   let⟨ws,wl,wo,e⟩:=hsp ps ls x8' h0 h4 hP hl0 (!3) hO
   exact⟨(b,ws),⟨⟨rfl,rfl,rfl,rfl⟩,by rw[if_pos hb];exact .inl ⟨wl,wo⟩⟩,eF (cY (k:=4) (ev_c (by rw[ym,consX_a,n5,consX_a,iH,consX_a,k8 _ _ rfl rfl];rfl) e) rfl rfl (by show 4<5;decide)) rfl⟩
  |false=>
   cases hb5:b 5 with
   |false=>exact⟨(b,ls.map λl=>wN l.w),⟨⟨rfl,rfl,rfl,rfl⟩,by rw[if_neg (show¬b 4=true by rw[hb];exact Uj)];exact(jE ls).symm⟩,by rw[<-jE];exact q_if0 (Y:=z7 ns cs ps ls r b (av q0) (d8 w1) (bg y2) (av q3) (plD true ls)) (congrArg some hb5) rfl⟩
   |true=>
    let⟨w4,h4',e4⟩:=B3 (ns:=ns) (cs:=cs) (r:=r) (b:=b) (a0:=av q0) (a1:=d8 w1) (a2:=bg y2) (a3:=av q3) (a4:=plD true ls) P hl0 hl8 k6
    refine⟨(λk=>if k=4 then true else b k,w4),⟨⟨rfl,rfl,rfl,rfl⟩,h4'⟩,eF ((ifS_t (congrArg some hb5)).trans (eF (cY (k:=4) e4 rfl rfl (by show 4<5;decide)) (eF (iD (k:=4) (d:=.bl true) (evX_lf rfl rfl) rfl rfl (!4) (by show(4:Int)<6;decide)) rfl))) rfl⟩
 intro⟨b',w4⟩ ⟨⟨d0,d1,d2,d3⟩,c4⟩
 dsimp only at d0 d1 d2 d3 c4⊢
 rw[<-d0]at c0
 rw[<-d1]at c1
 rw[<-d2]at c2
 rw[<-d3]at c3
 have F:Fst ps ls r b' q0 w1 y2 q3 w4:=⟨P,pm,c0,c1,c2,c3,c4⟩
 have m0:=wJ hmi c0.1
 have m3:=wJ hmi c3.1
 refine q_set (evX_fz (d:=ae q0) ?_ rfl rfl rfl rfl rfl) (q_set (evX_sh (d:=ae q3) ?_ rfl rfl rfl rfl ?_) (Nu (n:=4) (v:=λi=>(i:Int)) (λ_ Y=>∃o10 o11,Y=z9 ns cs ps ls r b' (av q0) (d8 w1) (bg y2) (av q3) (d8 w4) (ae q0) (ae q3) o10 o11) (iz (cJ (n:=4) (!4))) ⟨none,none,rfl⟩ ?_ ?_))
 .rw[wh];exact congrArg (uA "Mill") m0
 .rw[wh];exact congrArg (uA "Mill") m3
 .rw[wh];exact congrArg (uA "Mill") m3
 .rintro i Y hi ⟨o10,o11,rfl⟩
  have e:=hto _ _ _ _ _ _ _ _ _ F i (!3)
  refine⟨z9 ns cs ps ls r b' (av q0) (d8 w1) (bg y2) (av q3) (d8 w4) (ae q0) (ae q3) (sn (iN i)) (dp (.str (Kr i b'))),q_set (ev_c rfl e) (q_if0 ?_ rfl),_,_,rfl⟩
  rw[testB_a,bin2_a,clF_a]
  refine(congrArg (λo=>((gT o).bind λy=>aE true (.str (Kr i b')) y).bind D.asB) (hdu i b' (!3))).trans ?_
  show(aE true (.str _) (.str _)).bind D.asB=_
  rw[AG];simp
 .rintro Y ⟨o10,o11,rfl⟩
  exact cZ (evX_lf rfl rfl)
end K42
namespace K42
open PySem PySem.Spec PyProof.Rows L2
noncomputable def  R8(N P:T3)(sc:Scope):Bool:=decide (sc.kind=.function)&&(not sc.isCoroutine&&(not sc.isGenerator&&(decide N.Nodup&&(decide (N.take P.length=P)&&((P.all λx=>decide (sc.names.lookup x=some .local)||decide (sc.names.lookup x=some .cell))&&sc.names.all λy=>not (decide (y.2=.free)))))))
def KA(h:R8 N P g=true:=by kernel_rfl):FnScope N P g:=by
 simp only[R8,and_eq_true,decide_eq_true_eq,Bool.not_eq_true',List.all_eq_true,Bool.or_eq_true,decide_eq_false_iff_not]at h;exact⟨h.1,h.2.1,h.2.2.1,h.2.2.2.1,h.2.2.2.2.1,h.2.2.2.2.2.1,h.2.2.2.2.2.2⟩
def  G0:Gb where
 fn:=λ_=>none
 cn:=λx=>if x=("KINDS":Str)then !(.tup [(.str "queue"),(.str "pile")])else if x=("MOST_PASSES":Str)then !(.int 6)else if x=("MOST_POCKETS":Str)then !(.int 6)else if x=("MOST_WIDTH":Str)then !(.int 9)else if x=("MOST_CODES":Str)then !(.int 1000)else if x=("MOST_SIZE":Str)then !(.int 9)else if x=("MOST_LETTERS":Str)then !(.int 24)else none
 no:=λx=>if x=("all":Str)then true else if x=("any":Str)then true else if x=("bool":Str)then true else if x=("enumerate":Str)then true else if x=("int":Str)then true else if x=("isinstance":Str)then true else if x=("len":Str)then true else if x=("list":Str)then true else if x=("range":Str)then true else if x=("reversed":Str)then true else if x=("sorted":Str)then true else if x=("tuple":Str)then true else if x=("zip":Str)then true else false
 fl:=λC m=>if C=("Mill":Str)/\m=("passes":Str)then true else false
 mt:=λ_ _=>none
 ini:=λ_=>none
noncomputable def  XN:T3:=["BadMill","BadLate","BadWord","BadCode","BadSize","BadLetters","BadPlan","BadCount","BadRow","BadPrices","NoRow","Shut"]
noncomputable def  XR:T3:=["BadMill","BadLate","BadWord","BadCode","BadSize","BadLetters","BadPlan","BadRow","Shut"]
def  tb:Str->Str->Option Bool:=pM XN
def  hb:Str->Bool:=Rc XN
def  Z0:Zn:=⟨λx=>decide (x∈XR),λ_=>none,λ_=>none⟩
abbrev fD(k i n:Nat)(N:T3)(G:Gb):TJ:=tN 60 k N (N.take n) (top i) G
def  lz(x:Str)(st:Stmt)(ps:T3)(us:TY):Prop:=∀(qual:Str)(kV doc pm:Value)(an:Option Addr)(cdv ct:Value),bindArgs (PySem.W.fnOf x qual (cm st) (aU st) (aj st) .none kV doc pm an cdv ct) ⟨us,[]⟩=pure (ps.zip us)
def N7{st}(e:ps.length=1)(h:∀g,lz x st ps [g]):bQ x st ps:=λq k d p a c t j l=>match j,l.trans e with|[g],_=>h g q k d p a c t
def Rk{st}(e:ps.length=2)(h:∀j g,lz x st ps [j,g]):bQ x st ps:=λq k d p a c t l o=>match l,o.trans e with|[j,g],_=>h j g q k d p a c t
def R9{st}(e:ps.length=3)(h:∀l j g,lz x st ps [l,j,g]):bQ x st ps:=λq k d p a c t o r=>match o,r.trans e with|[l,j,g],_=>h l j g q k d p a c t
def Sa{st}(e:ps.length=4)(h:∀o l j g,lz x st ps [o,l,j,g]):bQ x st ps:=λq k d p a c t r C=>match r,C.trans e with|[o,l,j,g],_=>h o l j g q k d p a c t
def Sb{x:Str}{st:Stmt}{ps:T3}(e:ps.length=5)(h:∀u0 u1 u2 u3 u4,lz x st ps [u0,u1,u2,u3,u4]):bQ x st ps:=λq k d p a c t us hl=>match us,hl.trans e with|[u0,u1,u2,u3,u4],_=>h u0 u1 u2 u3 u4 q k d p a c t
def Tt{x:Str}{st:Stmt}{ps:T3}(e:ps.length=6)(h:∀u0 u1 u2 u3 u4 u5,lz x st ps [u0,u1,u2,u3,u4,u5]):bQ x st ps:=λq k d p a c t us hl=>match us,hl.trans e with|[u0,u1,u2,u3,u4,u5],_=>h u0 u1 u2 u3 u4 u5 q k d p a c t
def  aJ:TJ:=fD 0 21 3 ["value","least","most"] G0
def  G1:Gb:=addF G0 "is_within" 1 aJ
def  dN:TJ:=fD 1 23 1 ["pocket"] G1
def  G2:Gb:=addF G1 "is_pocket" 2 dN
def  je:TJ:=fD 2 24 1 ["pockets","pocket"] G2
def  G3:Gb:=addF G2 "is_pass" 3 je
def  bA:TJ:=fD 3 26 1 ["passes","product","pockets"] G3
def  G4:Gb:=addF G3 "codes_of" 4 bA
def  bR:TJ:=fD 4 25 1 ["passes","pockets"] G4
def  G5:Gb:=addF G4 "are_passes" 5 bR
noncomputable abbrev dm:T3:=["self","passes","pockets"]
noncomputable abbrev fI:T3:=["self","passes"]
def j0:FnScope dm fI (aj aK):=KA
def kB:bQ "__init__" aK fI:=Rk rfl λ_ _ _ _ _ _ _ _ _=>rfl
def kI(y:Addr):IW 60 (uP dm aK 5 G5) y (G0.fl "Mill") (aU aK)=nB bR y:=by kernel_rfl
def  iP:T9->Option (List (Str×D)):=gM bR
def  G6:Gb:=addI G5 "Mill" 6 iP
def  a9:TJ:=fD 6 59 2 ["script","k"] G6
def  G7:Gb:=addF G6 "_law_cell_at" 7 a9
def  ci:TJ:=fD 7 60 2 ["cell","at","k"] G7
def  G8:Gb:=addF G7 "_law_part" 8 ci
def  dq:TJ:=fD 8 61 2 ["script","many","stir","cell","cells","k","at"] G8
def  G9:Gb:=addF G8 "_law_cells" 9 dq
def  aQ:TJ:=fD 9 62 1 ["cell","many","pockets","k","kind"] G9
def  Sc:Gb:=addF G9 "_law_pockets" 10 aQ
def  cM:TJ:=fD 10 63 2 ["cells","at","k"] Sc
def  Sd:Gb:=addF Sc "_law_passes" 11 cM
def  dO:TJ:=fD 11 64 4 ["cells","at","passes","count","plan","letter","cell","k"] Sd
def  Se:Gb:=addF Sd "_law_plan" 12 dO
def  cO:TJ:=fD 12 65 3 ["cells","at","count","coming","letter"] Se
def  Sf:Gb:=addF Se "_law_coming" 13 cO
def  c5:TJ:=fD 13 66 2 ["passes","cell","at","place","part"] Sf
def  Sg:Gb:=addF Sf "_law_shut" 14 c5
def  b6:TJ:=fD 14 67 3 ["passes","plan","cell","letter","word","at","many","beyond","far"] Sg
def  Sh:Gb:=addF Sg "_law_spoilt" 15 b6
def  dP:TJ:=fD 15 68 2 ["coming","cell","at","twice"] Sh
def  Si:Gb:=addF Sh "_law_torn" 16 dP
def  iQ:TJ:=fD 16 44 5 ["letters","plan","step","pockets","row","heaps","letter","pocket"] Si
def  Sj:Gb:=addF Si "filled" 17 iQ
def  gj:TJ:=fD 17 45 2 ["pockets","heaps","row","pocket","heap"] Sj
def  Sk:Gb:=addF Sj "emptied" 18 gj
def  dQ:TJ:=fD 18 48 1 ["row","letter"] Sk
def  Sm:Gb:=addF Sk "is_row" 19 dQ
def  aZ:TJ:=fD 19 50 1 ["plan","word"] Sm
def  So:Gb:=addF Sm "letters_of" 20 aZ
def  eH:TJ:=fD 20 22 1 ["size"] So
def  OP:Gb:=addF So "is_size" 21 eH
noncomputable abbrev jG:T3:=["self"]
noncomputable abbrev fS:T3:=["self"]
def oj:FnScope jG fS (aj bX):=KA
def oJ:bQ "many" bX fS:=N7 rfl λ_ _ _ _ _ _ _ _=>rfl
def  iR:TJ:=tN 60 21 jG fS bX OP
def oK:iR=aR 1 1 (lS G0.fl):=by kernel_rfl
def  G22:Gb:=addM OP "many" "Mill" 22 iR
def  eI:TJ:=fD 22 28 2 ["mill","late"] G22
def  Sq:Gb:=addF G22 "is_late" 23 eI
def  fJ:TJ:=fD 23 40 2 ["mill","letter"] Sq
def  Sr:Gb:=addF Sq "is_letter" 24 fJ
def  bf:TJ:=fD 24 41 2 ["mill","letters","letter"] Sr
def  Ss:Gb:=addF Sr "look_at_letters" 25 bf
def  dE:TJ:=fD 25 29 3 ["mill","late","word","passes","number","pockets"] Ss
def  Su:Gb:=addF Ss "is_word" 26 dE
def  bJ:TJ:=fD 26 30 2 ["mill","late"] Su
def  Sv:Gb:=addF Su "look_at_late" 27 bJ
def  bb:TJ:=fD 27 31 3 ["mill","late","word"] Sv
def  Sw:Gb:=addF Sv "look_at_word" 28 bb
def  bn:TJ:=fD 28 32 3 ["mill","late","word","number","pockets"] Sw
def  Sx:Gb:=addF Sw "pockets_of" 29 bn
def  qY:TJ:=fD 29 37 4 ["mill","late","word","size","kind","width"] Sx
def  Sy:Gb:=addF Sx "fits" 30 qY
def  bB:TJ:=fD 30 42 3 ["mill","letter","word"] Sy
def  OQ:Gb:=addF Sy "is_word_for" 31 bB
noncomputable abbrev gk:T3:=["mill","letters","plan","letter","word"]
noncomputable abbrev gm:T3:=["mill","letters","plan"]
def  dt:TJ:=tN 60 31 gk gm cq OQ
def  OR:Gb:=addF OQ "look_at_plan" 32 dt
def  cv:T9->Option Str:=Cu 60 31 gk gm cq OQ Z0
def  Rl:Zn:=jB Z0 "look_at_plan" 32 cv
noncomputable abbrev fj:T3:=["mill","pockets","kind","width"]
noncomputable abbrev fu:T3:=["mill"]
def  bq:TJ:=tN 60 32 fj fu bM OR
def  OS:Gb:=addF OR "look_at_widths" 33 bq
def  bS:T9->Option Str:=Cu 60 32 fj fu bM OR Rl
def  Rm:Zn:=jB Rl "look_at_widths" 33 bS
noncomputable abbrev fK:T3:=["mill","plan"]
noncomputable abbrev fL:T3:=["mill","plan"]
def  aC:TJ:=tN 60 33 fK fL b8 OS
def  OT:Gb:=addF OS "look_at_words" 34 aC
def  ax:T9->Option Str:=Cu 60 33 fK fL b8 OS Rm
def  Rn:Zn:=jB Rm "look_at_words" 34 ax
noncomputable abbrev kJ:T3:=["mill","plan","coming","row","step","pockets"]
noncomputable abbrev kK:T3:=["mill","plan","coming"]
def  cj:TJ:=tN 60 34 kJ kK eu OT
def  Sz:Gb:=addF OT "end_from" 35 cj
def  dv:T9->Option Str:=Cu 60 34 kJ kK eu OT Rn
def  Ro:Zn:=jB Rn "end_from" 35 dv
def  j2:TJ:=fD 35 33 3 ["kind","ahead","code"] Sz
def  SD:Gb:=addF Sz "laid" 36 j2
def  bo:TJ:=fD 36 34 3 ["mill","late","word","ahead","code","number","pockets"] SD
def  SF:Gb:=addF SD "word_code" 37 bo
def  iS:TJ:=fD 37 36 3 ["mill","late","word","piles","kind","width"] SF
def  OU:Gb:=addF SF "face" 38 iS
noncomputable abbrev lV:T3:=["mill","plan","members","letter","word","code"]
noncomputable abbrev lW:T3:=["mill","plan"]
def  dF:TJ:=tN 60 38 lV lW fC OU
def  OV:Gb:=addF OU "classes" 39 dF
def  ck:T9->Option Str:=Cu 60 38 lV lW fC OU Ro
def  Rp:Zn:=jB Ro "classes" 39 ck
noncomputable abbrev fw:T3:=["plan","other"]
noncomputable abbrev fy:T3:=["plan","other"]
def  cx:TJ:=tN 60 39 fw fy bN OV
def  OW:Gb:=addF OV "look_at_counts" 40 cx
def  bT:T9->Option Str:=Cu 60 39 fw fy bN OV Rp
def  Rq:Zn:=jB Rp "look_at_counts" 40 bT
noncomputable abbrev lX:T3:=["mill","plan","other_mill","other_plan","rising","coming"]
noncomputable abbrev lY:T3:=["mill","plan","other_mill","other_plan"]
def  gp:TJ:=tN 60 40 lX lY fE OW
def  OX:Gb:=addF OW "parting" 41 gp
def  dR:T9->Option Str:=Cu 60 40 lX lY fE OW Rq
def  Rr:Zn:=jB Rq "parting" 41 dR
noncomputable abbrev iT:T3:=["self"]
noncomputable abbrev fz:T3:=["self"]
def mn:FnScope iT fz (aj bD):=KA
def om:bQ "codes" bD fz:=N7 rfl λ_ _ _ _ _ _ _ _=>rfl
def  gI:TJ:=tN 60 41 iT fz bD OX
def oo:gI=aR 1 1 (gH G0.fl bA):=by kernel_rfl
def  G42:Gb:=addM OX "codes" "Mill" 42 gI
def  bL:TJ:=fD 42 35 3 ["mill","late","code","numbers","ahead","left","pockets","number"] G42
def  SG:Gb:=addF G42 "code_word" 43 bL
def  cU:TJ:=fD 43 56 2 ["members","side"] SG
def  OY:Gb:=addF SG "turns_letters" 44 cU
noncomputable abbrev gQ:T3:=["mill","plan","queues","pockets","word","code","members","side"]
noncomputable abbrev gR:T3:=["mill","plan"]
def  cP:TJ:=tN 60 44 gQ gR cQ OY
def  OZ:Gb:=addF OY "into_queues" 45 cP
def  bW:T9->Option Str:=Cu 60 44 gQ gR cQ OY Rr
def  SH:Zn:=jB Rr "into_queues" 45 bW
noncomputable abbrev jH:T3:=["way","mill","plan","other_mill","other_plan","coming","told","e","kinds","other"]
noncomputable abbrev fT:T3:=["way","mill","plan","other_mill","other_plan","coming"]
def oq:FnScope jH fT (aj cE):=KA
def oM:bQ "_law_told" cE fT:=Tt rfl λ_ _ _ _ _ _ _ _ _ _ _ _ _=>rfl
def  c6:TJ:=Nq 60 45 jH fT cE OZ SH tb hb
def  Rs:Gb:=addF OZ "_law_told" 46 c6
def  fA:TJ:=fD 46 70 2 ["way","spoilt"] Rs
def  SI:Gb:=addF Rs "_law_due" 47 fA
noncomputable abbrev wS:T3:=["script","cells","passes","count","plan","coming","spoilt","first","mill","other_mill","way","told","k"]
noncomputable abbrev qZ:T3:=["script"]
def B4:FnScope wS qZ (aj j6):=KA
def Fg:bQ "law" j6 qZ:=N7 rfl λ_ _ _ _ _ _ _ _=>rfl
def  GB:TJ:=tN 60 47 wS qZ j6 SI
def Fh:GB=aR 1 13 (wR fA c6 iP b6 c5 dP cO dO aQ cM dq):=by kernel_rfl
structure Tx(K:Frag):Prop where
 v0:a8 K "is_within" jk
 v1:a8 K "is_pocket" jm
 v2:a8 K "is_pass" lA
 v3:a8 K "codes_of" j4
 v4:a8 K "are_passes" gU
 v5:a8 K "_law_cell_at" fU
 v6:a8 K "_law_part" jn
 v7:a8 K "_law_cells" gV
 v8:a8 K "_law_pockets" fV
 v9:a8 K "_law_passes" gJ
 v10:a8 K "_law_plan" jo
 v11:a8 K "_law_coming" gK
 v12:a8 K "_law_shut" jp
 v13:a8 K "_law_spoilt" gL
 v14:a8 K "_law_torn" jq
 v15:a8 K "filled" mC
 v16:a8 K "emptied" lB
 v17:a8 K "is_row" mD
 v18:a8 K "letters_of" gW
 v19:a8 K "is_size" lC
 v20:a8 K "is_late" lD
 v21:a8 K "is_letter" jr
 v22:a8 K "look_at_letters" d9
 v23:a8 K "is_word" lE
 v24:a8 K "look_at_late" fW
 v25:a8 K "look_at_word" fX
 v26:a8 K "pockets_of" gX
 v27:a8 K "fits" rz
 v28:a8 K "is_word_for" gN
 v29:a8 K "look_at_plan" cq
 v30:a8 K "look_at_widths" bM
 v31:a8 K "look_at_words" b8
 v32:a8 K "end_from" eu
 v33:a8 K "laid" rA
 v34:a8 K "word_code" js
 v35:a8 K "face" rB
 v36:a8 K "classes" fC
 v37:a8 K "look_at_counts" bN
 v38:a8 K "parting" fE
 v39:a8 K "code_word" jt
 v40:a8 K "turns_letters" fF
 v41:a8 K "into_queues" cQ
 v42:a8 K "_law_told" cE
 v43:a8 K "_law_due" j5
 v44:a8 K "law" j6
 v45:oH K "Mill" "__init__" "Mill.__init__" aK
 v46:oH K "Mill" "many" "Mill.many" bX
 v47:oH K "Mill" "codes" "Mill.codes" bD
 v48:TCls K "Mill"
 v49:∃Ca,nsIn K mainGlobals "Mill"=!(!(.ref Ca))/\findIn K (.ref Ca) "passes"=!none
 v50:∃(a:Addr)(od:Option Addr)(n:Nat)(sl:Array (TZ))(t0:Tok)(t1:Tok),nsIn K mainGlobals "KINDS"=!(!(.ref a))/\K.lookup a=!⟨.type "tuple",od,.seq #[.str "queue" t0,.str "pile" t1] n,sl⟩
 v51:∃t,nsIn K mainGlobals "MOST_PASSES"=!(!(.int 6 t))
 v52:∃t,nsIn K mainGlobals "MOST_POCKETS"=!(!(.int 6 t))
 v53:∃t,nsIn K mainGlobals "MOST_WIDTH"=!(!(.int 9 t))
 v54:∃t,nsIn K mainGlobals "MOST_CODES"=!(!(.int 1000 t))
 v55:∃t,nsIn K mainGlobals "MOST_SIZE"=!(!(.int 9 t))
 v56:∃t,nsIn K mainGlobals "MOST_LETTERS"=!(!(.int 24 t))
 v57:nsIn K mainGlobals "all"=!none
 v58:nsIn K mainGlobals "any"=!none
 v59:nsIn K mainGlobals "bool"=!none
 v60:nsIn K mainGlobals "enumerate"=!none
 v61:nsIn K mainGlobals "int"=!none
 v62:nsIn K mainGlobals "isinstance"=!none
 v63:nsIn K mainGlobals "len"=!none
 v64:nsIn K mainGlobals "list"=!none
 v65:nsIn K mainGlobals "range"=!none
 v66:nsIn K mainGlobals "reversed"=!none
 v67:nsIn K mainGlobals "sorted"=!none
 v68:nsIn K mainGlobals "tuple"=!none
 v69:nsIn K mainGlobals "zip"=!none
 v70:TExc K "BadMill"
 v71:TExc K "BadLate"
 v72:TExc K "BadWord"
 v73:TExc K "BadCode"
 v74:TExc K "BadSize"
 v75:TExc K "BadLetters"
 v76:TExc K "BadPlan"
 v77:TExc K "BadRow"
 v78:TExc K "Shut"
 xs:TXs K XN
def dS:dH aJ:=tr (AM)
def B5:wq eH:=tr (Jc dS)
def B6:qC dN:=tr (AN dS)
def KC:AO je:=tr (Jd B6)
def q9:lm bA:=tr (D4)
def N8:Je bR:=tr (M6 KC q9)
def B7:sJ iP:=Jf N8
def iU:G0.fl "Mill" "passes"=true:=by kernel_rfl
def KD:F8 (G22.mt "many") 22:=λps=>by
 have e:G22.mt "many" "Mill"=!(22,iR):=by kernel_rfl
 show((G22.mt "many" "Mill").bind λz=>if z.1<=22/\("many":Str) ∉ [("passes":Str)]then z.2 [ae ps]else none)=_;rw[e];simp only[Option.bind_some];rw[if_pos (!4),oK];exact Jg iU ps
def B8:wr eI:=tr (Jh KD dS)
def B9:wt dE:=tr (Ji dS iU)
def wT:qD bJ:=tr (D6 B8)
def rc:nM bb:=tr (D7 B9 wT)
def wU:qE bn:=tr (D8 iU)
def Cd:wv j2:=tr (Jm)
def Ce:ww bo:=tr (Jn iU Cd q9 rc)
def Rt:R4 (G42.mt "codes") 42:=λps hv=>by
 have e:G42.mt "codes" "Mill"=!(42,gI):=by kernel_rfl
 show((G42.mt "codes" "Mill").bind λz=>if z.1<=42/\("codes":Str) ∉ [("passes":Str)]then z.2 [ae ps]else none)=_;rw[e];simp only[Option.bind_some];rw[if_pos (!4),oo];exact Rh iU q9 hv
def Fi:J5 bL:=tr (EU iU Cd Rt dS wT)
def KE:AX iS:=tr (Jo wU rc)
def Cf:wu qY:=tr (Jj wU B5 rc)
def Cg:qL fJ:=tr (Br B8 B5)
def tw:my bf:=tr (Bt Cg)
def N9:JL bB:=tr (Nr Cf B9)
def Ch:qM dt:=tr (Bu N9 tw)
def KF:Bw iQ:=tr (JM)
def Fj:u6 gj:=tr (EA)
def GC:ED bq:=tr (Nw iU)
def wV:qQ dQ:=tr (EF dS)
def GD:EG aZ:=tr (Nx)
def tz:u7 aC:=tr (Ny GD Ch GC)
def Ci:wF cj:=tr (JR iU GD KF Fj wV tz)
def KG:AT a9:=tr (Jk)
def KH:AU ci:=tr (Jl)
def Fk:qF dq:=tr (EI KG KH)
def GE:EK aQ:=tr (ND)
def Oa:JU cM:=tr (NE GE)
def KI:BD dO:=tr (JZ)
def GF:EO dF:=tr (NI KE Ce tz)
def Ob:J3 cx:=tr (NJ)
def Fl:vc gp:=tr (ES Ci Ob tz)
def KJ:BK cU:=tr J6 (!1)
def KL:vd cP:=tr (J7 Ce Fi iU B7 GF KJ)
def Fm:ve dE:=tr (EV dS iU)
def KM:BL bB:=tr (J9 Cf Fm)
def KN:BQ aZ:=tr (Kg)
def Ru:Kd dQ:=tr (NT dS)
def Fo:BN cv:=tr (EW tw KM)
def KO:Ke bS:=tr (Kf iU)
def vm:yq ax:=tr (Kh KO GC KN Fo)
def KP:Kj ax dQ dv:=tr (Kk vm tz)
def Cj:vg ax ck:=tr (Kn)
def KQ:Kl bT:=tr (Km)
def Fp:BR ax dR:=tr (Fa vm tz KQ)
def Fq:vg ax bW:=tr (E9 Cj)
def KR:sTold dv ck bW dR cj dF cP gp c6:=tr (Kq)
def Oc:Ks fA:=tr (NX)
def Rv:R7 c6:=λ_ _ _ _ _ _ _ _ _ F=>N2 KR vm KP Cj Fq Fp wV Ru Ci GF KL Fl F
def KS:BV c5:=tr (Kt)
def Ck:qX b6:=tr (BX)
def KT:BY dP:=tr (Kv)
def Od:Ka cO:=tr (NR)
def Oe:∀ns:T5,ns.length<=63->gT (GB [.lst (ns.map D.int)])=!(.bl true):=λns hn=>by
 rw[Fh];exact congrArg gT (N6 Oc Rv B7 Ck KS KT Od KI GE Oa Fk ns hn)
def fB{K}{st}(f:Addr)(z:Str)(n c:Nat)(a:(nsIn K mainGlobals x,K.lookup f,PySem.W.codeIn K (.ref c) x,PySem.W.keepIn K (.ref f))=(!(!(.ref f)),!⟨.type "function",none,.func (PySem.W.fnOf x x (cm st) (aU st) (aj st) .none .none .none (.str z n) none (.ref c) .none),#[]⟩,true,true):=by kernel_rfl):a8 K x st:=by
 simp only[Prod.mk.injEq]at a;exact Q0 a.1 a.2.1 a.2.2.1 a.2.2.2
def kL(P:Params):oH (KK P) "Mill" "__init__" "Mill.__init__" aK:=Jq (Ca:=239) (f:=222) (oc:=(.type "function")) (od:=none) (an:=none) (osl:=#[]) (kV:=.none) (doc:=.none) (pm:=(.str "pocketmill.mills" 399)) (cdv:=(.ref 221)) (ct:=.none) (!1) (!1) (!1) (!1) (!1) (!1)
def oN(P:Params):oH (KK P) "Mill" "many" "Mill.many" bX:=Jq (Ca:=239) (f:=236) (oc:=(.type "function")) (od:=none) (an:=none) (osl:=#[]) (kV:=.none) (doc:=.none) (pm:=(.str "pocketmill.mills" 399)) (cdv:=(.ref 235)) (ct:=.none) (!1) (!1) (!1) (!1) (!1) (!1)
def ot(P:Params):oH (KK P) "Mill" "codes" "Mill.codes" bD:=Jq (Ca:=239) (f:=229) (oc:=(.type "function")) (od:=none) (an:=none) (osl:=#[]) (kV:=.none) (doc:=.none) (pm:=(.str "pocketmill.mills" 399)) (cdv:=(.ref 228)) (ct:=.none) (!1) (!1) (!1) (!1) (!1) (!1)
def tB(P:Params):TExc (KK P) "BadMill":=qK (nm:="BadMill") (qn:="BadMill") (C:=37) (N:=36) (bs:=[(.ref 24)]) (bm:=[(.ref 24),(!15),(.type "Exception"),(!10),(.type "object")]) (hdct:=true) (sn:=[]) (sub:=[]) (ab:=false) (col:=none) (dd:=none) (k0:=(!(.ref 28))) (k1:=none) (k2:=(!(.str "BadMill" 207))) (k3:=(!(.str "BadMill" 215))) (k5:=(!(.bool true))) (!1) (!1) (!1) (!1) (!1)
def tD(P:Params):TExc (KK P) "BadLate":=qK (nm:="BadLate") (qn:="BadLate") (C:=49) (N:=48) (bs:=[(.ref 24)]) (bm:=[(.ref 24),(!15),(.type "Exception"),(!10),(.type "object")]) (hdct:=true) (sn:=[]) (sub:=[]) (ab:=false) (col:=none) (dd:=none) (k0:=(!(.ref 40))) (k1:=none) (k2:=(!(.str "BadLate" 223))) (k3:=(!(.str "BadLate" 231))) (k5:=(!(.bool true))) (!1) (!1) (!1) (!1) (!1)
def tE(P:Params):TExc (KK P) "BadWord":=qK (nm:="BadWord") (qn:="BadWord") (C:=61) (N:=60) (bs:=[(.ref 24)]) (bm:=[(.ref 24),(!15),(.type "Exception"),(!10),(.type "object")]) (hdct:=true) (sn:=[]) (sub:=[]) (ab:=false) (col:=none) (dd:=none) (k0:=(!(.ref 52))) (k1:=none) (k2:=(!(.str "BadWord" 239))) (k3:=(!(.str "BadWord" 247))) (k5:=(!(.bool true))) (!1) (!1) (!1) (!1) (!1)
def tF(P:Params):TExc (KK P) "BadCode":=qK (nm:="BadCode") (qn:="BadCode") (C:=73) (N:=72) (bs:=[(.ref 24)]) (bm:=[(.ref 24),(!15),(.type "Exception"),(!10),(.type "object")]) (hdct:=true) (sn:=[]) (sub:=[]) (ab:=false) (col:=none) (dd:=none) (k0:=(!(.ref 64))) (k1:=none) (k2:=(!(.str "BadCode" 255))) (k3:=(!(.str "BadCode" 263))) (k5:=(!(.bool true))) (!1) (!1) (!1) (!1) (!1)
def tH(P:Params):TExc (KK P) "BadSize":=qK (nm:="BadSize") (qn:="BadSize") (C:=85) (N:=84) (bs:=[(.ref 24)]) (bm:=[(.ref 24),(!15),(.type "Exception"),(!10),(.type "object")]) (hdct:=true) (sn:=[]) (sub:=[]) (ab:=false) (col:=none) (dd:=none) (k0:=(!(.ref 76))) (k1:=none) (k2:=(!(.str "BadSize" 271))) (k3:=(!(.str "BadSize" 279))) (k5:=(!(.bool true))) (!1) (!1) (!1) (!1) (!1)
def ou(P:Params):TExc (KK P) "BadLetters":=qK (nm:="BadLetters") (qn:="BadLetters") (C:=97) (N:=96) (bs:=[(.ref 24)]) (bm:=[(.ref 24),(!15),(.type "Exception"),(!10),(.type "object")]) (hdct:=true) (sn:=[]) (sub:=[]) (ab:=false) (col:=none) (dd:=none) (k0:=(!(.ref 88))) (k1:=none) (k2:=(!(.str "BadLetters" 287))) (k3:=(!(.str "BadLetters" 295))) (k5:=(!(.bool true))) (!1) (!1) (!1) (!1) (!1)
def tI(P:Params):TExc (KK P) "BadPlan":=qK (nm:="BadPlan") (qn:="BadPlan") (C:=109) (N:=108) (bs:=[(.ref 24)]) (bm:=[(.ref 24),(!15),(.type "Exception"),(!10),(.type "object")]) (hdct:=true) (sn:=[]) (sub:=[]) (ab:=false) (col:=none) (dd:=none) (k0:=(!(.ref 100))) (k1:=none) (k2:=(!(.str "BadPlan" 303))) (k3:=(!(.str "BadPlan" 311))) (k5:=(!(.bool true))) (!1) (!1) (!1) (!1) (!1)
def vn(P:Params):TExc (KK P) "BadRow":=qK (nm:="BadRow") (qn:="BadRow") (C:=133) (N:=132) (bs:=[(.ref 24)]) (bm:=[(.ref 24),(!15),(.type "Exception"),(!10),(.type "object")]) (hdct:=true) (sn:=[]) (sub:=[]) (ab:=false) (col:=none) (dd:=none) (k0:=(!(.ref 124))) (k1:=none) (k2:=(!(.str "BadRow" 335))) (k3:=(!(.str "BadRow" 343))) (k5:=(!(.bool true))) (!1) (!1) (!1) (!1) (!1)
def Cm(P:Params):TExc (KK P) "Shut":=qK (nm:="Shut") (qn:="Shut") (C:=169) (N:=168) (bs:=[(.ref 24)]) (bm:=[(.ref 24),(!15),(.type "Exception"),(!10),(.type "object")]) (hdct:=true) (sn:=[]) (sub:=[]) (ab:=false) (col:=none) (dd:=none) (k0:=(!(.ref 160))) (k1:=none) (k2:=(!(.str "Shut" 383))) (k3:=(!(.str "Shut" 391))) (k5:=(!(.bool true))) (!1) (!1) (!1) (!1) (!1)
def Rw(P:Params):TXs (KK P) XN:=Ts (M:=24) [("BadMill",37),("BadLate",49),("BadWord",61),("BadCode",73),("BadSize",85),("BadLetters",97),("BadPlan",109),("BadCount",121),("BadRow",133),("BadPrices",145),("NoRow",157),("Shut",169)] (!1) (!1) (!1) (!1)
def tx(P:Params):Tx (KK P):=⟨fB 179 gY 399 178,fB 193 gY 399 192,fB 198 gY 399 197,fB 210 gY 399 209,fB 203 gY 399 202,fB 408 lF 716 407,fB 415 lF 716 414,fB 420 lF 716 419,fB 427 lF 716 426,fB 432 lF 716 431,fB 437 lF 716 436,fB 444 lF 716 443,fB 451 lF 716 450,fB 458 lF 716 457,fB 465 lF 716 464,fB 334 yu 584 333,fB 341 yu 584 340,fB 351 Of 634 350,fB 356 tK 648 355,fB 186 gY 399 185,fB 250 gY 399 249,fB 312 yu 584 311,fB 317 yu 584 316,fB 255 gY 399 254,fB 262 gY 399 261,fB 269 gY 399 268,fB 274 gY 399 273,fB 305 gY 399 304,fB 324 yu 584 323,fB 329 yu 584 328,fB 346 Of 634 345,fB 363 tK 648 362,fB 377 tK 648 376,fB 281 gY 399 280,fB 288 gY 399 287,fB 300 gY 399 299,fB 382 tK 648 381,fB 370 tK 648 369,fB 389 tK 648 388,fB 295 gY 399 294,fB 396 tK 648 395,fB 401 tK 648 400,fB 472 lF 716 471,fB 479 lF 716 478,fB 484 lF 716 483,kL P,oN P,ot P,Q1 (Ca:=239) (!1) (!1) (!1) (!1) (!1) (!1) (!1),Tp (Ca:=239) (!1) (!1),M9 (a:=172) (od:=none) (n:=0) (sl:=#[]) (t0:=401) (t1:=402) (!1) (!1),yd (t:=404) (!1),yd (t:=406) (!1),yd (t:=408) (!1),yd (t:=410) (!1),yd (t:=412) (!1),yd (t:=586) (!1),(!1),(!1),(!1),(!1),(!1),(!1),(!1),(!1),(!1),(!1),(!1),(!1),(!1),tB P,tD P,tE P,tF P,tH P,ou P,tI P,vn P,Cm P,Rw P⟩
section
variable{P:Program}{w:World}{K:Frag}{mg:Str->TZ}{base h:Heap}
def gF{G:Gb}{N ps:T3}{st:Stmt}{x:Str}(z:K.In base/\base.Ns mainGlobals mg/\Tx K)(g:GbOk P w K mg base G)(k:Nat)(t:a8 K x st)(S:FnScope N ps (aj st):=by exact KA)(b:bQ x st ps:=by first|exact N7 rfl λ_ _ _ _ _ _ _ _=>rfl|exact Rk rfl λ_ _ _ _ _ _ _ _ _=>rfl|exact R9 rfl λ_ _ _ _ _ _ _ _ _ _=>rfl|exact Sa rfl λ_ _ _ _ _ _ _ _ _ _ _=>rfl|exact Sb rfl λ_ _ _ _ _ _ _ _ _ _ _ _=>rfl):GbOk P w K mg base (addF G x (k+1) (tN 60 k N ps st G)):=g.addF (MW g z.1 z.2.1 60 k S b t)
def zF{G:Gb}{Z:Zn}{N ps:T3}{st:Stmt}{x:Str}(z:K.In base/\base.Ns mainGlobals mg/\Tx K)(g:GbOk P w K mg base G)(q:ZOk P w K mg base Z)(k:Nat)(t:a8 K x st)(S:FnScope N ps (aj st):=by exact KA)(b:bQ x st ps:=by first|exact N7 rfl λ_ _ _ _ _ _ _ _=>rfl|exact Rk rfl λ_ _ _ _ _ _ _ _ _=>rfl|exact R9 rfl λ_ _ _ _ _ _ _ _ _ _=>rfl|exact Sa rfl λ_ _ _ _ _ _ _ _ _ _ _=>rfl|exact Sb rfl λ_ _ _ _ _ _ _ _ _ _ _ _=>rfl):ZOk P w K mg base (jB Z x (k+1) (Cu 60 k N ps st G Z)):=q.addf (Ng g q z.1 z.2.1 60 k S b t)
variable(z:K.In base/\base.Ns mainGlobals mg/\Tx K)
include z
def g0:GbOk P w K mg base G0 where
 fn:=λx k f e=>nomatch e
 cn:=λx d e=>by
  simp only[G0]at e;split at e
  .rename_i q;cases e;rw[q];exact cn_2str z.1 z.2.1 z.2.2.v50
  split at e
  .rename_i q;cases e;rw[q];exact cn_int z.1 z.2.1 z.2.2.v51
  split at e
  .rename_i q;cases e;rw[q];exact cn_int z.1 z.2.1 z.2.2.v52
  split at e
  .rename_i q;cases e;rw[q];exact cn_int z.1 z.2.1 z.2.2.v53
  split at e
  .rename_i q;cases e;rw[q];exact cn_int z.1 z.2.1 z.2.2.v54
  split at e
  .rename_i q;cases e;rw[q];exact cn_int z.1 z.2.1 z.2.2.v55
  split at e
  .rename_i q;cases e;rw[q];exact cn_int z.1 z.2.1 z.2.2.v56
  cases e
 no:=λx e=>by
  dsimp only[G0]at e;by_cases q:x=("all":Str)
  .rw[q];exact PySem.W.mg_none_of z.1 z.2.1 z.2.2.v57
  rw[if_neg q]at e;clear q;by_cases q:x=("any":Str)
  .rw[q];exact PySem.W.mg_none_of z.1 z.2.1 z.2.2.v58
  rw[if_neg q]at e;clear q;by_cases q:x=("bool":Str)
  .rw[q];exact PySem.W.mg_none_of z.1 z.2.1 z.2.2.v59
  rw[if_neg q]at e;clear q;by_cases q:x=("enumerate":Str)
  .rw[q];exact PySem.W.mg_none_of z.1 z.2.1 z.2.2.v60
  rw[if_neg q]at e;clear q;by_cases q:x=("int":Str)
  .rw[q];exact PySem.W.mg_none_of z.1 z.2.1 z.2.2.v61
  rw[if_neg q]at e;clear q;by_cases q:x=("isinstance":Str)
  .rw[q];exact PySem.W.mg_none_of z.1 z.2.1 z.2.2.v62
  rw[if_neg q]at e;clear q;by_cases q:x=("len":Str)
  .rw[q];exact PySem.W.mg_none_of z.1 z.2.1 z.2.2.v63
  rw[if_neg q]at e;clear q;by_cases q:x=("list":Str)
  .rw[q];exact PySem.W.mg_none_of z.1 z.2.1 z.2.2.v64
  rw[if_neg q]at e;clear q;by_cases q:x=("range":Str)
  .rw[q];exact PySem.W.mg_none_of z.1 z.2.1 z.2.2.v65
  rw[if_neg q]at e;clear q;by_cases q:x=("reversed":Str)
  .rw[q];exact PySem.W.mg_none_of z.1 z.2.1 z.2.2.v66
  rw[if_neg q]at e;clear q;by_cases q:x=("sorted":Str)
  .rw[q];exact PySem.W.mg_none_of z.1 z.2.1 z.2.2.v67
  rw[if_neg q]at e;clear q;by_cases q:x=("tuple":Str)
  .rw[q];exact PySem.W.mg_none_of z.1 z.2.1 z.2.2.v68
  rw[if_neg q]at e;clear q;by_cases q:x=("zip":Str)
  .rw[q];exact PySem.W.mg_none_of z.1 z.2.1 z.2.2.v69
  rw[if_neg q]at e;clear q;cases e
 fl:=λC m Ca e hc=>by
  simp only[G0]at e;split at e
  .rename_i q;rw[q.1]at hc;exact⟨Ea z.2.2.v48 hc,fl_one z.2.2.v49 q.2 Ca hc⟩
  cases e
 mt:=λm C k f e=>nomatch e
 ini:=λC k g e=>nomatch e
def Tu:ZOk P w K mg base Z0 where
 cl:=λx hx=>by
  have hx:x∈XR:=Uo hx;unfold XR at hx;rcases mem_cons.mp hx with q|hx
  .rw[q];exact z.2.2.v70.r z.1 z.2.1
  rcases mem_cons.mp hx with q|hx
  .rw[q];exact z.2.2.v71.r z.1 z.2.1
  rcases mem_cons.mp hx with q|hx
  .rw[q];exact z.2.2.v72.r z.1 z.2.1
  rcases mem_cons.mp hx with q|hx
  .rw[q];exact z.2.2.v73.r z.1 z.2.1
  rcases mem_cons.mp hx with q|hx
  .rw[q];exact z.2.2.v74.r z.1 z.2.1
  rcases mem_cons.mp hx with q|hx
  .rw[q];exact z.2.2.v75.r z.1 z.2.1
  rcases mem_cons.mp hx with q|hx
  .rw[q];exact z.2.2.v76.r z.1 z.2.1
  rcases mem_cons.mp hx with q|hx
  .rw[q];exact z.2.2.v77.r z.1 z.2.1
  rcases mem_cons.mp hx with q|hx
  .rw[q];exact z.2.2.v78.r z.1 z.2.1
  cases hx
 df:=λ_ _ _ e=>nomatch e
 mz:=λ_ _ _ e=>nomatch e
def g5:GbOk P w K mg base G5:=gF z (gF z (gF z (gF z (gF z (g0 z) 0 z.2.2.v0) 1 z.2.2.v1) 2 z.2.2.v2) 3 z.2.2.v3) 4 z.2.2.v4
def g6:GbOk P w K mg base G6:=by
 have g:GbOk P w K mg base G5:=g5 z;exact g.addI (MX g z.1 z.2.1 60 5 (G0.fl "Mill") j0 kB z.2.2.v48 z.2.2.v45 (λf e=>by
  simp only[G0]at e;split at e
  .rename_i q;exact fl_one z.2.2.v49 q.2
  cases e) (λds r hr y=>by
  rw[show(λy=>IW 60 (uP dm aK 5 G5) y (G0.fl "Mill") (aU aK))=nB bR from funext kI];exact uT ds r hr y))
def Tv:GbOk P w K mg base OP:=gF z (gF z (gF z (gF z (gF z (gF z (gF z (gF z (gF z (gF z (gF z (gF z (gF z (gF z (gF z (g6 z) 6 z.2.2.v5) 7 z.2.2.v6) 8 z.2.2.v7) 9 z.2.2.v8) 10 z.2.2.v9) 11 z.2.2.v10) 12 z.2.2.v11) 13 z.2.2.v12) 14 z.2.2.v13) 15 z.2.2.v14) 16 z.2.2.v15) 17 z.2.2.v16) 18 z.2.2.v17) 19 z.2.2.v18) 20 z.2.2.v19
def Tw:GbOk P w K mg base G22:=by
 have g:GbOk P w K mg base OP:=Tv z;exact g.addM (FZ g 60 21 oj oJ z.2.2.v48 z.2.2.v46)
def SJ:GbOk P w K mg base OQ:=gF z (gF z (gF z (gF z (gF z (gF z (gF z (gF z (gF z (Tw z) 22 z.2.2.v20) 23 z.2.2.v21) 24 z.2.2.v22) 25 z.2.2.v23) 26 z.2.2.v24) 27 z.2.2.v25) 28 z.2.2.v26) 29 z.2.2.v27) 30 z.2.2.v28
def SK:GbOk P w K mg base OR:=gF z (SJ z) 31 z.2.2.v29
def Rx:ZOk P w K mg base Rl:=zF z (SJ z) (Tu z) 31 z.2.2.v29
def SL:GbOk P w K mg base OS:=gF z (SK z) 32 z.2.2.v30
def Ry:ZOk P w K mg base Rm:=zF z (SK z) (Rx z) 32 z.2.2.v30
def SM:GbOk P w K mg base OT:=gF z (SL z) 33 z.2.2.v31
def Rz:ZOk P w K mg base Rn:=zF z (SL z) (Ry z) 33 z.2.2.v31
def RA:ZOk P w K mg base Ro:=zF z (SM z) (Rz z) 34 z.2.2.v32
def SN:GbOk P w K mg base OU:=gF z (gF z (gF z (gF z (SM z) 34 z.2.2.v32) 35 z.2.2.v33) 36 z.2.2.v34) 37 z.2.2.v35
def SO:GbOk P w K mg base OV:=gF z (SN z) 38 z.2.2.v36
def RB:ZOk P w K mg base Rp:=zF z (SN z) (RA z) 38 z.2.2.v36
def SQ:GbOk P w K mg base OW:=gF z (SO z) 39 z.2.2.v37
def RC:ZOk P w K mg base Rq:=zF z (SO z) (RB z) 39 z.2.2.v37
def Tz:GbOk P w K mg base OX:=gF z (SQ z) 40 z.2.2.v38
def RD:ZOk P w K mg base Rr:=zF z (SQ z) (RC z) 40 z.2.2.v38
def TB:GbOk P w K mg base G42:=by
 have g:GbOk P w K mg base OX:=Tz z;exact g.addM (FZ g 60 41 mn om z.2.2.v48 z.2.2.v47)
def SR:GbOk P w K mg base OY:=gF z (gF z (TB z) 42 z.2.2.v39) 43 z.2.2.v40
def TD:GbOk P w K mg base OZ:=gF z (SR z) 44 z.2.2.v41
def RE:ZOk P w K mg base SH:=zF z (SR z) (RD z) 44 z.2.2.v41
def TF:GbOk P w K mg base Rs:=by
 have g:GbOk P w K mg base OZ:=TD z;exact g.addF (JH g (RE z) (Eu z.2.2.xs z.1 z.2.1) z.1 z.2.1 60 45 oq oM z.2.2.v42)
def TH:GbOk P w K mg base SI:=gF z (TF z) 46 z.2.2.v43
end
def fin{P:Program}{w:World}{K:Frag}{mg:Str->TZ}{h:Heap}{fa:Addr}(X:K.In h)(hN:h.Ns mainGlobals mg)(hfa:mg "law"=!(.ref fa))(T:Tx K):
  ∃fd:FuncData,(∀(s:Shared)(v:Value),BindsTo s fd ⟨[v],[]⟩ [("script",v)])/\∀base:Heap,K.In base->base.Ns mainGlobals mg->FnOk P w K mg base rg 48 fa fd ["script"] (Ov K):=
 Jp 60 47 X hN hfa B4 Fg T.v44 (λbase KB hB=>TH ⟨KB,hB,T⟩) Oe
end K42
open PySem PySem.W PyProof.Rows
set_option maxRecDepth 100000 in
set_option maxHeartbeats 0 in
theorem PySem.Challenge.cw_pocketmill_k47_plans_refused_holds : PySem.Challenge.rw_pocketmill_k47_plans_refused.Holds := by
  refine holds_law (!1) fun said=>?_
  refine holds_open (q:=K42.Q) (loose:=[]) (Xt:=K42.XT) (XP:=XL K42.Q []) (Yf:=Hook.obs (kHook K42.KK K42.adr K42.adr_ok)) (Ya:=Hook.val (kHook K42.KK K42.adr K42.adr_ok)) (YP:=Hook.says (kHook K42.KK K42.adr K42.adr_ok)) (N:=K42.NN) K42.t_left (Hook.of _) (Hook.keeps _) (fun s e=>xl_of s (Bool.and_eq_true_iff.mp e).1) XL.keeps (by rfl) (by rfl) (by rfl) (fun s e=>recFacts_of (Bool.and_eq_true_iff.mp e).2) (by rfl) (by first | assumption | decide +kernel) (by decide +kernel) ⟨rfl,rfl,rfl,rfl,rfl,by decide +kernel⟩ ?hw ?hc
  case hw=>w_witness2
  case hc =>
  refine L2.walkL (l:=PySem.Challenge.rw_pocketmill_k47_plans_refused) (k:=48) rfl rfl ⟨rfl,by decide,by decide⟩ (fun w h ρ=>PySem.W.kIn_of ρ) ?F
  case F =>
  intro w mg fa h KX G hmg
  exact K42.fin KX G hmg (K42.tx w.params)
#print axioms PySem.Challenge.cw_pocketmill_k47_plans_refused_holds
