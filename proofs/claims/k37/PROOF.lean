import PyProof.Rows.All
import Wide.All
import OpenK.AllK
import Wide.FinOn
import Lean
import PyProof.EqAt
import PyProof.EqKinds
import PyProof.TupleCall
import PySem.Challenge.RW_pocketmill_k37_whole_rows_come_to
set_option compiler.extract_closed false
set_option genSizeOf false
set_option bootstrap.genMatcherCode false
set_option Elab.async false
set_option linter.all false
set_option maxRecDepth 100000
set_option hygiene false
local macro_rules|`(!1)=>`(by omega)
local macro_rules|`(!2)=>`(model prog w)
local macro_rules|`(!3)=>`(model X.prog X.w)
local macro_rules|`(!4)=>`(by decide)
local macro_rules|`(!5)=>`(by kernel_rfl)
local macro_rules|`(!6)=>`(List.range n)
local macro_rules|`(!7)=>`(x==("__debug__":Str))
local macro_rules|`(!8)=>`(flF fl "passes" (va 0))
local macro_rules|`(!9)=>`(fin_bl I q (by simp))
local macro_rules|`(!10)=>`(x==("__classdict__":Str))
local macro_rules|`(!11)=>`(cxC X scope C s H fp)
local macro_rules|`(!12)=>`(arrOf st)
local macro_rules|`(!13)=>`(by decide+kernel)
local macro_rules|`(!14)=>`(backTo pos (starEach es X.env))
local macro_rules|`(!15)=>`(arrOf st')
local macro_rules|`(!16)=>`(s.heap.objs.size+1)
local macro_rules|`(!17)=>`(.Name x px)
local macro_rules|`(!18)=>`(r.map λ(k:Nat)=>D.int (k:Int))
local macro_rules|`(!19)=>`(s.heap.push (aD b l1))
local macro_rules|`(!20)=>`(ps.drop t)
local macro_rules|`(!21)=>`(aa (va 2) af)
local macro_rules|`(!22)=>`(bks (prod ps,c,[]) ps.reverse)
local macro_rules|`(!23)=>`(aa (va 0) af)
local macro_rules|`(!24)=>`(some (.ref Ca))
local macro_rules|`(!25)=>`(apos.endLine==cpos.line)
local macro_rules|`(!26)=>`(s.1/p.length)
local macro_rules|`(!27)=>`(aa (va 3) af)
local macro_rules|`(!28)=>`(s1.trans s2)
local macro_rules|`(!29)=>`(aK false)
local macro_rules|`(!30)=>`(.lst (F.map rowD))
local macro_rules|`(!31)=>`(.lst (S.map D.int))
local macro_rules|`(!32)=>`(.ref s.heap.objs.size)
local macro_rules|`(!33)=>`(by first|exact .inl rfl|exact .inr rfl|assumption)
set_option hygiene true
open List (length_map set_cons_succ set_cons_zero size_toArray getElem?_map getElem?_eq_getElem mem_cons_self mem_cons_of_mem mem_append_right length_append mem_of_getElem? length_range getElem?_append_left mem_singleton length_cons mem_append getElem?_append_right mem_cons mem_append_left)
open Option (map_some)
open PySem.W (nsIn findIn Frag)
open Bool (and_eq_true)
open Nat (lt_of_lt_of_le le_refl lt_of_le_of_lt)
namespace L2
open PySem PySem.Spec PyProof.Rows
abbrev _root_.NV:=Option Int
abbrev _root_.NT:=List Expr
abbrev _root_.NR:=Addr->Bool
abbrev _root_.NQ:=List Int
abbrev _root_.NP:=List Str
abbrev _root_.NO:=List Nat
abbrev _root_.NM:=Option Value
abbrev _root_.NK:=List Value
abbrev _root_.NJ:=Value->Shared->Prop
abbrev _root_.NG:=List (Addr×Obj)
abbrev _root_.Oo:=@wpS_mono
abbrev _root_.On:=@wpAny_mono
abbrev _root_.Om:=@le_refl
abbrev _root_.Ol:=@mem_of_getElem?
abbrev _root_.Oj:=@List.mem_range
abbrev _root_.Oi:=@Nat.le_of_lt
abbrev _root_.Oh:=@Nat.lt_irrefl
abbrev _root_.Og:=@mem_append_right
abbrev _root_.Of:=@mem_append_left
abbrev _root_.Oe:=@mem_singleton
abbrev _root_.Od:=@wpAny_of_eq
abbrev _root_.Oc:=@List.mem_map
abbrev _root_.Ob:=@Nat.ne_of_lt
abbrev _root_.Oa:=@Nat.le_trans
abbrev _root_.N9:=@lt_of_le_of_lt
abbrev _root_.N8:=@lt_of_lt_of_le
abbrev _root_.N7:=@of_decide_eq_true
abbrev _root_.N6:=@mem_cons_of_mem
abbrev _root_.N5:=@mem_cons_self
abbrev _root_.N4:=@List.getElem?_eq_some_iff
abbrev _root_.N3:=@Bool.false_ne_true
abbrev _root_.N2:=@Heap.get?_push_size
abbrev _root_.N1:=@Heap.lt_size
abbrev _root_.N0:=@wpS_pure
abbrev _root_.NZ:=@wpS_bind
abbrev _root_.NY:=@wpAny_pure
abbrev _root_.NX:=@Heap.get?_push_of_some
abbrev _root_.NW:=@wpAny_bind
abbrev Key:=Sum Int Str
def nE:Key->Value->Bool
 |.inl k,v=>Value.isInt k v
 |.inr x,v=>Value.isStrOf x v
def Ly (w:World):Key->Int
 |.inl k=>hashInt k
 |.inr x=>hashStr w x
theorem keyIs_shape:∀ {k:Key} {v:Value},nE k v=true->(∃i t,k=Sum.inl i/\v=Value.int i t)\/(∃x t,k=Sum.inr x/\v=Value.str x t)
 |.inl i,v,h=>by
  obtain⟨t,e⟩:=Value.isInt_shape h;exact .inl ⟨i,t,rfl,e⟩
 |.inr x,v,h=>by
  obtain⟨t,e⟩:=Value.isStrOf_shape h;exact .inr ⟨x,t,rfl,e⟩
theorem wl (i:Int) (t:Tok):nE (.inl i) (.int i t)=true:=by simp[nE,Value.isInt]
theorem wm (x:Str) (t:Tok):nE (.inr x) (.str x t)=true:=by simp[nE,Value.isStrOf]
theorem Fe (a b:Int):decide ((Sum.inl a:Key)=Sum.inl b)=(a==b):=by grind
theorem Ff (a b:Str):decide ((Sum.inr a:Key)=Sum.inr b)=decide (a=b):=by simp
theorem Fg (a:Int) (b:Str):decide ((Sum.inl a:Key)=Sum.inr b)=false:=decide_eq_false (λq=>nomatch q)
theorem Fh (a:Str) (b:Int):decide ((Sum.inr a:Key)=Sum.inl b)=false:=decide_eq_false (λq=>nomatch q)
def aP (prog:Program) (w:World):PySem.KeyKind prog w Key where
 is:=nE
 hash:=Ly w
 inj:=λv a b ha hb=>by
  rcases keyIs_shape ha with⟨i,t,rfl,rfl⟩|⟨x,t,rfl,rfl⟩
  ·rcases keyIs_shape hb with⟨j,u,rfl,e⟩|⟨y,u,rfl,e⟩
   ·injection e with e1 _;rw[e1]
   ·exact nomatch e
  ·rcases keyIs_shape hb with⟨j,u,rfl,e⟩|⟨y,u,rfl,e⟩
   ·exact nomatch e
   ·injection e with e1 _;rw[e1]
 byValue:=λk v h=>by
  rcases keyIs_shape h with⟨i,t,rfl,rfl⟩|⟨x,t,rfl,rfl⟩<;>rfl
 pyHash:=λhv h=>by
  rcases keyIs_shape hv with⟨i,t,rfl,rfl⟩|⟨x,t,rfl,rfl⟩
  ·exact wpAny_pyHash_int h
  ·exact wpAny_pyHash_str h
 eqBool:=λhu hv h=>by
  rcases keyIs_shape hu with⟨i,t,rfl,rfl⟩|⟨x,t,rfl,rfl⟩
  ·rcases keyIs_shape hv with⟨j,u,rfl,rfl⟩|⟨y,u,rfl,rfl⟩
   ·rw[Fe]at h;exact wpAny_eqBool_int h
   ·rw[Fg]at h;exact SeqAt.EqAt.int_str i t y u _ _ _ _ h
  ·rcases keyIs_shape hv with⟨j,u,rfl,rfl⟩|⟨y,u,rfl,rfl⟩
   ·rw[Fh]at h;exact SeqAt.EqAt.str_int x t j u _ _ _ _ h
   ·rw[Ff]at h;exact wpAny_eqBool_str h
 «strs»:=λk x t v h=>by
  rcases keyIs_shape h with⟨i,u,rfl,e⟩|⟨y,u,rfl,e⟩
  ·exact nomatch e
  ·injection e with e1 _;subst e1;cases v<;>rfl
theorem qz (prog:Program) (w:World) (i:Int) (t:Tok):(aP prog w).is (.inl i) (.int i t)=true:=wl i t
theorem qA (prog:Program) (w:World) (x:Str) (t:Tok):(aP prog w).is (.inr x) (.str x t)=true:=wm x t
inductive V where
 |non|bl (b:Bool)|int (i:Int)|str (x:Str)|byt (b:Array UInt8)|flt (b:UInt64)|ref (a:Addr)|ty (n:String)
 deriving DecidableEq
def RelV:V->Value->Prop
 |.non,u=>u=Value.none
 |.bl b,u=>u=Value.bool b
 |.int i,u=>∃t,u=Value.int i t
 |.str x,u=>∃t,u=Value.str x t
 |.byt b,u=>∃t,u=Value.bytes b t
 |.flt b,u=>∃t,u=Value.float b t
 |.ref a,u=>u=Value.ref a
 |.ty n,u=>u=Value.type n
abbrev Vals:List V->NK->Prop:=Paired RelV
theorem Vals.length (r:Vals xs us):xs.length=us.length:=Paired.length r
theorem Vals.get:∀ {xs:List V} {us:NK} {i:Nat} {x:V},Vals xs us->xs[i]?=some x->∃u,us[i]?=some u/\RelV x u
 |_,_,_,_,.nil,e=>by simp at e
 |_,_,0,_,.cons r _,e=>by simp at e;subst e;exact⟨_,rfl,r⟩
 |_,_,i+1,x,.cons _ t,e=>by
  obtain⟨u,h1,h2⟩:=Vals.get (i:=i) (x:=x) t (by simpa using e);exact⟨u,by simpa using h1,h2⟩
theorem Vals.set (r:RelV x u):∀ {xs:List V} {us:NK} (i:Nat),Vals xs us->Vals (xs.set i x) (us.set i u)
 |_,_,_,.nil=>.nil
 |_,_,0,.cons _ t=>.cons r t
 |_,_,i+1,.cons q t=>.cons q (Vals.set r i t)
theorem Vals.append:∀ {xs ys:List V} {us ws:NK},Vals xs us->Vals ys ws->Vals (xs++ys) (us++ws)
 |_,_,_,_,.nil,s=>s
 |_,_,_,_,.cons r t,s=>.cons r (Vals.append t s)
theorem Vals.take:∀ {xs:List V} {us:NK} (n:Nat),Vals xs us->Vals (xs.take n) (us.take n)
 |_,_,0,_=>.nil
 |_,_,_+1,.nil=>.nil
 |_,_,n+1,.cons r t=>.cons r (Vals.take n t)
theorem Vals.drop:∀ {xs:List V} {us:NK} (n:Nat),Vals xs us->Vals (xs.drop n) (us.drop n)
 |_,_,0,r=>r
 |_,_,_+1,.nil=>.nil
 |_,_,n+1,.cons _ t=>Vals.drop n t
def RelO:Option V->NM->Prop
 |some v,some u=>RelV v u
 |none,none=>True
 |_,_=>False
def KV {κ:Type}:List (κ×V)->List (κ×Value)->Prop:=Paired λ(p:κ×V) (q:κ×Value)=>p.1=q.1/\RelV p.2 q.2
def kV:Key->V
 |.inl i=>.int i
 |.inr x=>.str x
inductive HO where
 |lst (xs:List V)
 |tup (xs:List V)
 |dK (kvs:List (Key×V))|dT (kvs:List (List Key×V))
 |set (S:Int->Bool) (n:Nat)
 |ins (C dx:Addr) (fs:List (Str×V))
 |own (x:Addr)
 |xd (fs:List (Str×V))
 |met (f x:Addr)
 |rng (lo hi:Int)
 |frz (o:Obj) (u:HO)
 |tbl (ps:Array Value)
 |ext (φ:Heap->Prop)
abbrev Hp:=Addr->Option HO
def upd (H:Hp) (a:Addr) (o:HO):Hp:=λb=>if b=a then some o else H b
theorem ai:upd H a o a=some o:=by unfold upd;rw[if_pos rfl]
theorem ag (h:b≠a):upd H a o b=H b:=by unfold upd;rw[if_neg h]
theorem BH:upd (upd H a o) a u=upd H a u:=by
 funext b;unfold upd;split<;>rfl
theorem au {H:Hp} (h:H a=some o) (h':H b=none):a≠b:=by
 intro e;subst e;rw[h]at h';cases h'
section
variable (P:Program) (w:World)
def ObjOk (H:Hp) (h:Heap) (a:Addr):HO->Prop
 |.lst xs=>xs.length<=sizeLine/\∃ (its:NK) (n:Nat),Vals xs its/\h.get? a=some {cls:=.type "list",data:=.seq its.toArray n}
 |.tup xs=>xs.length<=sizeLine/\∃its:NK,Vals xs its/\IsTup h a its.toArray
 |.dK kvs=>kvs.length<=sizeLine/\(a==sysModules)=false/\∃vs,KV kvs vs/\h.DictOf (aP P w) a vs
 |.dT kvs=>kvs.length<=sizeLine/\(a==sysModules)=false/\∃xs:List (List Key×Addr×Value),
  Paired (λ(p:List Key×V) (q:List Key×Addr×Value)=>p.1=q.1/\H q.2.1=some (.tup (p.1.map kV))/\RelV p.2 q.2.2) kvs xs/\
  ∃o es ep,h.get? a=some o/\o.ExactDict/\o.data=.dict es ep/\es.toList=xs.map (entryOfKey (tupleKind (aP P w)))/\(xs.map (·.1)).Nodup
 |.set S n=>h.SetOf (intKind P w) a S n
 |.ins C dx fs=>H dx=some (.own a)/\fs.length<=1000/\dx≠a/\h.get? a=some (PySem.W.instObj C dx)/\
  ∃mA,h.Ns1 dx mA/\(∀f,RelO (fs.lookup f) (mA f))/\PySem.Within mA (fs.map (·.1))
 |.own _=>∃o,h.get? a=some o
 |.xd fs=>∃mA,h.Ns1 a mA/\∀f,RelO (fs.lookup f) (mA f)
 |.rng lo hi=>∃t u v,h.get? a=some {cls:=.type "range",data:=.fields #[.int lo t,.int hi u,.int 1 v]}
 |.frz o u=>h.get? a=some o/\ObjOk H h a u
 |.tbl ps=>h.get? a=some {cls:=.none,data:=.fields ps}
 |.met f x=>h.get? a=some (PySem.W.methodObj (.ref f) (.ref x))
 |.ext φ=>φ h/\(∃o,h.get? a=some o)/\∀h1 h2:Heap,φ h1->(∀o,h1.get? a=some o->h2.get? a=some o)->φ h2
def HOk (H:Hp) (h:Heap):Prop:=∀a o,H a=some o->ObjOk P w H h a o
end
section
variable {P:Program} {w:World} {H H':Hp} {h h':Heap} {a:Addr} {o:HO}
theorem ObjOk.lt (x:ObjOk P w H h a o):a<h.objs.size:=by
 cases o with
 |lst xs=>obtain⟨_,_,_,_,e⟩:=x;exact N1 e
 |tup xs=>obtain⟨_,_,_,p⟩:=x;exact p.lt
 |dK kvs=>obtain⟨_,_,_,_,o,_,_,e,_⟩:=x;exact N1 e
 |dT kvs=>obtain⟨_,_,_,_,o,_,_,e,_⟩:=x;exact N1 e
 |set S n=>obtain⟨o,_,_,_,e,_⟩:=x;exact N1 e
 |ins C dx fs=>obtain⟨_,_,_,e,_⟩:=x;exact N1 e
 |own y=>obtain⟨_,e⟩:=x;exact N1 e
 |xd fs=>obtain⟨_,⟨_,_,_,e,_⟩,_⟩:=x;exact N1 e
 |rng lo hi=>obtain⟨_,_,_,e⟩:=x;exact N1 e
 |frz ob u=>obtain⟨e,_⟩:=x;exact N1 e
 |tbl ps=>exact N1 (x)
 |met f y=>exact N1 (x)
 |ext φ=>obtain⟨_,⟨_,e⟩,_⟩:=x;exact N1 e
theorem Paired.mapP:∀ {l₁:List α} {l₂:List β},Paired F l₁ l₂->(∀a b,F a b->G a b)->Paired G l₁ l₂
 |_,_,.nil,_=>.nil
 |_,_,.cons r t,f=>.cons (f _ _ r) (Paired.mapP t f)
theorem ObjOk.stay (x:ObjOk P w H h a o) (k:∀b u,(b=a\/H b=some (.own a))->h.get? b=some u->h'.get? b=some u)
  (ho:∀b,H b=some (.own a)->H' b=some (.own a)) (ht:∀b xs,H b=some (.tup xs)->H' b=some (.tup xs)):ObjOk P w H' h' a o:=by
 induction o with
 |lst xs=>obtain⟨z,its,n,r,e⟩:=x;exact⟨z,its,n,r,k _ _ (.inl rfl) e⟩
 |tup xs=>obtain⟨z,its,r,ob,e,c⟩:=x;exact⟨z,its,r,ob,k _ _ (.inl rfl) e,c⟩
 |dK kvs=>obtain⟨z,y,vs,r,ob,es,ep,e,c⟩:=x;exact⟨z,y,vs,r,ob,es,ep,k _ _ (.inl rfl) e,c⟩
 |dT kvs=>
  obtain⟨z,y,xs,r,ob,es,ep,e,c⟩:=x;exact⟨z,y,xs,Paired.mapP r λp q z=>⟨z.1,ht _ _ z.2.1,z.2.2⟩,ob,es,ep,k _ _ (.inl rfl) e,c⟩
 |set S n=>obtain⟨ob,es,ep,t,e,c⟩:=x;exact⟨ob,es,ep,t,k _ _ (.inl rfl) e,c⟩
 |ins C dx fs=>
  obtain⟨d,z,ne,e,mA,⟨od,es,ep,e2,c⟩,r⟩:=x;exact⟨ho _ d,z,ne,k _ _ (.inl rfl) e,mA,⟨od,es,ep,k _ _ (.inr d) e2,c⟩,r⟩
 |own y=>obtain⟨ob,e⟩:=x;exact⟨ob,k _ _ (.inl rfl) e⟩
 |xd fs=>obtain⟨mA,⟨od,es,ep,e,c⟩,r⟩:=x;exact⟨mA,⟨od,es,ep,k _ _ (.inl rfl) e,c⟩,r⟩
 |rng lo hi=>obtain⟨t,u,v,e⟩:=x;exact⟨t,u,v,k _ _ (.inl rfl) e⟩
 |frz ob u ih=>obtain⟨e,q⟩:=x;exact⟨k _ _ (.inl rfl) e,ih q⟩
 |tbl ps=>
  have e:h.get? a=some {cls:=.none,data:=.fields ps}:=x;exact k a _ (.inl rfl) e
 |met f y=>
  have e:h.get? a=some (PySem.W.methodObj _ _):=x;exact k a _ (.inl rfl) e
 |ext φ=>obtain⟨p,⟨o,e⟩,st⟩:=x;exact⟨st _ _ p λo q=>k _ _ (.inl rfl) q,⟨o,k _ _ (.inl rfl) e⟩,st⟩
theorem HOk.lt (x:HOk P w H h) (e:H a=some o):a<h.objs.size:=(x a o e).lt
theorem HOk.fresh (x:HOk P w H h) (e:h.objs.size<=a):H a=none:=by
 cases q:H a with
 |none=>rfl
 |some u=>exact absurd (N8 (x.lt q) e) (Oh _)
theorem HOk.kept (x:HOk P w H h) (k:∀b u,h.get? b=some u->h'.get? b=some u):HOk P w H h':=λa o e=>
 (x a o e).stay (λb u _ q=>k b u q) (λ_ q=>q) λ_ _ q=>q
theorem HOk.laid (x:HOk P w H h) (k:∀b u,h.get? b=some u->h'.get? b=some u) (hp:h.objs.size<=a) (new:ObjOk P w (upd H a o) h' a o):HOk P w (upd H a o) h':=λb u e=>by
 have hn:=x.fresh hp;by_cases hb:b=a
 ·subst hb;rw[ai]at e;cases e;exact new
 ·rw[ag hb]at e;exact(x b u e).stay (λc v _ q=>k c v q) (λc q=>by rw[ag (au q hn)];exact q) λc xs q=>by rw[ag (au q hn)];exact q
end
def Rd (H:Hp) (a:Addr) (u:HO):Prop:=H a=some u\/∃o,H a=some (.frz o u)
theorem Rd.ok (r:Rd H a u) (x:HOk P w H h):ObjOk P w H h a u:=by
 rcases r with r|⟨o,r⟩
 ·exact x a u r
 ·obtain⟨_,q⟩:=x a _ r;exact q
def Mut:Option HO->Prop
 |some (.lst _)=>True
 |some (.dK _)=>True
 |some (.dT _)=>True
 |some (.set _ _)=>True
 |some (.ins _ _ _)=>True
 |some (.ext _)=>True
 |_=>False
section
variable {P:Program} {w:World} {H:Hp} {h h':Heap} {x e:Addr} {o':HO}
theorem HOk.write (ok:HOk P w H h) (mu:Mut (H x)) (he:e=x\/H e=some (.own x)) (k:∀b u,b≠e->h.get? b=some u->h'.get? b=some u) (heo:∃u,h'.get? e=some u)
  (new:ObjOk P w (upd H x o') h' x o'):HOk P w (upd H x o') h':=λb u q=>by
 have nown:∀c y,H c=some (.own y)->c≠x:=λc y r z=>by subst z;rw[r]at mu;exact mu
 have ntup:∀c xs,H c=some (.tup xs)->c≠x:=λc xs r z=>by subst z;rw[r]at mu;exact mu
 by_cases hb:b=x
 ·subst hb;rw[ai]at q;cases q;exact new
 ·rw[ag hb]at q;by_cases hbe:b=e
  ·have q':H b=some (.own x):=by
    rcases he with z|z
    ·exact absurd (hbe.trans z) hb
    ·rw[hbe];exact z
   rw[q]at q';cases q';obtain⟨v,hv⟩:=heo;exact⟨v,by rw[hbe];exact hv⟩
  ·refine(ok b u q).stay (λc v hc r=>k c v ?_ r) (λc r=>by rw[ag (nown c b r)];exact r) λc xs r=>by rw[ag (ntup c xs r)];exact r
   rcases hc with rfl|hc
   ·exact hbe
   ·rintro rfl;rcases he with z|z
    ·exact nown c b hc z
    ·rw[hc]at z;cases z;exact hb rfl
end
structure Un (fs ex:List Addr) (H H':Hp) (h h':Heap):Prop where
 keep:∀b o,h.get? b=some o->H b=none->b ∉ fs->b ∉ ex->h'.get? b=some o
 slot:∀b o,h.get? b=some o->H b=none->b∈fs->b ∉ ex->∃sl,h'.get? b=some {o with slots:=sl}
 free:∀b o,h.get? b=some o->H b=none->b ∉ ex->H' b=none
 there:∀b o,h.get? b=some o->b ∉ ex->∃o',h'.get? b=some o'
 tups:∀b xs,H b=some (.tup xs)->H' b=some (.tup xs)
 frzs:∀b o u,H b=some (.frz o u)->H' b=some (.frz o u)
 tbls:∀b ps,H b=some (.tbl ps)->∃more,H' b=some (.tbl (ps++more))
section
variable {fs fs' ex ex':List Addr} {H H1 H2:Hp} {h h1 h2 h':Heap} {a x e:Addr} {o:HO}
theorem Un.any (u:Un fs ex H H1 h h1) (q:h.get? b=some ob) (n:H b=none) (hx:b ∉ ex):∃sl,h1.get? b=some {ob with slots:=sl}:=by
 by_cases hb:b∈fs
 ·exact u.slot b ob q n hb hx
 ·exact⟨ob.slots,u.keep b ob q n hb hx⟩
theorem Un.kept (k:∀b u,h.get? b=some u->h'.get? b=some u):Un fs ex H H h h':=
 ⟨λb ob q _ _ _=>k b ob q,λb ob q _ _ _=>⟨ob.slots,k b ob q⟩,λ_ _ _ n _=>n,λb ob q _=>⟨ob,k b ob q⟩,λ_ _ q=>q,λ_ _ _ q=>q,λ_ ps q=>⟨#[],by rw[q];simp⟩⟩
theorem Un.refl:Un fs ex H H h h:=Un.kept λ_ _ q=>q
theorem Un.laid (k:∀b u,h.get? b=some u->h'.get? b=some u) (hp:h.objs.size<=a) (hn:H a=none):Un fs ex H (upd H a o) h h' where
 keep:=λb u q _ _ _=>k b u q
 slot:=λb u q _ _ _=>⟨u.slots,k b u q⟩
 free:=λb u q n _=>by rw[ag (Nat.ne_of_lt (lt_of_lt_of_le (Heap.lt_size q) hp))];exact n
 there:=λb u q _=>⟨u,k b u q⟩
 tups:=λb xs q=>by rw[ag (au q hn)];exact q
 frzs:=λb u xs q=>by rw[ag (au q hn)];exact q
 tbls:=λb ps q=>⟨#[],by rw[ag (au q hn),q];simp⟩
theorem Un.write (mu:Mut (H x)) (he:e=x\/H e=some (.own x)) (k:∀b u,b≠e->h.get? b=some u->h'.get? b=some u) (heo:∃u,h'.get? e=some u):Un fs ex H (upd H x o) h h':=by
 have hx:∀b,H b=none->b≠x:=λb n z=>by subst z;rw[n]at mu;exact mu
 have hb:∀b,H b=none->b≠e:=λb n z=>by
  subst z;rcases he with r|r
  ·exact hx b n r
  ·rw[n]at r;cases r
 have hm:∀b u,H b=some u->¬Mut (some u)->b≠x:=λb u q nm z=>by subst z;rw[q]at mu;exact nm mu
 refine⟨λb u q n _ _=>k b u (hb b n) q,λb u q n _ _=>⟨u.slots,k b u (hb b n) q⟩,λb u q n _=>by rw[ag (hx b n)];exact n,λb u q _=>?_,
  λb xs q=>by rw[ag (hm b _ q λz=>z)];exact q,λb u xs q=>by rw[ag (hm b _ q λz=>z)];exact q,λb ps q=>⟨#[],by rw[ag (hm b _ q λz=>z),q];simp⟩⟩
 grind
end
def trk (h:Heap) (H:Hp):List Addr:=(List.range h.objs.size).filter λa=>(H a).isSome
def oG (h:Heap) (H:Hp):Heap:=PySem.W.hideAll h (trk h H)
theorem wn (h:Heap) (H:Hp):(oG h H).objs.size=h.objs.size:=PySem.W.hideAll_size _ _
theorem xM (e:h.get? b=some o) (n:H b=none):(oG h H).get? b=some o:=
 PySem.W.hideAll_get _ e λhm=>by
  have q:=(List.mem_filter.mp hm).2;rw[n]at q;simp at q
theorem BI (e:(oG h H).get? b=some o):h.get? b=some o/\H b=none:=by
 have e':=PySem.W.of_hideAll _ e;refine⟨e',?_⟩;cases q:H b with
 |none=>rfl
 |some x=>
  have hm:b∈trk h H:=List.mem_filter.mpr ⟨Oj.mpr (N1 e'),by simp[q]⟩;have z:(oG h H).get? b=none:=PySem.W.hideAll_none _ hm;rw[z]at e;cases e
def BJ (g h:Heap) (L:Addr):NG:=(List.range h.objs.size).filterMap λa=>if a=L\/(g.get? a).isSome=true then none else(h.get? a).map λo=>(a,o)
def rest (g h:Heap) (L d:Addr):NG:=(BJ g h L).filter λp=>decide (p.1≠d)
structure Mod (K:Frag) (mg:Str->NM) (base:Heap):Prop where
 kin:K.In base
 glob:base.Ns mainGlobals mg
 blt:∃mb,base.Ns builtinsNs mb/\∀x:Str,x≠"__name__" ->mb x=bootBuiltins x
 nolimit:base.NoLimit
structure Cx where
 prog:Program
 w:World
 K:Frag
 mg:Str->NM
 base:Heap
 A:Around
 N:NP
 s₀:Shared
 H₀:Hp
 env:Env
 outer:List Env
 stack:List Env
 ex:List Addr
 fn:Str->Bool
 calm:Bool
 pn:NG
 xe:NJ
def frs (l:List Env):List Addr:=l.filterMap (·.frame)
abbrev Cx.fs (X:Cx):List Addr:=frs X.outer
def Vis (sc:Scope) (x:Str):Prop:=sc.names.lookup x=some .local\/sc.names.lookup x=some .cell\/sc.names.lookup x=some .free
def Loc (sc:Scope) (x:Str):Prop:=sc.names.lookup x=some .local\/sc.names.lookup x=some .cell
def Lz (env:Env) (h:Heap) (m:Str->NM) (x:Str) (u:Value):Prop:=
 (env.kindOf x=some .local/\m x=some u)\/((env.kindOf x=some .cell\/env.kindOf x=some .free)/\∃c,env.cells.lookup x=some c/\h.IsCell c (some u))
structure Cx.Ok (X:Cx):Prop where
 mod:Mod X.K X.mg X.base
 kind:X.env.scope.kind=.function
 glob:X.env.globals=mainGlobals
 blt:X.env.builtins=builtinsNs
 above:X.s₀.heap.objs.size<=X.env.locals
 inj:∀x y c,X.env.cells.lookup x=some c->X.env.cells.lookup y=some c->x=y
 has:∀x,(X.env.kindOf x=some .cell\/X.env.kindOf x=some .free)->∃c,X.env.cells.lookup x=some c
 cab:∀x c,X.fn x=true->X.env.cells.lookup x=some c->X.s₀.heap.objs.size<=c
 hd:X.calm=true->X.A.handled=none
 frames:X.A.frames=some X.stack
 stk:X.stack=X.outer\/(X.stack=X.env::X.outer/\X.env.frame=some X.env.locals)
 exf:∀b∈X.ex,b≠X.env.locals/\∀x c,X.env.cells.lookup x=some c->c≠b
 bs:∀b o,X.base.get? b=some o->X.s₀.heap.get? b=some o/\X.H₀ b=none
 bsz:X.base.objs.size<=X.s₀.heap.objs.size
 noex:∀b o,X.base.get? b=some o->b ∉ X.ex
 exfs:∀b∈X.ex,b ∉ X.fs
 funs:X.s₀.heap.FunFrames X.base X.outer
 frf:∀b∈X.fs,X.H₀ b=none
structure Inv (X:Cx) (pins:NG) (Y:List (Option V)) (H:Hp) (s:Shared):Prop where
 ok:X.Ok
 os:s.os=X.s₀.os
 bare:AllBare s.gens
 base:Un X.fs X.ex X.H₀ H X.s₀.heap s.heap
 loc:∃m,s.heap.Ns X.env.locals m/\∀ (i:Nat) (x:Str) (v:V),X.N[i]?=some x->Y[i]?=some (some v)->Vis X.env.scope x->∃u,RelV v u/\Lz X.env s.heap m x u
 cell:∀x c,X.env.cells.lookup x=some c->∃v,s.heap.IsCell c v
 free:H X.env.locals=none
 freeC:∀x c,X.env.cells.lookup x=some c->H c=none
 pin:∀p∈X.pn++pins,s.heap.get? p.1=some p.2/\H p.1=none/\p.1≠X.env.locals/\p.1 ∉ X.fs/\∀v,p.2.data≠.cell v
 hok:HOk X.prog X.w H s.heap
 len:Y.length=X.N.length
section
variable {X:Cx} {pins:NG} {Y:List (Option V)} {H H':Hp} {s:Shared} {h':Heap}
theorem Cx.Ok.nofr (ok:X.Ok) (e:X.base.get? b=some o):b ∉ X.fs:=λhb=>by
 have:=(ok.funs.mem hb).1;grind
theorem Inv.bs (I:Inv X pins Y H s):∀b o,X.base.get? b=some o->s.heap.get? b=some o/\H b=none:=λb o e=>
 ⟨I.base.keep b o (I.ok.bs b o e).1 (I.ok.bs b o e).2 (I.ok.nofr e) (I.ok.noex b o e),I.base.free b o (I.ok.bs b o e).1 (I.ok.bs b o e).2 (I.ok.noex b o e)⟩
theorem Inv.bk (I:Inv X pins Y H s):∀b o,X.base.get? b=some o->s.heap.get? b=some o:=λb o e=>(I.bs b o e).1
theorem Inv.mod (I:Inv X pins Y H s):Mod X.K X.mg X.base:=I.ok.mod
theorem Inv.kIn (I:Inv X pins Y H s):X.K.In s.heap:=I.ok.mod.kin.keeps I.bk
theorem Inv.lt (I:Inv X pins Y H s):X.env.locals<s.heap.objs.size:=let⟨_,hn,_⟩:=I.loc;hn.lt
theorem Inv.sz (I:Inv X pins Y H s):X.s₀.heap.objs.size<=s.heap.objs.size:=Oa I.ok.above (Oi I.lt)
theorem Inv.nofs (I:Inv X pins Y H s) {a:Addr} (h:s.heap.objs.size<=a):a ∉ X.fs:=λhb=>by
 obtain⟨_,o,ho,_⟩:=I.ok.funs.mem hb;exact absurd (N8 (N1 ho) (Oa I.sz h)) (Oh _)
theorem Inv.cne (I:Inv X pins Y H s):∀x c,X.env.cells.lookup x=some c->c≠X.env.locals:=λx c e z=>by
 obtain⟨v,o,ho,hd⟩:=I.cell x c e;obtain⟨m,⟨o',es,ep,ho',hd',_⟩,_⟩:=I.loc;grind
theorem Inv.funs (I:Inv X pins Y H s):s.heap.FunFrames X.base X.outer:=by
 have all:∀ (l:List Env),(∀b∈frs l,b∈X.fs)->X.s₀.heap.FunFrames X.base l->s.heap.FunFrames X.base l:=by
  intro l;induction l with
  |nil=>intro _ _;trivial
  |cons env r ih=>
   intro hs hl;obtain⟨hk,⟨L,o,hf,hn,ho,hd⟩,hr⟩:=hl;have hL:=hs L (by unfold frs;rw[List.filterMap_cons,hf];exact N5);obtain⟨sl,e⟩:=I.base.slot L o ho (I.ok.frf L hL) hL λz=>I.ok.exfs L z hL;exact⟨hk,⟨L,_,hf,hn,e,hd⟩,ih (λb hb=>hs b (by unfold frs;rw[List.filterMap_cons,hf];exact N6 _ hb)) hr⟩
 exact all X.outer (λ_ hb=>hb) I.ok.funs
theorem Inv.stack (I:Inv X pins Y H s):s.heap.FunFrames X.base X.stack:=by
 rcases I.ok.stk with e|⟨e,hf⟩
 ·rw[e];exact I.funs
 ·rw[e];obtain⟨m,hn,_⟩:=I.loc;refine .cons (by rw[I.ok.kind];decide) hf hn ?_ I.funs;exact Heap.get?_none_of_le (Oa I.ok.bsz I.ok.above)
theorem Inv.stkSub (I:Inv X pins Y H s):∀b∈frs X.stack,b∈X.env.locals::X.fs:=λb hb=>by
 rcases I.ok.stk with e|⟨e,hf⟩
 ·rw[e]at hb;exact N6 _ hb
 ·rw[e]at hb;unfold frs at hb;rw[List.filterMap_cons,hf]at hb;exact hb
theorem Inv.stkFree (I:Inv X pins Y H s):∀b∈frs X.stack,H b=none:=λb hb=>by
 rcases mem_cons.mp (I.stkSub b hb)with e|hb
 ·rw[e];exact I.free
 ·obtain⟨_,o,ho,_⟩:=I.ok.funs.mem hb;exact I.base.free b o ho (I.ok.frf b hb) λz=>I.ok.exfs b z hb
theorem Inv.step {ch:List Addr} (I:Inv X pins Y H s) (hch:∀b∈ch,(b∈X.ex\/X.s₀.heap.objs.size<=b)/\b≠X.env.locals/\(∀x c,X.env.cells.lookup x=some c->c≠b)/\∀p∈X.pn++pins,p.1≠b) (keep:∀b o,b≠X.env.locals->b ∉ X.fs->b ∉ ch->s.heap.get? b=some o->H b=none->h'.get? b=some o) (slot:∀b o,b≠X.env.locals->b∈X.fs->b ∉ ch->s.heap.get? b=some o->H b=none->∃sl,h'.get? b=some {o with slots:=sl}) (free:∀b o,b ∉ ch->s.heap.get? b=some o->H b=none->H' b=none) (there:∀b o,b ∉ ch->s.heap.get? b=some o->∃o',h'.get? b=some o') (tups:∀b xs,H b=some (.tup xs)->H' b=some (.tup xs)) (frzs:∀b o u,H b=some (.frz o u)->H' b=some (.frz o u)) (tbls:∀b ps,H b=some (.tbl ps)->∃more,H' b=some (.tbl (ps++more))) (ns:∀m,s.heap.Ns X.env.locals m->h'.Ns X.env.locals m) (hok:HOk X.prog X.w H' h') (hg:AllBare g'):
  Inv X pins Y H' {s with heap:=h',gens:=g',drawn:=d',toks:=t'}:=by
 have neL:∀b o,X.s₀.heap.get? b=some o->b≠X.env.locals:=λb o e=>Ob (N8 (N1 e) I.ok.above)
 have neC:∀b o,X.s₀.heap.get? b=some o->b ∉ X.ex->b ∉ ch:=λb o e hx hb=>by
  rcases(hch b hb).1 with z|z
  ·exact hx z
  ·exact absurd (N8 (N1 e) z) (Oh _)
 have cellK:∀x c,X.env.cells.lookup x=some c->∀v,s.heap.IsCell c v->h'.IsCell c v:=λx c e v ⟨o,ho,hd⟩=>by
  have nch:c ∉ ch:=λz=>(hch c z).2.2.1 x c e rfl;by_cases hc:c∈X.fs
  ·obtain⟨sl,q⟩:=slot c o (I.cne x c e) hc nch ho (I.freeC x c e);exact⟨_,q,hd⟩
  ·exact⟨o,keep c o (I.cne x c e) hc nch ho (I.freeC x c e),hd⟩
 refine⟨I.ok,I.os,hg,⟨λb o e n hb hx=>?_,λb o e n hb hx=>?_,λb o e n hx=>?_,λb o e hx=>?_,λb xs e=>tups b xs (I.base.tups b xs e),λb o xs e=>frzs b o xs (I.base.frzs b o xs e),λb ps e=>?_⟩,?_,λx c e=>?_,?_,λx c e=>?_,λp hp=>?_,hok,I.len⟩
 ·exact keep b o (neL b o e) hb (neC b o e hx) (I.base.keep b o e n hb hx) (I.base.free b o e n hx)
 ·obtain⟨sl,e1⟩:=I.base.slot b o e n hb hx;obtain⟨sl',e2⟩:=slot b _ (neL b o e) hb (neC b o e hx) e1 (I.base.free b o e n hx);exact⟨sl',e2⟩
 ·obtain⟨o',e1⟩:=I.base.there b o e hx;exact free b o' (neC b o e hx) e1 (I.base.free b o e n hx)
 ·obtain⟨o',e1⟩:=I.base.there b o e hx;exact there b o' (neC b o e hx) e1
 ·obtain⟨m1,e1⟩:=I.base.tbls b ps e;obtain⟨m2,e2⟩:=tbls b _ e1;exact⟨m1++m2,by rw[e2,Array.append_assoc]⟩
 ·obtain⟨m,hn,hl⟩:=I.loc;refine⟨m,ns m hn,λi x v e1 e2 e3=>?_⟩;obtain⟨u,r,l⟩:=hl i x v e1 e2 e3;refine⟨u,r,?_⟩;rcases l with l|⟨k,c,e,z⟩
  ·exact .inl l
  ·exact .inr ⟨k,c,e,cellK x c e _ z⟩
 ·obtain⟨v,z⟩:=I.cell x c e;exact⟨v,cellK x c e v z⟩
 ·obtain⟨m,⟨o,_,_,ho,_⟩,_⟩:=I.loc;exact free _ o (λz=>(hch _ z).2.1 rfl) ho I.free
 ·obtain⟨v,o,ho,hd⟩:=I.cell x c e;exact free c o (λz=>(hch c z).2.2.1 x c e rfl) ho (I.freeC x c e)
 ·obtain⟨e,n,ne,nf,d⟩:=I.pin p hp;have nch:p.1 ∉ ch:=λz=>(hch p.1 z).2.2.2 p hp rfl;exact⟨keep p.1 p.2 ne nf nch e n,free p.1 p.2 nch e n,ne,nf,d⟩
theorem Inv.un (I:Inv X pins Y H s) (u:Un X.fs [] H H' s.heap h') (hok:HOk X.prog X.w H' h'):Inv X pins Y H' {s with heap:=h',toks:=t'}:=by
 obtain⟨m,⟨o,es,ep,ho,r⟩,_⟩:=id I.loc;obtain⟨sl,hL⟩:=u.any ho I.free (by simp);exact I.step (ch:=[]) (λ_ z=>nomatch z) (λb o _ hb _ e n=>u.keep b o e n hb (by simp)) (λb o _ hb _ e n=>u.slot b o e n hb (by simp)) (λb o _ e n=>u.free b o e n (by simp)) (λb o _ e=>u.there b o e (by simp)) u.tups u.frzs u.tbls (λm' hm=>by
  obtain⟨o',es',ep',ho',r'⟩:=hm;rw[ho]at ho';cases ho';exact⟨_,es',ep',hL,r'⟩) hok I.bare
theorem Inv.call (I:Inv X pins Y H s) (u:Un (frs X.stack) ch H H' s.heap h') (hok:HOk X.prog X.w H' h') (hg:AllBare g') (hch:∀b∈ch,(b∈X.ex\/X.s₀.heap.objs.size<=b)/\b≠X.env.locals/\(∀x c,X.env.cells.lookup x=some c->c≠b)/\∀p∈X.pn++pins,p.1≠b):
  Inv X pins Y H' {s with heap:=h',gens:=g',drawn:=d',toks:=t'}:=by
 obtain⟨m,⟨o,es,ep,ho,r⟩,_⟩:=id I.loc
 obtain⟨sl,hL⟩:=u.any ho I.free λz=>(hch _ z).2.1 rfl
 exact I.step hch (λb o hL hb hc e n=>u.keep b o e n (λz=>(mem_cons.mp (I.stkSub b z)).elim hL hb) hc) (λb o _ _ hc e n=>u.any e n hc) (λb o hc e n=>u.free b o e n hc) (λb o hc e=>u.there b o e hc) u.tups u.frzs u.tbls (λm' hm=>by
  obtain⟨o',es',ep',ho',r'⟩:=hm;rw[ho]at ho';cases ho';exact⟨_,es',ep',hL,r'⟩) hok hg
theorem Inv.turned (I:Inv X pins Y H s) (k:∀b o,b≠it->s.heap.get? b=some o->h'.get? b=some o) (hn:H it=none) (hL:it≠X.env.locals) (h1:it∈X.ex\/X.s₀.heap.objs.size<=it) (h2:∀x c,X.env.cells.lookup x=some c->c≠it) (h3:∀p∈X.pn++pins,p.1≠it):Inv X pins Y H {s with heap:=h',toks:=t'}:=by
 have nit:∀b u,H b=some u->b≠it:=λb u e z=>by rw[z,hn]at e;cases e
 refine I.step (ch:=[it]) (λb hb=>?_) (λb o _ _ hc e _=>k b o (λz=>hc (by simp[z])) e) (λb o _ _ hc e _=>⟨o.slots,k b o (λz=>hc (by simp[z])) e⟩) (λ_ _ _ _ n=>n)
  (λb o hc e=>⟨o,k b o (λz=>hc (by simp[z])) e⟩) (λ_ _ e=>e) (λ_ _ _ e=>e) (λb ps e=>⟨#[],by rw[e];simp⟩) (λm hm=>?_) (λb u e=>?_) I.bare
 ·have e:b=it:=by simpa using hb
  subst e;exact⟨h1,hL,h2,h3⟩
 ·obtain⟨o,es,ep,ho,r⟩:=hm;exact⟨o,es,ep,k _ o (Ne.symm hL) ho,r⟩
 ·refine(I.hok b u e).stay (λc v hc q=>k c v ?_ q) (λ_ q=>q) λ_ _ q=>q;rcases hc with z|z
  ·rw[z];exact nit b u e
  ·exact nit c _ z
theorem Inv.tok (I:Inv X pins Y H s) (t:Nat):Inv X pins Y H {s with toks:=t}:=I.un Un.refl I.hok
theorem Inv.kept (I:Inv X pins Y H s) (k:∀b u,s.heap.get? b=some u->h'.get? b=some u):Inv X pins Y H {s with heap:=h',toks:=t'}:=I.un (Un.kept k) (I.hok.kept k)
theorem Inv.laid {a:Addr} (I:Inv X pins Y H s) (k:∀b u,s.heap.get? b=some u->h'.get? b=some u) (hp:s.heap.objs.size<=a) (new:ObjOk X.prog X.w (upd H a o) h' a o):
 Inv X pins Y (upd H a o) {s with heap:=h',toks:=t'}:=I.un (Un.laid k hp (I.hok.fresh hp)) (I.hok.laid k hp new)
theorem Inv.write (I:Inv X pins Y H s) (mu:Mut (H x)) (he:e=x\/H e=some (.own x)) (k:∀b u,b≠e->s.heap.get? b=some u->h'.get? b=some u) (heo:∃u,h'.get? e=some u) (new:ObjOk X.prog X.w (upd H x o) h' x o):Inv X pins Y (upd H x o) {s with heap:=h',toks:=t'}:=I.un (Un.write mu he k heo) (I.hok.write mu he k heo new)
theorem Inv.weak (I:Inv X pins Y H s) (hl:Y'.length=Y.length) (w:∀ (i:Nat) v,Y'[i]?=some (some v)->Y[i]?=some (some v)):Inv X pins Y' H s:=
 ⟨I.ok,I.os,I.bare,I.base,let⟨m,hn,hl'⟩:=I.loc;⟨m,hn,λi x v e1 e2 e3=>hl' i x v e1 (w i v e2) e3⟩,I.cell,I.free,I.freeC,I.pin,I.hok,hl.trans I.len⟩
theorem Inv.pins_of (I:Inv X pins Y H s) (h:∀p∈pins',s.heap.get? p.1=some p.2/\H p.1=none/\p.1≠X.env.locals/\p.1 ∉ X.fs/\∀v,p.2.data≠.cell v):Inv X pins' Y H s:=
 ⟨I.ok,I.os,I.bare,I.base,I.loc,I.cell,I.free,I.freeC,λp hp=>(mem_append.mp hp).elim (λz=>I.pin p (Of _ z)) (h p),I.hok,I.len⟩
theorem qB {N:NP} (hN:N.Nodup) {i j:Nat} (a:N[i]?=some x) (b:N[j]?=some x):i=j:=by
 obtain⟨h1,e1⟩:=N4.mp a;obtain⟨h2,e2⟩:=N4.mp b;exact(List.getElem_inj hN).mp (e1.trans e2.symm)
theorem nH (I:Inv X pins Y H s) (hN:X.N.Nodup) (hi:X.N[i]?=some x) (hx:Loc X.env.scope x) (r:RelV v u) (h:∀s',Inv X pins (Y.set i (some v)) H s'->(∃a,Heap.SameBut a s.heap s'.heap/\(a=X.env.locals\/X.env.cells.lookup x=some a))->Q () s') (hf:X.fn x=true\/X.env.scope.names.lookup x=some .local:=by exact !33):wpAny M A (storeName X.env x u) Q E s:=by
 obtain⟨m,hn,hl⟩:=id I.loc;have hcls:(X.env.scope.kind==.class||(X.env.scope.kind==.module&&X.env.locals !=X.env.globals))=false:=by rw[I.ok.kind];rfl
 have hiY:i<Y.length:=by rw[I.len];exact(N4.mp hi).1
 have cne:=I.cne;have tracked:∀ {a:Addr} {h':Heap},(∃o,s.heap.get? a=some o/\H a=none)->Heap.SameBut a s.heap h'->HOk X.prog X.w H h':=λ{a h'} ha hs b ob e=>by
  obtain⟨_,_,hfree⟩:=ha;refine(I.hok b ob e).stay (λc w' hc q=>(hs.2 c ?_).trans q) (λ_ q=>q) λ_ _ q=>q;rintro rfl;rcases hc with rfl|hc
  ·rw[hfree]at e;cases e
  ·rw[hfree]at hc;cases hc
 rcases hx with hk|hk
 ·refine wpAny_storeName_local hk hn (λh' hn' hs=>?_) hcls;obtain⟨oL,_,_,hoL,_⟩:=id hn;refine h _ ⟨I.ok,I.os,I.bare,⟨λb o e n hb hx=>?_,λb o e n hb hx=>?_,I.base.free,λb o e hx=>?_,I.base.tups,I.base.frzs,I.base.tbls⟩,⟨_,hn',λj y v' e1 e2 e3=>?_⟩,λy c e=>?_,I.free,I.freeC,λp hp=>?_,tracked ⟨oL,hoL,I.free⟩ hs,by simpa using I.len⟩ ⟨_,hs,.inl rfl⟩
  ·exact(hs.2 b (Ob (N8 (N1 e) I.ok.above))).trans (I.base.keep b o e n hb hx)
  ·obtain⟨sl,e1⟩:=I.base.slot b o e n hb hx;exact⟨sl,(hs.2 b (Ob (N8 (N1 e) I.ok.above))).trans e1⟩
  ·obtain⟨o',e1⟩:=I.base.there b o e hx;exact⟨o',(hs.2 b (Ob (N8 (N1 e) I.ok.above))).trans e1⟩
  ·by_cases hj:j=i
   ·subst hj;rw[hi]at e1;cases e1;rw[List.getElem?_set_self hiY]at e2;cases e2;exact⟨u,r,.inl ⟨hk,by simp⟩⟩
   ·rw[List.getElem?_set_ne (Ne.symm hj)]at e2;obtain⟨u',r',q⟩:=hl j y v' e1 e2 e3;refine⟨u',r',?_⟩;rcases q with⟨k,e⟩|⟨k,c,e,z⟩
    ·refine .inl ⟨k,?_⟩;have:y≠x:=λe=>hj (qB hN e1 (e▸hi));simp[this,e]
    ·exact .inr ⟨k,c,e,z.sameBut hs (cne y c e)⟩
  ·obtain⟨w',z⟩:=I.cell y c e;exact⟨w',z.sameBut hs (cne y c e)⟩
  ·obtain⟨e,n,ne,nf,d⟩:=I.pin p hp;exact⟨(hs.2 p.1 ne).trans e,n,ne,nf,d⟩
 ·have hfn:X.fn x=true:=by
   rcases hf with z|z
   ·exact z
   ·rw[z]at hk;cases hk
  obtain⟨c,hc⟩:=I.ok.has x (.inl hk);obtain⟨w',z⟩:=I.cell x c hc;refine wpAny_storeName_cell I.ok.kind hk hc z (λh' hc' hs=>?_);obtain⟨oc,hoc,hocd⟩:=id z;refine h {s with heap:=h'} ⟨I.ok,I.os,I.bare,⟨λb o e n hb hx=>?_,λb o e n hb hx=>?_,I.base.free,λb o e hx=>?_,I.base.tups,I.base.frzs,I.base.tbls⟩,⟨m,hn.sameBut hs (Ne.symm (cne x c hc)),λj y v' e1 e2 e3=>?_⟩,λy c' e=>?_,I.free,I.freeC,λp hp=>?_,tracked ⟨oc,hoc,I.freeC x c hc⟩ hs,by simpa using I.len⟩ ⟨c,hs,.inr hc⟩
  ·exact(hs.2 b (Ob (N8 (N1 e) (I.ok.cab x c hfn hc)))).trans (I.base.keep b o e n hb hx)
  ·obtain⟨sl,e1⟩:=I.base.slot b o e n hb hx;exact⟨sl,(hs.2 b (Ob (N8 (N1 e) (I.ok.cab x c hfn hc)))).trans e1⟩
  ·obtain⟨o',e1⟩:=I.base.there b o e hx;exact⟨o',(hs.2 b (Ob (N8 (N1 e) (I.ok.cab x c hfn hc)))).trans e1⟩
  ·by_cases hj:j=i
   ·subst hj;rw[hi]at e1;cases e1;rw[List.getElem?_set_self hiY]at e2;cases e2;exact⟨u,r,.inr ⟨.inl hk,c,hc,hc'⟩⟩
   ·rw[List.getElem?_set_ne (Ne.symm hj)]at e2;obtain⟨u',r',q⟩:=hl j y v' e1 e2 e3;refine⟨u',r',?_⟩;rcases q with q|⟨k,c',e,z'⟩
    ·exact .inl q
    ·refine .inr ⟨k,c',e,z'.sameBut hs ?_⟩;rintro rfl;exact hj (qB hN e1 (I.ok.inj _ _ _ e hc▸hi))
  ·by_cases hcc:c'=c
   ·subst hcc;exact⟨_,hc'⟩
   ·obtain⟨w2,z2⟩:=I.cell y c' e;exact⟨w2,z2.sameBut hs hcc⟩
  ·obtain⟨e,n,ne,nf,d⟩:=I.pin p hp;refine⟨(hs.2 p.1 ?_).trans e,n,ne,nf,d⟩;intro q;rw[q,hoc]at e;have q':=Option.some.inj e;exact d w' (by rw[<-q'];exact hocd)
theorem qC (I:Inv X pins Y H s) (hN:X.N.Nodup) (hi:X.N[i]?=some x) (hx:Loc X.env.scope x) (r:RelV v u) (h:∀s',Inv X pins (Y.set i (some v)) H s'->Q () s') (hf:X.fn x=true\/X.env.scope.names.lookup x=some .local:=by exact !33):wpAny M A (storeName X.env x u) Q E s:=
 nH I hN hi hx r (λs' I' _=>h s' I') hf
theorem Inv.call' (I:Inv X pins Y H s) (ho:s'.os=s.os) (u:Un (frs X.stack) ch H H' s.heap s'.heap) (hok:HOk X.prog X.w H' s'.heap) (hg:AllBare s'.gens) (hch:∀b∈ch,(b∈X.ex\/X.s₀.heap.objs.size<=b)/\b≠X.env.locals/\(∀x c,X.env.cells.lookup x=some c->c≠b)/\∀p∈X.pn++pins,p.1≠b):Inv X pins Y H' s':=by
 obtain⟨h',g',d',t',o'⟩:=s';have e:=ho;subst e;exact I.call u hok hg hch
end
abbrev XK:=Value->Option Addr->Hp->Prop
abbrev St:=List (Option V)
abbrev VK:=V->Hp->Prop
abbrev TE:=St->Hp->VK->Prop
abbrev TT:=St->Hp->(Bool->Hp->Prop)->Prop
abbrev TA:=St->Hp->(List V->Hp->Prop)->Prop
structure Ends where
 nx:St->Hp->Prop
 rt:VK
 bk:St->Hp->Prop:=λ_ _=>False
 ct:St->Hp->Prop:=λ_ _=>False
abbrev TS:=Ends->St->Hp->Prop
def EP (X:Cx) (pins:NG) (Y:St) (Q:VK) (u:Value) (s':Shared):Prop:=∃v H',Inv X pins Y H' s'/\RelV v u/\Q v H'
def TP (X:Cx) (pins:NG) (Y:St) (Q:Bool->Hp->Prop) (b:Bool) (s':Shared):Prop:=∃H',Inv X pins Y H' s'/\Q b H'
def AP (X:Cx) (pins:NG) (Y:St) (Q:List V->Hp->Prop) (us:NK) (s':Shared):Prop:=∃vs H',Inv X pins Y H' s'/\Vals vs us/\Q vs H'
def SP (X:Cx) (pins:NG) (D:Ends) (f:Flow) (s':Shared):Prop:=
 match f with
 |.next=>∃Y' H',Inv X pins Y' H' s'/\D.nx Y' H'
 |.brk=>∃Y' H',Inv X pins Y' H' s'/\D.bk Y' H'
 |.cont=>∃Y' H',Inv X pins Y' H' s'/\D.ct Y' H'
 |.ret u=>∃v Y' H',Inv X pins Y' H' s'/\RelV v u/\D.rt v H'
def PE (X:Cx) (e:Expr) (t:TE):Prop:=
 ∀ (pins:NG) (s:Shared) (Y:St) (H:Hp) (Q:VK),Inv X pins Y H s->t Y H Q->wpAny (!3) X.A (eval e X.env) (EP X pins Y Q) X.xe s
def PT (X:Cx) (e:Expr) (t:TT):Prop:=
 ∀ (pins:NG) (s:Shared) (Y:St) (H:Hp) (Q:Bool->Hp->Prop),Inv X pins Y H s->t Y H Q->wpAny (!3) X.A (isTrue e X.env (eval e X.env)) (TP X pins Y Q) X.xe s
def PW (X:Cx) (e:Expr) (t:TT):Prop:=
 ∀ (whole:Sem Value) (pins:NG) (s:Shared) (Y:St) (H:Hp) (Q:Bool->Hp->Prop),Inv X pins Y H s->t Y H Q->wpAny (!3) X.A (isTrue e X.env whole) (TP X pins Y Q) X.xe s
theorem PW.pt (h:PW X e t):PT X e t:=h _
def PA (X:Cx) (es:NT) (t:TA):Prop:=
 ∀ (pos:Pos) (pins:NG) (s:Shared) (Y:St) (H:Hp) (Q:List V->Hp->Prop),Inv X pins Y H s->t Y H Q->wpAny (!3) X.A (spliced (!14)) (AP X pins Y Q) X.xe s
def PS (X:Cx) (st:Stmt) (t:TS):Prop:=
 ∀ (pins:NG) (s:Shared) (Y:St) (H:Hp) (D:Ends),Inv X pins Y H s->t D Y H->wpAny (!3) X.A (exec st X.env) (SP X pins D) X.xe s
def PSs (X:Cx) (st:List Stmt) (t:TS):Prop:=
 ∀ (pins:NG) (s:Shared) (Y:St) (H:Hp) (D:Ends),Inv X pins Y H s->t D Y H->wpAny (!3) X.A (execs st X.env) (SP X pins D) X.xe s
theorem thn {Q Q':α->Shared->Prop} (h:wpAny M A t Q E s) (hQ:∀a s,Q a s->Q' a s):wpAny M A t Q' E s:=On h hQ λ_ _ x=>x
section
variable {X:Cx}
def LA (i:Nat):TE:=λY H Q=>∃v,Y[i]?=some (some v)/\Q v H
def tC (v:V):TE:=λ_ H Q=>Q v H
theorem cc {pos} (hN:X.N[i]?=some x) (hv:Vis X.env.scope x) (hd:(!7)=false:=by decide) (hcd:(!10)=false:=by decide):PE X (.Name x pos) (LA i):=by
 intro pins s Y H Q I h;obtain⟨v,e,h⟩:=h;obtain⟨m,hn,hl⟩:=I.loc;obtain⟨u,r,l⟩:=hl i x v hN e hv;have fin:EP X pins Y Q u s:=⟨v,H,I,r,h⟩;rcases l with⟨hk,hm⟩|⟨hk,c,hc,hcell⟩
 ·exact wpAny_Name (wpAny_loadName_local I.ok.kind hk hn hm fin) hd
 ·rcases hk with hk|hk
  ·exact wpAny_Name (wpAny_loadName_cell I.ok.kind hk hc hcell fin) hd
  ·exact wpAny_Name (wpAny_loadName_free I.ok.kind hk hc hcell fin hcd) hd
theorem pe_int:PE X (.Constant (.int i) j pos) (tC (.int i)):=λ_ _ _ H _ I h=>wpAny_Constant_int ⟨.int i,H,I.tok _,⟨_,rfl⟩,h⟩
theorem pe_bl:PE X (.Constant (.bool b) j pos) (tC (.bl b)):=λ_ _ _ H _ I h=>Constant_bool ⟨.bl b,H,I,rfl,h⟩
theorem pe_non:PE X (.Constant .none j pos) (tC .non):=λ_ _ _ H _ I h=>Constant_none ⟨.non,H,I,rfl,h⟩
theorem pe_str:PE X (.Constant (.str x) j pos) (tC (.str x)):=λ_ _ _ H _ I h=>Calls.Constant_str ⟨.str x,H,I.tok _,⟨_,rfl⟩,h⟩
def Gl (X:Cx) (x:Str):Prop:=X.env.kindOf x=some .globalImplicit
theorem oH {Y:St} (I:Inv X pins Y H s) (hg:Gl X x) (hm:X.mg x=some u) (h:Q u s) (hd:(!7)=false:=by decide):wpAny (!3) X.A (eval (.Name x pos) X.env) Q E s:=
 Calls.Name_function_global I.ok.kind hg (Calls.loadGlobal_global (by rw[I.ok.glob];exact I.mod.glob.keeps I.bk) hm h) hd
theorem ce {E} {Y:St} {pos} (I:Inv X pins Y H s) (hg:Gl X x) (hm:X.mg x=none) (hv:bootBuiltins x=some u) (h:Q u s) (hn:x≠"__name__":=by decide) (hd:(!7)=false:=by decide):wpAny (!3) X.A (eval (.Name x pos) X.env) Q E s:=by
 obtain⟨mb,h1,h2⟩:=I.mod.blt;exact Calls.Name_function_global I.ok.kind hg (Calls.loadGlobal_builtin (by rw[I.ok.glob];exact I.mod.glob.keeps I.bk) hm (by rw[I.ok.blt];exact h1.keeps I.bk) ((h2 x hn).trans hv) h) hd
theorem BK (hg:Gl X x) (hm:X.mg x=some u) (r:RelV v u) (hd:(!7)=false:=by decide):PE X (.Name x pos) (tC v):=
 λ_ _ _ H _ I h=>oH I hg hm ⟨v,H,I,r,h⟩ hd
theorem BL {pos} (hg:Gl X x) (hm:X.mg x=none) (hv:bootBuiltins x=some u) (r:RelV v u) (hn:x≠"__name__":=by decide) (hd:(!7)=false:=by decide):PE X (.Name x pos) (tC v):=
 λ_ _ _ H _ I h=>ce I hg hm hv ⟨v,H,I,r,h⟩ hn hd
variable {a b:Expr} {ta tb:TE} {pos:Pos}
variable {tA tB':TT} {rest:NT}
def LB (t u:TT):TT:=λY H Q=>t Y H λc H1=>if c=true then u Y H1 Q else Q false H1
def tOr (t u:TT):TT:=λY H Q=>t Y H λc H1=>if c=true then Q true H1 else u Y H1 Q
def LC (t:TT):TT:=λY H Q=>t Y H λc H1=>Q (!c) H1
theorem pw_and1 (ha:PT X a tA):PW X (.BoolOp .And [a] pos) tA:=by
 intro wh pins s Y H Q I h;refine isTrue_and (thn (ha pins s Y H Q I h) λc s1 e=>?_);cases c with
 |true=>exact isTrue_and_nil e
 |false=>exact e
theorem pw_or1 (ha:PT X a tA):PW X (.BoolOp .Or [a] pos) tA:=by
 intro wh pins s Y H Q I h;refine isTrue_or (thn (ha pins s Y H Q I h) λc s1 e=>?_);cases c with
 |false=>exact isTrue_or_nil e
 |true=>exact e
theorem pw_and (ha:PT X a tA) (hb:PW X (.BoolOp .And (b::rest) pos) tB'):PW X (.BoolOp .And (a::b::rest) pos) (LB tA tB'):=by
 intro wh pins s Y H Q I h;refine isTrue_and (thn (ha pins s Y H _ I h) λc s1 ⟨H1,I1,q1⟩=>?_);cases c with
 |true=>exact hb wh pins s1 Y H1 Q I1 q1
 |false=>exact⟨H1,I1,q1⟩
theorem pw_or (ha:PT X a tA) (hb:PW X (.BoolOp .Or (b::rest) pos) tB'):PW X (.BoolOp .Or (a::b::rest) pos) (tOr tA tB'):=by
 intro wh pins s Y H Q I h;refine isTrue_or (thn (ha pins s Y H _ I h) λc s1 ⟨H1,I1,q1⟩=>?_);cases c with
 |true=>exact⟨H1,I1,q1⟩
 |false=>exact hb wh pins s1 Y H1 Q I1 q1
theorem Fi (ha:PT X a tA):PT X (.UnaryOp .Not a pos) (LC tA):=by
 intro pins s Y H Q I h;exact isTrue_not (ha pins s Y H (λc H1=>Q (!c) H1) I h)
def IN (ta tb:TE):TE:=λY H Q=>ta Y H λx H1=>∃c,x=.bl c/\if c=true then tb Y H1 Q else Q (.bl false) H1
def IP (ta:TE):TE:=λY H Q=>ta Y H λx H1=>∃c,x=.bl c/\Q (.bl (!c)) H1
theorem Fj (h:PE X a t):PE X (.BoolOp op [a] pos) t:=λpins s Y H Q I hw=>BoolOp_one (h pins s Y H Q I hw)
theorem Fk (ha:PE X a ta) (hb:PE X (.BoolOp .And (b::rest) pos) tb):PE X (.BoolOp .And (a::b::rest) pos) (IN ta tb):=by
 intro pins s Y H Q I h;refine BoolOp_and (thn (ha pins s Y H _ I h) λv s1 ⟨x,H1,I1,r1,q1⟩=>?_);obtain⟨c,rfl,q1⟩:=q1;cases r1;refine wpAny_truthy_bool ?_;cases c with
 |true=>exact hb pins s1 Y H1 Q I1 q1
 |false=>exact⟨.bl false,H1,I1,rfl,q1⟩
theorem Fl (ha:PE X a ta):PE X (.UnaryOp .Not a pos) (IP ta):=by
 intro pins s Y H Q I h;refine UnaryOp_ (thn (ha pins s Y H _ I h) λv s1 ⟨x,H1,I1,r1,q1⟩=>?_);obtain⟨c,rfl,q1⟩:=q1;cases r1;exact not_of (wpAny_truthy_bool ⟨.bl (!c),H1,I1,rfl,q1⟩)
def tIf (t:TT) (ta tb:TE):TE:=λY H Q=>t Y H λc H1=>if c=true then ta Y H1 Q else tb Y H1 Q
theorem xN (hc:PT X c tA) (ha:PE X a ta) (hb:PE X b tb):PE X (.IfExp c a b pos) (tIf tA ta tb):=by
 intro pins s Y H Q I h;refine wpAny_IfExp (thn (hc pins s Y H _ I h) λd s1 ⟨H1,I1,q1⟩=>?_);cases d with
 |true=>exact ha pins s1 Y H1 Q I1 q1
 |false=>exact hb pins s1 Y H1 Q I1 q1
end
def SqL (K:Frag) (H:Hp) (a:Addr) (xs:List V):Prop:=
 Rd H a (.lst xs)\/
  ∃ (o:Obj) (its:Array Value) (n:Nat),K.lookup a=some o/\o.cls=.type "list"/\o.dict=none/\o.data=.seq its n/\its.size<=sizeLine/\Vals xs its.toList
def SqT (K:Frag) (H:Hp) (a:Addr) (xs:List V):Prop:=
 Rd H a (.tup xs)\/
  ∃ (o:Obj) (its:Array Value) (n:Nat),K.lookup a=some o/\o.cls=.type "tuple"/\o.data=.seq its n/\its.size<=sizeLine/\Vals xs its.toList
def LD:Value->Option V
 |.none=>some .non
 |.bool b=>some (.bl b)
 |.int i _=>some (.int i)
 |.str x _=>some (.str x)
 |.bytes b _=>some (.byt b)
 |.float b _=>some (.flt b)
 |.ref a=>some (.ref a)
 |.type n=>some (.ty n)
 |_=>none
theorem RelV.abs (r:RelV x u):LD u=some x:=by
 cases x with
 |non=>cases r;rfl
 |bl _=>cases r;rfl
 |int _=>obtain⟨t,rfl⟩:=r;rfl
 |str _=>obtain⟨t,rfl⟩:=r;rfl
 |byt _=>obtain⟨t,rfl⟩:=r;rfl
 |flt _=>obtain⟨t,rfl⟩:=r;rfl
 |ref _=>cases r;rfl
 |ty _=>cases r;rfl
theorem RelV.inj (r:RelV x u) (q:RelV y u):x=y:=Option.some.inj (r.abs.symm.trans q.abs)
theorem Vals.inj:∀ {xs ys:List V} {us:NK},Vals xs us->Vals ys us->xs=ys
 |_,_,_,.nil,.nil=>rfl
 |_,_,_,.cons r t,.cons r' t'=>by rw[r.inj r',Vals.inj t t']
section
variable {X:Cx} {pins:NG} {Y:St} {H:Hp} {s:Shared} {a:Addr} {xs ys:List V}
theorem SqL.of {K} (h:H a=some (.lst xs)):SqL K H a xs:=.inl (.inl h)
theorem SqT.of {K} (h:H a=some (.tup xs)):SqT K H a xs:=.inl (.inl h)
theorem Inv.list (I:Inv X pins Y H s) (h:SqL X.K H a xs):∃its:NK,Vals xs its/\PlainL s.heap a its.toArray/\xs.length<=sizeLine:=by
 rcases h with h|⟨o,its,n,hk,hc,hd,hs,hz,r⟩
 ·obtain⟨z,its,n,r,e⟩:=h.ok I.hok;exact⟨its,r,⟨_,n,e,rfl,rfl,rfl⟩,z⟩
 ·refine⟨its.toList,r,⟨o,n,I.kIn a o hk,hc,hd,by simpa using hs⟩,?_⟩;have e:=r.length;simp only[Array.length_toList]at e;omega
theorem Inv.tuple (I:Inv X pins Y H s) (h:SqT X.K H a xs):∃its:NK,Vals xs its/\IsTup s.heap a its.toArray/\xs.length<=sizeLine:=by
 rcases h with h|⟨o,its,n,hk,hc,hs,hz,r⟩
 ·obtain⟨z,its,r,p⟩:=h.ok I.hok;exact⟨its,r,p,z⟩
 ·refine⟨its.toList,r,⟨o,I.kIn a o hk,hc,n,by simpa using hs⟩,?_⟩;have e:=r.length;simp only[Array.length_toList]at e;omega
theorem Inv.list_inj (I:Inv X pins Y H s) (h:SqL X.K H a xs) (h':SqL X.K H a ys):xs=ys:=by
 obtain⟨its,r,⟨o,n,e,_,_,d⟩,_⟩:=I.list h;obtain⟨its',r',⟨o',n',e',_,_,d'⟩,_⟩:=I.list h';rw[e]at e';cases e';rw[d]at d';injection d' with d1 _;have:its=its':=by simpa using congrArg Array.toList d1
 subst this;exact r.inj r'
theorem Inv.tuple_inj (I:Inv X pins Y H s) (h:SqT X.K H a xs) (h':SqT X.K H a ys):xs=ys:=by
 obtain⟨its,r,⟨o,e,_,n,d⟩,_⟩:=I.tuple h;obtain⟨its',r',⟨o',e',_,n',d'⟩,_⟩:=I.tuple h';rw[e]at e';cases e';rw[d]at d';injection d' with d1 _;have:its=its':=by simpa using congrArg Array.toList d1
 subst this;exact r.inj r'
end
abbrev Cx.wish (X:Cx) (E:NJ):Cx:={X with xe:=E}
abbrev Cx.nox (X:Cx):Cx:=X.wish λ_ _=>False
theorem Cx.Ok.wish {X:Cx} (ok:X.Ok) (E:NJ):(X.wish E).Ok:=
 ⟨ok.mod,ok.kind,ok.glob,ok.blt,ok.above,ok.inj,ok.has,ok.cab,ok.hd,ok.frames,ok.stk,ok.exf,ok.bs,ok.bsz,ok.noex,ok.exfs,ok.funs,ok.frf⟩
theorem Cx.Ok.unwish {X:Cx} (ok:(X.wish E).Ok):X.Ok:=
 ⟨ok.mod,ok.kind,ok.glob,ok.blt,ok.above,ok.inj,ok.has,ok.cab,ok.hd,ok.frames,ok.stk,ok.exf,ok.bs,ok.bsz,ok.noex,ok.exfs,ok.funs,ok.frf⟩
section
variable {X:Cx} {pins:NG} {Y:St} {H:Hp} {s:Shared} {E:NJ}
theorem Inv.wish (I:Inv X pins Y H s) (E:NJ):Inv (X.wish E) pins Y H s:=⟨I.ok.wish E,I.os,I.bare,I.base,I.loc,I.cell,I.free,I.freeC,I.pin,I.hok,I.len⟩
theorem Inv.unwish (I:Inv (X.wish E) pins Y H s):Inv X pins Y H s:=⟨I.ok.unwish,I.os,I.bare,I.base,I.loc,I.cell,I.free,I.freeC,I.pin,I.hok,I.len⟩
theorem SP.unwish {D} (h:SP (X.wish E) pins D f s'):SP X pins D f s':=by
 cases f with
 |next=>obtain⟨Y',H',I,q⟩:=h;exact⟨Y',H',I.unwish,q⟩
 |brk=>obtain⟨Y',H',I,q⟩:=h;exact⟨Y',H',I.unwish,q⟩
 |cont=>obtain⟨Y',H',I,q⟩:=h;exact⟨Y',H',I.unwish,q⟩
 |ret u=>obtain⟨v,Y',H',I,r,q⟩:=h;exact⟨v,Y',H',I.unwish,r,q⟩
theorem PSs.nox {st} (h:PSs X.nox st t):PSs X st t:=λpins s Y H D I hw=>
 On (h pins s Y H D (I.wish _) hw) (λ_ _ q=>q.unwish) λ_ _ z=>False.elim z
end
section
variable {X:Cx} {st:Stmt} {rest:List Stmt} {t u:TS} {e:Expr} {te:TE} {pos:Pos}
def IQ:TS:=λD Y H=>D.nx Y H
def LF (t u:TS):TS:=λD Y H=>t {D with nx:=u D} Y H
theorem pss_nil:PSs X [] IQ:=λ_ _ Y H _ I h=>wpAny_execs_nil ⟨Y,H,I,h⟩
theorem kZ (h1:PS X st t) (h2:PSs X rest u):PSs X (st::rest) (LF t u):=by
 intro pins s Y H D I h;refine wpAny_execs_cons (thn (h1 pins s Y H {D with nx:=u D} I h) λf s1 q=>?_);cases f with
 |next=>
  obtain⟨Y',H',I',q⟩:=q;exact h2 pins s1 Y' H' D I' q
 |ret v=>exact q
 |brk=>exact q
 |cont=>exact q
theorem Inv.quiet {Y:St} (I:Inv X pins Y H s):interactive X.env=false:=by simp[interactive,I.ok.kind]
def IR (te:TE):TS:=λD Y H=>te Y H λ_ H1=>D.nx Y H1
theorem eD (he:PE X e te) (hs:swapsWith e none pos.line X.env=pure false:=by rfl):PS X (.Expr e pos) (IR te):=by
 intro pins s Y H D I h;exact wpAny_Expr_any (thn (he pins s Y H _ I h) λv s1 ⟨x,H1,I1,r1,q1⟩=>⟨Y,H1,I1,q1⟩) I.quiet hs
def LG (te:TE):TS:=λD Y H=>te Y H D.rt
theorem xO (he:PE X e te):PS X (.Return (some e) pos) (LG te):=by
 intro pins s Y H D I h;exact wpAny_Return_some (thn (he pins s Y H _ I h) λv s1 ⟨x,H1,I1,r1,q1⟩=>⟨x,Y,H1,I1,r1,q1⟩)
def IS:TS:=λD _ H=>D.rt .non H
theorem ps_retN:PS X (.Return none pos) IS:=λ_ _ Y H _ I h=>wpAny_Return_none ⟨.non,Y,H,I,rfl,h⟩
def LH (c:TT) (t u:TS):TS:=λD Y H=>c Y H λb H1=>if b=true then t D Y H1 else u D Y H1
theorem IT (hc:PT X c tc) (ha:PSs X a t) (hb:PSs X b u):PS X (.If c a b pos) (LH tc t u):=by
 intro pins s Y H D I h;refine wpAny_If (thn (hc pins s Y H _ I h) λd s1 ⟨H1,I1,q1⟩=>?_);cases d with
 |true=>exact ha pins s1 Y H1 D I1 q1
 |false=>exact hb pins s1 Y H1 D I1 q1
def xP:TS:=λ_ _ _=>False
theorem ps_never:PS X st xP:=λ_ _ _ _ _ _ h=>h.elim
theorem pss_never:PSs X sts xP:=λ_ _ _ _ _ _ h=>h.elim
end
abbrev TG:=V->St->Hp->(St->Hp->Prop)->Prop
abbrev TGs:=List V->St->Hp->(St->Hp->Prop)->Prop
def PG (X:Cx) (target:Expr) (t:TG):Prop:=
 ∀ (pins:NG) (s:Shared) (Y:St) (H:Hp) (v:V) (u:Value) (Q:St->Hp->Prop),Inv X pins Y H s->RelV v u->t v Y H Q->
  wpAny (!3) X.A (assign target X.env u) (λ_ s'=>∃Y' H',Inv X pins Y' H' s'/\Q Y' H') X.xe s
def PGs (X:Cx) (ts:NT) (t:TGs):Prop:=
 ∀ (pins:NG) (s:Shared) (Y:St) (H:Hp) (vs:List V) (us:NK) (Q:St->Hp->Prop),Inv X pins Y H s->Vals vs us->t vs Y H Q->
  wpAny (!3) X.A (assignInOrder ((assignEach ts X.env).map (·.2)) us) (λ_ s'=>∃Y' H',Inv X pins Y' H' s'/\Q Y' H') X.xe s
abbrev Fm:=V->V->V->Hp->(Hp->Prop)->Prop
def Fo (X:Cx) (t:Fm):Prop:=
 ∀ (pins:NG) (s:Shared) (Y:St) (H:Hp) (o i v:V) (ov iv u:Value) (Q:Hp->Prop),Inv X pins Y H s->RelV o ov->RelV i iv->RelV v u->t o i v H Q->
  wpAny (!3) X.A (setItem ov iv u) (λ_ s'=>∃H',Inv X pins Y H' s'/\Q H') X.xe s
section
variable {X:Cx} {pos:Pos}
def qD (i:Nat):TG:=λv Y H Q=>Q (Y.set i (some v)) H
theorem uL (hN:X.N.Nodup) (hi:X.N[i]?=some x) (hx:Loc X.env.scope x) (hf:X.fn x=true\/X.env.scope.names.lookup x=some .local:=by exact !33):PG X (.Name x pos) (qD i):=by
 intro pins s Y H v u Q I r h;exact wpAny_assign_Name (qC I hN hi hx r (λs' I'=>⟨_,H,I',h⟩) hf)
def LI:TGs:=λvs Y H Q=>vs=[]/\Q Y H
def IU (t:TG) (u:TGs):TGs:=λvs Y H Q=>∃v r,vs=v::r/\t v Y H λY' H'=>u r Y' H' Q
theorem pgs_nil:PGs X [] LI:=by
 intro pins s Y H vs us Q I r h;obtain⟨e,h⟩:=h;exact assignInOrder_nil ⟨Y,H,I,h⟩
theorem qE (h1:PG X e t) (h2:PGs X es u) (hs:(assignEach (e::es) X.env).map (·.2)=assign e X.env::(assignEach es X.env).map (·.2):=by rfl):PGs X (e::es) (IU t u):=by
 intro pins s Y H vs us Q I r h;obtain⟨v,vr,e1,h⟩:=h;subst e1;cases r with
 |cons r rr=>
  rw[hs];refine assignInOrder_cons (thn (h1 pins s Y H _ _ _ I r h) λ_ s1 ⟨Y1,H1,I1,q1⟩=>?_);exact h2 pins s1 Y1 H1 _ _ Q I1 rr q1
def LJ (K:Frag) (n:Nat) (t:TGs):TG:=λv Y H Q=>∃a xs,v=.ref a/\SqT K H a xs/\xs.length=n/\t xs Y H Q
theorem xQ {k} (hc:X.calm=true) (h:PGs X es t) (hn:(assignEach es X.env).length=n:=by rfl) (hst:(assignEach es X.env).findIdx? (·.1)=none:=by rfl):PG X (.Tuple es k pos) (LJ X.K n t):=by
 intro pins s Y H v u Q I r hw;obtain⟨a,xs,e1,hq,hl,hw⟩:=hw;subst e1;cases r;obtain⟨its,rv,ht,hz⟩:=I.tuple hq;refine assign_Tuple_tuple (I.ok.hd hc) ht (by simp[hn,<-hl,rv.length]) hst λh' hx=>?_;have I1:Inv X pins Y H {s with heap:=h'}:=I.kept λb o e=>hx b o (Ob (N1 e)) e;exact h pins _ Y H xs _ Q I1 (by simpa using rv) hw
def LK (to ti:TE) (t:Fm):TG:=λv Y H Q=>to Y H λo H1=>ti Y H1 λi H2=>t o i v H2 λH3=>Q Y H3
theorem xR (ho:PE X o to) (hi:PE X i ti) (hs:Fo X t) (ha:∀v,assign (.Subscript o i pos) X.env v=(do
  let ov<-holding [v] (eval o X.env)
  let iv<-holding [v,ov] (eval i X.env)
  standAt pos
  holding [v,ov,iv] (setItem ov iv v)
  release [v,ov,iv] []):=by intro _;rfl):PG X (.Subscript o i pos) (LK to ti t):=by
 intro pins s Y H v u Q I r h
 refine NW (wpAny_holding (thn (ho pins s Y H _ I h) λov s1 ⟨x,H1,I1,r1,q1⟩=>?_))
 refine NW (wpAny_holding (thn (hi pins s1 Y H1 _ I1 q1) λiv s2 ⟨y,H2,I2,r2,q2⟩=>?_))
 refine NW (wpAny_standAt (NW (wpAny_holding (thn (hs pins s2 Y H2 x y v ov iv u _ I2 r1 r2 r q2) λ_ s3 ⟨H3,I3,q3⟩=>?_))))
 exact wpAny_release ⟨Y,H3,I3,q3⟩
def xS (te:TE) (g:TG):TS:=λD Y H=>te Y H λx H1=>g x Y H1 D.nx
theorem xU (he:PE X e te) (hg:PG X tg g) (hs:swapsWithSole [tg] e pos.line X.env=pure false:=by rfl) (hw:swappedStores [tg] e X.env=pure none:=by rfl) (h1:(assignEach [tg] X.env).map (·.2)=[assign tg X.env]:=by rfl):PS X (.Assign [tg] e pos) (xS te g):=by
 intro pins s Y H D I h;refine wpAny_Assign_stores (thn (he pins s Y H _ I h) λv s1 ⟨x,H1,I1,r1,q1⟩=>?_) hs hw;rw[h1];exact thn (hg pins s1 Y H1 x v _ I1 r1 q1) λ_ s2 q=>q
theorem Fp (hN:X.N.Nodup) (hi:X.N[i]?=some x) (hx:Loc X.env.scope x) (he:PE X e te) (hs:swapsWith e (some (.Name x pos')) pos.line X.env=pure false:=by rfl) (hf:X.fn x=true\/X.env.scope.names.lookup x=some .local:=by exact !33):
  PS X (.Assign [.Name x pos'] e pos) (xS te (qD i)):=by
 intro pins s Y H D I h
 refine wpAny_Assign_Name (thn (he pins s Y H _ I h) λv s1 ⟨y,H1,I1,r1,q1⟩=>?_) hs
 exact qC I1 hN hi hx r1 (λs2 I2=>⟨_,H1,I2,q1⟩) hf
end
section
variable {X:Cx} {pos:Pos}
def Fq (c:TT) (tb:TS):TS:=λD Y H=>∃W:Nat->St->Hp->Prop,(∃m,W m Y H)/\∀m Y H,W m Y H->
 c Y H λb H1=>if b=true then∃N:St->Hp->Prop,(∀Y' H',N Y' H'->∃m',m'<m/\W m' Y' H')/\tb {D with nx:=N,ct:=N,bk:=D.nx} Y H1 else D.nx Y H1
theorem xV (hp:PassesOwn (!3) X.A X.env X.xe) (hc:PT X c tc) (hb:PSs X body tb):PS X (.While c body [] pos) (Fq tc tb):=by
 intro pins s Y H D I h;obtain⟨W,⟨m0,w0⟩,turn⟩:=h;refine wpAny_While (codeAny_whileLoop (λn s'=>∃Y' H',Inv X pins Y' H' s'/\W n Y' H') ?_ m0 ⟨Y,H,I,w0⟩);rintro n s1 ⟨Y1,H1,I1,w1⟩;refine wpAny_passesOwn hp (thn (hc pins s1 Y1 H1 _ I1 (turn n Y1 H1 w1)) λb s2 ⟨H2,I2,q2⟩=>?_);cases b with
 |true=>
  obtain⟨N,hN,q2⟩:=q2;refine wpAny_passesOwn hp (thn (hb pins s2 Y1 H2 _ I2 q2) λf s3 q3=>?_);cases f with
  |next=>
   obtain⟨Y3,H3,I3,n3⟩:=q3;obtain⟨m',hm,w3⟩:=hN Y3 H3 n3;exact⟨m',hm,Y3,H3,I3,w3⟩
  |cont=>
   obtain⟨Y3,H3,I3,n3⟩:=q3;obtain⟨m',hm,w3⟩:=hN Y3 H3 n3;exact⟨m',hm,Y3,H3,I3,w3⟩
  |brk=>exact q3
  |ret v=>exact q3
 |false=>
  exact wpAny_execs_nil ⟨Y1,H2,I2,q2⟩
end
structure It where
 go:Nat->Hp->Prop
 yld:Nat->Hp->V->Hp->Prop
 stop:Nat->Hp->Prop
def gG (X:Cx) (pins:NG) (H:Hp) (b:Addr):Prop:=
 H b=none/\b≠X.env.locals/\b ∉ X.fs/\(b∈X.ex\/X.s₀.heap.objs.size<=b)/\(∀x c,X.env.cells.lookup x=some c->c≠b)/\∀p∈X.pn++pins,p.1≠b
theorem Inv.fpOk {Y:St} {b:Addr} (I:Inv X pins Y H s) (hb:s.heap.objs.size<=b) (hn:H' b=none):gG X pins H' b:=by
 refine⟨hn,Nat.ne_of_gt (N8 I.lt hb),I.nofs hb,.inr (Oa I.sz hb),λx c e z=>?_,λp hp z=>?_⟩
 ·obtain⟨v,q⟩:=I.cell x c e;exact absurd (N8 q.lt (by rw[z];exact hb)) (Oh _)
 ·exact absurd (N8 (N1 (I.pin p hp).1) (by rw[z];exact hb)) (Oh _)
structure Turn (P:Program) (w:World) (K:Frag) (tg:Expr) (J:It) (fp:List Addr) (it:Addr) (tn:Nat->Heap->Prop):Prop where
 mem:it∈fp
 obj:∀i h,tn i h->∀b∈fp,∃o,h.get? b=some o/\∀v,o.data≠.cell v
 keep:∀i h h',tn i h->(∀b∈fp,∀o,h.get? b=some o->h'.get? b=some o)->tn i h'
 item:∀ (X:Cx),X.prog=P->X.w=w->X.K=K->X.calm=true->∀ (i:Nat) (pins:NG) (s:Shared) (Y:St) (H:Hp) (E:NJ),Inv X pins Y H s->(∀b∈fp,gG X pins H b)->tn i s.heap->J.go i H->
  wpAny (model P w) X.A (pyNext (.ref it)) (λr s1=>∃u,r=some u/\
   wpAny (model P w) X.A (letOwnedTupleGo tg (.ref it) u) (λ_ s2=>∃x H',Inv X pins Y H' s2/\RelV x u/\J.yld i H x H'/\tn (i+1) s2.heap/\∀b∈fp,H' b=none) E s1) E s
 done:∀ (X:Cx),X.prog=P->X.w=w->X.K=K->X.calm=true->∀ (i:Nat) (pins:NG) (s:Shared) (Y:St) (H:Hp) (E:NJ),Inv X pins Y H s->(∀b∈fp,gG X pins H b)->tn i s.heap->J.stop i H->
  wpAny (model P w) X.A (pyNext (.ref it)) (λr s1=>r=none/\Inv X pins Y H s1) E s
 self:∀ (A:Around) (i:Nat) (s:Shared) (Q:NJ) (E:NJ),tn i s.heap->Q (.ref it) s->wpAny (model P w) A (pyIter (.ref it)) Q E s
abbrev TI:=St->Hp->(It->Hp->Prop)->Prop
def PIE (X:Cx) (pins:NG) (Y:St) (tg:Expr) (R:It->Hp->Prop) (itv:Value) (s2:Shared):Prop:=
 ∃ (it:Addr) (fp:List Addr) (tn:Nat->Heap->Prop) (J:It) (H':Hp),itv=.ref it/\Inv X pins Y H' s2/\Turn X.prog X.w X.K tg J fp it tn/\tn 0 s2.heap/\(∀b∈fp,gG X pins H' b)/\R J H'
def PI (X:Cx) (tg iter:Expr) (wi:TI):Prop:=
 ∀ (pins:NG) (s:Shared) (Y:St) (H:Hp) (R:It->Hp->Prop),Inv X pins Y H s->wi Y H R->
  wpAny (!3) X.A (eval iter X.env) (λv s1=>wpAny (!3) X.A (pyIter v) (PIE X pins Y tg R) X.xe s1) X.xe s
theorem qF (ho:s.heap.get? it = some o) (hc:o.cls = .type n) (hd:o.data = .fields vs) (hn:["enumerate", "zip", "dict_itemiterator", "dict_reverseitemiterator", "odict_iterator", "itertools.zip_longest", "itertools.pairwise"].contains n = false) (hQ:Q () s):wpAny M A (letOwnedTupleGo tg (.ref it) u) Q E s:=by
  cases tg <;> first
    | exact NY hQ
    | (cases u <;> first
        | exact NY hQ
        | (refine NW (wpAny_load ho ?_)
           rw [hc,hd]
           show wpAny M A (if (["enumerate", "zip", "dict_itemiterator", "dict_reverseitemiterator", "odict_iterator", "itertools.zip_longest", "itertools.pairwise"].contains n && vs[0]? == some (rawInt _)) = true then _ else _) Q E s
           rw [if_neg (by intro h; rw [hn,Bool.false_and] at h; cases h)]
           exact NY hQ))
def Itl (K:Frag) (a:Addr):It:=
 ⟨λi H=>∃xs x,SqL K H a xs/\xs[i]?=some x,λi H x H'=>H'=H/\∀xs,SqL K H a xs->xs[i]?=some x,λi H=>∃xs,SqL K H a xs/\xs.length<=i⟩
def Itt (K:Frag) (a:Addr):It:=
 ⟨λi H=>∃xs x,SqT K H a xs/\xs[i]?=some x,λi H x H'=>H'=H/\∀xs,SqT K H a xs->xs[i]?=some x,λi H=>∃xs,SqT K H a xs/\xs.length<=i⟩
def Itr (lo:Int) (n:Nat):It:=⟨λi _=>i<n,λi H x H'=>H'=H/\x=.int (lo+i),λi _=>n<=i⟩
theorem wq {P:Program} {w:World} {K:Frag} {tg:Expr} (a it:Addr):Turn P w K tg (Itl K a) [it] it (λi h=>h.IsListIter it a i) where
 mem:=by simp
 obj:=λi h st b hb=>by
  have e:b=it:=by simpa using hb
  subst e;obtain⟨o,e,c,d⟩:=st;exact⟨o,e,λv z=>by rw[d]at z;cases z⟩
 keep:=λi h h' st k=>st.at λo e=>k it (by simp) o e
 item:=by
  intro X hP hw hK hc i pins s Y H E I hf st hg;subst hP hw hK;obtain⟨xs,x,hq,hx⟩:=hg;obtain⟨its,rv,p,hz⟩:=I.list hq;obtain⟨u,hu,ru⟩:=rv.get hx;obtain⟨f0,f1,f2,f3,f4,f5⟩:=hf it (by simp);refine wpAny_pyNext_list_item st p.isList (by simpa using hu) λh' st' sb=>?_;have I1:Inv X pins Y H {s with heap:=h'}:=I.turned (λb o hb e=>(sb.2 b hb).trans e) f0 f1 f3 f4 f5;obtain⟨o,e,c,d⟩:=id st';exact⟨u,rfl,qF e c d (!4) ⟨x,H,I1,ru,⟨rfl,λys hy=>by rw[I.list_inj hy hq];exact hx⟩,st',λb hb=>(hf b hb).1⟩⟩
 done:=by
  intro X hP hw hK hc i pins s Y H E I hf st hg;subst hP hw hK;obtain⟨xs,hq,hx⟩:=hg;obtain⟨its,rv,p,hz⟩:=I.list hq;obtain⟨f0,f1,f2,f3,f4,f5⟩:=hf it (by simp);have hl:=rv.length;exact wpAny_pyNext_list_end (I.ok.hd hc) st p.isList (by simp;omega) λh' eb=>⟨rfl,I.turned (λb o hb e=>eb b o hb e) f0 f1 f3 f4 f5⟩
 self:=λ_ _ _ _ _ st h=>wpAny_pyIter_listiter st h
theorem sJ {P:Program} {w:World} {K:Frag} {tg:Expr} (a it:Addr):Turn P w K tg (Itt K a) [it] it (λi h=>h.IsTupleIter it a i) where
 mem:=by simp
 obj:=λi h st b hb=>by
  have e:b=it:=by simpa using hb
  subst e;obtain⟨o,e,c,d⟩:=st;exact⟨o,e,λv z=>by rw[d]at z;cases z⟩
 keep:=λi h h' st k=>st.at λo e=>k it (by simp) o e
 item:=by
  intro X hP hw hK hc i pins s Y H E I hf st hg;subst hP hw hK;obtain⟨xs,x,hq,hx⟩:=hg;obtain⟨its,rv,p,hz⟩:=I.tuple hq;obtain⟨u,hu,ru⟩:=rv.get hx;obtain⟨f0,f1,f2,f3,f4,f5⟩:=hf it (by simp);refine wpAny_pyNext_tuple_item st (p) (by simpa using hu) λh' st' sb=>?_;have I1:Inv X pins Y H {s with heap:=h'}:=I.turned (λb o hb e=>(sb.2 b hb).trans e) f0 f1 f3 f4 f5;obtain⟨o,e,c,d⟩:=id st';exact⟨u,rfl,qF e c d (!4) ⟨x,H,I1,ru,⟨rfl,λys hy=>by rw[I.tuple_inj hy hq];exact hx⟩,st',λb hb=>(hf b hb).1⟩⟩
 done:=by
  intro X hP hw hK hc i pins s Y H E I hf st hg;subst hP hw hK;obtain⟨xs,hq,hx⟩:=hg;obtain⟨its,rv,p,hz⟩:=I.tuple hq;obtain⟨f0,f1,f2,f3,f4,f5⟩:=hf it (by simp);have hl:=rv.length;exact wpAny_pyNext_tuple_end (I.ok.hd hc) st (p) (by simp;omega) λh' eb=>⟨rfl,I.turned (λb o hb e=>eb b o hb e) f0 f1 f3 f4 f5⟩
 self:=λ_ _ _ _ _ st h=>wpAny_pyIter_tupleiter st h
theorem sK {P:Program} {w:World} {K:Frag} {tg:Expr} (it:Addr) (lo:Int) (n:Nat):Turn P w K tg (Itr lo n) [it] it (λi h=>IsRangeIter h it (lo+(i:Nat)*1) ((n:Int)-(i:Nat)) 1) where
 mem:=by simp
 obj:=λi h st b hb=>by
  have e:b=it:=by simpa using hb
  subst e;exact⟨_,st,λv z=>by
   have z':=z;cases z'⟩
 keep:=λi h h' st k=>k it (by simp) _ st
 item:=by
  intro X hP hw hK hc i pins s Y H E I hf st hg;subst hP hw hK;obtain⟨f0,f1,f2,f3,f4,f5⟩:=hf it (by simp);have W:=Walks.range (prog:=X.prog) (w:=X.w) (I.ok.hd hc) it lo 1 n;refine W.item i s _ _ hg st λv h' tk hv st' kk=>?_;obtain⟨t,rfl⟩:=hv;have I1:Inv X pins Y H {s with heap:=h',toks:=tk}:=I.turned (λb o hb e=>kk b o (by simpa using hb) e) f0 f1 f3 f4 f5;refine⟨_,rfl,qF st' rfl rfl (!4) ⟨.int _,H,I1,⟨t,?_⟩,⟨rfl,rfl⟩,st',λb hb=>(hf b hb).1⟩⟩;rw[Int.mul_one]
 done:=by
  intro X hP hw hK hc i pins s Y H E I hf st hg;obtain⟨f0,f1,f2,f3,f4,f5⟩:=hf it (by simp);exact wpAny_pyNext_range_end (I.ok.hd hc) st (by have:n<=i:=hg;omega) λh' eb=>⟨rfl,I.turned (λb o hb e=>eb b o hb e) f0 f1 f3 f4 f5⟩
 self:=λ_ _ _ _ _ st h=>wpAny_pyIter_rangeiter st h
section
variable {X:Cx} {tg:Expr}
theorem xW {Y:St} {lo hi} (I:Inv X pins Y H s) (h1:-(2^62)<=lo) (h2:lo<2^62) (h3:-(2^62)<=hi) (h4:hi<2^62) (q:R (Itr lo (hi-lo).toNat) H):wpAny (!3) X.A (pyIter (!32)) (PIE X pins Y tg R) E {s with heap:=s.heap.push {cls:=.type "range",data:=.fields #[.int lo t,.int hi u,.int 1 v]},toks:=tk}:=by
 refine wpAny_pyIter_range (IsRange.new ..) (small_one h1 h2 h3 h4) ?_;have I1:Inv X pins Y H {s with heap:=s.heap.push {cls:=.type "range",data:=.fields #[.int lo t,.int hi u,.int 1 v]},toks:=tk}:=I.kept λb o e=>NX _ e;refine⟨(s.heap.push {cls:=.type "range",data:=.fields #[.int lo t,.int hi u,.int 1 v]}).objs.size,[(s.heap.push {cls:=.type "range",data:=.fields #[.int lo t,.int hi u,.int 1 v]}).objs.size],_,_,H,rfl,
  I1.kept λb o e=>NX _ e,sK _ lo (hi-lo).toNat,?_,λb hb=>?_,q⟩
 ·have e1:lo+((0:Nat):Int)*1=lo:=by simp
  have e2:(((hi-lo).toNat:Nat):Int)-((0:Nat):Int)=Builtin.Range.rangeSize lo hi 1:=by rw[rangeSize_one];split<;>omega
  rw[e1,e2];exact N2 _ rfl
 ·have e:b=(s.heap.push {cls:=.type "range",data:=.fields #[.int lo t,.int hi u,.int 1 v]}).objs.size:=by simpa using hb
  subst e;exact I1.fpOk (Om _) (I1.hok.fresh (Om _))
def IV (ta:TA):TI:=λY H R=>ta Y H λvs H1=>∃j:Int,vs=[.int j]/\ -(2^62)<=j/\j<2^62/\R (Itr 0 j.toNat) H1
theorem wr (hg:Gl X "range") (hm:X.mg "range"=none) (ha:PA X [a] ta) (hs:starEach [a] X.env=[(false,eval a X.env)]:=by rfl):PI X tg (.Call (.Name "range" p) [a] [] pos) (IV ta):=by
 intro pins s Y H R I h;refine Call_ (ce I hg hm boot_range (PyProof.Rows.callWith_type1 (thn (ha pos pins s Y H _ I h) λus s1 ⟨vs,H1,I1,r1,q1⟩=>?_) hs rfl));obtain⟨j,e,q1,q2,q⟩:=q1;subst e;cases r1 with
 |cons r rr=>
  cases rr;obtain⟨t,rfl⟩:=r;exact call_range_1 (xW I1 (!1) (!1) q1 q2 (by simpa using q))
def IW (wi:TI) (g:TG) (tb:TS):TS:=λD Y H=>wi Y H λJ H1=>∃W:Nat->Nat->St->Hp->Prop,(∃m,W 0 m Y H1)/\∀i m Y H,W i m Y H->
 (J.stop i H/\D.nx Y H)\/(J.go i H/\∃N:St->Hp->Prop,(∀Y' H',N Y' H'->∃m',m'<m/\W (i+1) m' Y' H')/\∀x H',J.yld i H x H'->g x Y H' λY2 H2=>tb {D with nx:=N,ct:=N,bk:=D.nx} Y2 H2)
def k9 (fp:List Addr) (h:Heap):NG:=fp.filterMap λb=>(h.get? b).map λo=>(b,o)
theorem eE (hb:b∈fp) (e:h.get? b=some o):(b,o)∈k9 fp h:=List.mem_filterMap.mpr ⟨b,hb,by rw[e];rfl⟩
theorem wt (hp:p∈k9 fp h):p.1∈fp/\h.get? p.1=some p.2:=by
 obtain⟨b,hb,e⟩:=List.mem_filterMap.mp hp;cases q:h.get? b with
 |none=>rw[q]at e;cases e
 |some o=>
  rw[q]at e;have e':=Option.some.inj e;subst e';exact⟨hb,q⟩
theorem Inv.pinned {Y:St} (I:Inv X pins Y H s) (hf:∀b∈fp,gG X pins H b) (ho:∀b∈fp,∃o,s.heap.get? b=some o/\∀v,o.data≠.cell v):Inv X (pins++k9 fp s.heap) Y H s:=
 I.pins_of λp hp=>(mem_append.mp hp).elim (λz=>I.pin p (Og _ z)) λz=>by
  obtain⟨hb,e⟩:=wt z;obtain⟨f0,f1,f2,_⟩:=hf p.1 hb;obtain⟨o,e',d⟩:=ho p.1 hb;rw[e]at e';cases e';exact⟨e,f0,f1,f2,d⟩
theorem Inv.unpinned {Y:St} (I:Inv X (pins++pl) Y H s):Inv X pins Y H s:=I.pins_of λp hp=>I.pin p (Og _ (Of _ hp))
theorem sL (hp:PassesOwn (!3) X.A X.env X.xe) (hc:X.calm=true) (hi:PI X tg iter wi) (hg:PG X tg g) (hb:PSs X body tb) (hs:∀x,foldedSetIterable iter X.env x=pure x:=by intro _;rfl):PS X (.For tg iter body [] pos) (IW wi g tb):=by
 intro pins s Y H D I h
 refine wpAny_For (thn (hi pins s Y H _ I h) λv s1 h1=>thn h1 λitv s2 h2=>?_) hs
 obtain⟨it,fp,tn,J,H2,e,I2,T,st2,f2,W,⟨m0,w0⟩,turn⟩:=h2
 subst e
 -- what stays true of the iterator's objects through the loop
 have stat:∀ {H':Hp},(∀b∈fp,H' b=none)->∀b∈fp,gG X pins H' b:=λhn b hb=>⟨hn b hb,(f2 b hb).2⟩
 refine codeAny_forLoop_any (λn s'=>∃i Y' H',Inv X pins Y' H' s'/\tn i s'.heap/\(∀b∈fp,H' b=none)/\W i n Y' H') ?_ m0 ⟨0,Y,H2,I2,st2,λb hb=>(f2 b hb).1,w0⟩
 rintro n s3 ⟨i,Y3,H3,I3,st3,fr3,w3⟩
 rcases turn i n Y3 H3 w3 with⟨stop,qn⟩|⟨go,N,hN,step⟩
 ·refine wpAny_passesOwn hp (thn (T.done X rfl rfl rfl hc i pins s3 Y3 H3 X.xe I3 (stat fr3) st3 stop) λr s4 ⟨hr,I4⟩=>?_)
  subst hr
  exact wpAny_execs_nil ⟨Y3,H3,I4,qn⟩
 ·refine wpAny_passesOwn hp (thn (T.item X rfl rfl rfl hc i pins s3 Y3 H3 X.xe I3 (stat fr3) st3 go) λr s4 ⟨u,hr,h4⟩=>?_)
  subst hr
  refine wpAny_passesOwn hp (thn h4 λ_ s5 ⟨x,H5,I5,r5,y5,st5,fr5⟩=>?_)
  have I5':=I5.pinned (stat fr5) (T.obj _ _ st5)
  refine wpAny_passesOwn hp (thn (hg _ s5 Y3 H5 x u _ I5' r5 (step x H5 y5)) λ_ s6 ⟨Y6,H6,I6,q6⟩=>?_)
  refine wpAny_passesOwn hp (thn (hb _ s6 Y6 H6 _ I6 q6) λf s7 q7=>?_)
  have again:∀ {Y7:St} {H7:Hp},Inv X (pins++k9 fp s5.heap) Y7 H7 s7->N Y7 H7->∃m,m<n/\∃i Y' H',Inv X pins Y' H' s7/\tn i s7.heap/\(∀b∈fp,H' b=none)/\W i m Y' H':=λ{Y7 H7} I7 n7=>by
   obtain⟨m',hm,w7⟩:=hN Y7 H7 n7
   refine⟨m',hm,i+1,Y7,H7,I7.unpinned,T.keep _ _ _ st5 λb hb o e=>(I7.pin (b,o) (Og _ (Og _ (eE hb e)))).1,λb hb=>?_,w7⟩
   obtain⟨o,e,d⟩:=T.obj _ _ st5 b hb
   exact(I7.pin (b,o) (Og _ (Og _ (eE hb e)))).2.1
  cases f with
  |next=>obtain⟨Y7,H7,I7,n7⟩:=q7;exact again I7 n7
  |cont=>obtain⟨Y7,H7,I7,n7⟩:=q7;exact again I7 n7
  |brk=>obtain⟨Y7,H7,I7,q7⟩:=q7;exact⟨Y7,H7,I7.unpinned,q7⟩
  |ret v=>obtain⟨x7,Y7,H7,I7,r7,q7⟩:=q7;exact⟨x7,Y7,H7,I7.unpinned,r7,q7⟩
end
abbrev R2:=V->V->Hp->VK->Prop
def OpR (X:Cx) (f:Value->Value->Sem Value) (r:R2):Prop:=
 ∀ (pins:NG) (s:Shared) (Y:St) (H:Hp) (x y:V) (v u:Value) (Q:VK),Inv X pins Y H s->RelV x v->RelV y u->r x y H Q->
  wpAny (!3) X.A (f v u) (EP X pins Y Q) X.xe s
def UnR (X:Cx) (f:Value->Sem Value) (r:V->Hp->VK->Prop):Prop:=
 ∀ (pins:NG) (s:Shared) (Y:St) (H:Hp) (x:V) (v:Value) (Q:VK),Inv X pins Y H s->RelV x v->r x H Q->
  wpAny (!3) X.A (f v) (EP X pins Y Q) X.xe s
def dD (X:Cx) (f:Value) (r:List V->Hp->VK->Prop):Prop:=
 ∀ (pins:NG) (s:Shared) (Y:St) (H:Hp) (xs:List V) (us:NK) (Q:VK),Inv X pins Y H s->Vals xs us->r xs H Q->
  wpAny (!3) X.A (call f us) (EP X pins Y Q) X.xe s
def LL (X:Cx) (r:V->Hp->(Bool->Hp->Prop)->Prop):Prop:=
 ∀ (pins:NG) (s:Shared) (Y:St) (H:Hp) (x:V) (v:Value) (Q:Bool->Hp->Prop),Inv X pins Y H s->RelV x v->r x H Q->
  wpAny (!3) X.A (truthy v) (TP X pins Y Q) X.xe s
def tOp (r:R2) (ta tb:TE):TE:=λY H Q=>ta Y H λx H1=>tb Y H1 λy H2=>r x y H2 Q
def tUn (r:V->Hp->VK->Prop) (ta:TE):TE:=λY H Q=>ta Y H λx H1=>r x H1 Q
def rI (C:Int->Int->Prop) (g:Int->Int->V):R2:=λx y H Q=>∃i j,x=.int i/\y=.int j/\C i j/\Q (g i j) H
def rI0 (g:Int->Int->V):R2:=λx y H Q=>∃i j,x=.int i/\y=.int j/\Q (g i j) H
def rU (g:Int->V):V->Hp->VK->Prop:=λx H Q=>∃i,x=.int i/\Q (g i) H
section
variable {X:Cx} {a b c:Expr} {ta tb tc:TE} {pos:Pos}
theorem Fs (ha:PE X a ta) (hb:PE X b tb) {Y:St} {R:V->V->Hp->Prop} (I:Inv X pins Y H s) (h:ta Y H λx H1=>tb Y H1 λy H2=>R x y H2) {f:Value->Value->Sem Value} (hf:∀v u s2 x y H2,Inv X pins Y H2 s2->RelV x v->RelV y u->R x y H2->wpAny (!3) X.A (f v u) Q X.xe s2):
  wpAny (!3) X.A (eval a X.env) (λv s₁=>wpAny (!3) X.A (eval b X.env) (λu s₂=>wpAny (!3) X.A (f v u) Q X.xe s₂) X.xe s₁) X.xe s:=by
 refine thn (ha pins s Y H _ I h) λv s1 ⟨x,H1,I1,r1,q1⟩=>?_
 refine thn (hb pins s1 Y H1 _ I1 q1) λu s2 ⟨y,H2,I2,r2,q2⟩=>?_
 grind
theorem El (ho:OpR X (binaryOp op) r) (ha:PE X a ta) (hb:PE X b tb):PE X (.BinOp a op b pos) (tOp r ta tb):=by
 intro pins s Y H Q I h;exact wpAny_BinOp (Fs ha hb I h λv u s2 x y H2 I2 rx ry q=>ho pins s2 Y H2 x y v u Q I2 rx ry q)
theorem IX (ho:UnR X (unaryOp op) r) (ha:PE X a ta):PE X (.UnaryOp op a pos) (tUn r ta):=by
 intro pins s Y H Q I h;exact UnaryOp_ (thn (ha pins s Y H _ I h) λv s1 ⟨x,H1,I1,r1,q1⟩=>ho pins s1 Y H1 x v Q I1 r1 q1)
theorem opI {g:Int->Int->Int} (rule:∀ (i j:Int) (t u:Tok) (s:Shared) (Q:NJ) (E:NJ),C i j->Q (.int (g i j) s.toks) {s with toks:=s.toks+1}->wpAny (!3) X.A (f (.int i t) (.int j u)) Q E s):
  OpR X f (rI C λi j=>.int (g i j)):=by
 intro pins s Y H x y v u Q I rx ry h
 obtain⟨i,j,rfl,rfl,hc,q⟩:=h
 obtain⟨t,rfl⟩:=rx
 obtain⟨t',rfl⟩:=ry
 exact rule i j t t' s _ _ hc ⟨.int (g i j),H,I.tok _,⟨_,rfl⟩,q⟩
theorem IY {g:Int->Int->Int} (rule:∀ (i j:Int) (t u:Tok) (s:Shared) (Q:NJ) (E:NJ),Q (.int (g i j) s.toks) {s with toks:=s.toks+1}->wpAny (!3) X.A (f (.int i t) (.int j u)) Q E s):
  OpR X f (rI0 λi j=>.int (g i j)):=by
 intro pins s Y H x y v u Q I rx ry h
 obtain⟨i,j,rfl,rfl,q⟩:=h
 obtain⟨t,rfl⟩:=rx
 obtain⟨t',rfl⟩:=ry
 exact rule i j t t' s _ _ ⟨.int (g i j),H,I.tok _,⟨_,rfl⟩,q⟩
theorem BM {g:Int->Int->Bool} (rule:∀ (i j:Int) (t u:Tok) (s:Shared) (Q:NJ) (E:NJ),Q (.bool (g i j)) s->wpAny (!3) X.A (f (.int i t) (.int j u)) Q E s):
  OpR X f (rI0 λi j=>.bl (g i j)):=by
 intro pins s Y H x y v u Q I rx ry h
 obtain⟨i,j,rfl,rfl,q⟩:=h
 obtain⟨t,rfl⟩:=rx
 obtain⟨t',rfl⟩:=ry
 exact rule i j t t' s _ _ ⟨.bl (g i j),H,I,rfl,q⟩
def LM (i j:Int):Prop:=0<=j/\j<=1000000/\i.natAbs<2^64
def CMul (i j:Int):Prop:=(-(2^64)<i/\i<2^64)\/(-(2^64)<j/\j<2^64)
theorem CMul.ok (h:CMul i j):IntMulOk i j:=by
 rcases h with⟨h1,h2⟩|⟨h1,h2⟩
 ·exact .of_left (intBits_le_64 h1 h2)
 ·exact .of_right (intBits_le_64 h1 h2)
theorem Ft:OpR X (binaryOp .Add) (rI0 λi j=>.int (i+j)):=IY λ_ _ _ _ _ _ _ q=>add_int q
theorem Fu:OpR X (binaryOp .Sub) (rI0 λi j=>.int (i-j)):=IY λ_ _ _ _ _ _ _ q=>sub_int q
theorem Fw:OpR X (binaryOp .Mult) (rI CMul λi j=>.int (i*j)):=opI λ_ _ _ _ _ _ _ hc q=>mul_int q hc.ok
theorem Fy:OpR X (binaryOp .Mod) (rI (λ_ j=>0<j) λi j=>.int (i%j)):=opI λi j _ _ _ _ _ hc q=>by
 exact mod_int' (!1) (by rw[Int.fmod_eq_emod_of_nonneg i (!1)];exact q)
theorem unI {g:Int->Int} (rule:∀ (i:Int) (t:Tok) (s:Shared) (Q:NJ) (E:NJ),Q (.int (g i) s.toks) {s with toks:=s.toks+1}->wpAny (!3) X.A (f (.int i t)) Q E s):
  UnR X f (rU λi=>.int (g i)):=by
 intro pins s Y H x v Q I rx h
 obtain⟨i,rfl,q⟩:=h
 obtain⟨t,rfl⟩:=rx
 exact rule i t s _ _ ⟨.int (g i),H,I.tok _,⟨_,rfl⟩,q⟩
theorem Fz:UnR X (unaryOp .USub) (rU λi=>.int (-i)):=unI λ_ _ _ _ _ q=>neg_int q
end
def xX:V->V->Bool
 |.non,.non=>true|.non,.int _=>true|.int _,.non=>true|.non,.bl _=>true|.bl _,.non=>true|.non,.str _=>true|.str _,.non=>true
 |.int _,.int _=>true|.bl _,.bl _=>true|.str _,.str _=>true|.byt _,.byt _=>true
 |.int _,.str _=>true|.str _,.int _=>true|.bl _,.str _=>true|.str _,.bl _=>true
 |_,_=>false
def rEq:R2:=λx y H Q=>xX x y=true/\Q (.bl (decide (x=y))) H
def rNe:R2:=λx y H Q=>xX x y=true/\Q (.bl (!decide (x=y))) H
theorem uM:decide (V.int i=V.int j)=(i==j):=by
 rw[Bool.eq_iff_iff];simp
theorem dec_bl:decide (V.bl i=V.bl j)=(i==j):=by
 rw[Bool.eq_iff_iff];simp
theorem uN:decide (V.str i=V.str j)=(i==j):=by
 rw[Bool.eq_iff_iff];simp
theorem uO:decide (V.byt i=V.byt j)=(i.toList==j.toList):=by
 rw[Bool.eq_iff_iff];cases i;cases j;simp
section
variable {X:Cx} {a b c:Expr} {ta tb tc:TE} {pos:Pos}
theorem fin_bl {Y:St} (I:Inv X pins Y H s) (q:Q (.bl k) H) (e:k=k'):EP X pins Y Q (.bool k') s:=by
 subst e;exact⟨.bl k,H,I,rfl,q⟩
theorem IZ:OpR X (compareOp .Eq) rEq:=by
 intro pins s Y H x y v u Q I rx ry h;obtain⟨hs,q⟩:=h;cases x with
 |non=>
  cases rx;cases y with
  |non=>cases ry;exact PySem.EqNone.eq_none_none (!9)
  |bl j=>cases ry;exact PySem.EqNone.eq_none_bool (!9)
  |int j=>obtain⟨t',rfl⟩:=ry;exact PySem.EqNone.eq_none_int (!9)
  |str j=>obtain⟨t',rfl⟩:=ry;exact PySem.EqNone.eq_none_str (!9)
  |_=>exact absurd (hs) N3
 |bl i=>
  cases rx;cases y with
  |non=>cases ry;exact PySem.EqNone.eq_bool_none (!9)
  |bl j=>cases ry;exact eq_bool (fin_bl I q dec_bl)
  |str j=>obtain⟨t',rfl⟩:=ry;exact PySem.EqMixed.eq_bool_str (!9)
  |_=>exact absurd (hs) N3
 |int i=>
  obtain⟨t,rfl⟩:=rx;cases y with
  |non=>cases ry;exact PySem.EqNone.eq_int_none (!9)
  |int j=>obtain⟨t',rfl⟩:=ry;exact eq_int (fin_bl I q uM)
  |str j=>obtain⟨t',rfl⟩:=ry;exact PySem.EqMixed.eq_int_str (!9)
  |_=>exact absurd (hs) N3
 |str i=>
  obtain⟨t,rfl⟩:=rx;cases y with
  |non=>cases ry;exact PySem.EqNone.eq_str_none (!9)
  |bl j=>cases ry;exact PySem.EqMixed.eq_str_bool (!9)
  |int j=>obtain⟨t',rfl⟩:=ry;exact PySem.EqMixed.eq_str_int (!9)
  |str j=>obtain⟨t',rfl⟩:=ry;exact eq_str (fin_bl I q uN)
  |_=>exact absurd (hs) N3
 |byt i=>
  obtain⟨t,rfl⟩:=rx;cases y with
  |byt j=>obtain⟨t',rfl⟩:=ry;exact PySem.W.eq_bytes (fin_bl I q uO)
  |_=>exact absurd (hs) N3
 |_=>cases y<;>exact absurd (show false=true from hs) N3
theorem I0:OpR X (compareOp .NotEq) rNe:=by
 intro pins s Y H x y v u Q I rx ry h;obtain⟨hs,q⟩:=h;cases x with
 |non=>
  cases rx;cases y with
  |non=>cases ry;exact PySem.EqNone.ne_none_none (!9)
  |bl j=>cases ry;exact PySem.EqNone.ne_none_bool (!9)
  |int j=>obtain⟨t',rfl⟩:=ry;exact PySem.EqNone.ne_none_int (!9)
  |str j=>obtain⟨t',rfl⟩:=ry;exact PySem.EqNone.ne_none_str (!9)
  |_=>exact absurd (hs) N3
 |bl i=>
  cases rx;cases y with
  |non=>cases ry;exact PySem.EqNone.ne_bool_none (!9)
  |bl j=>cases ry;exact ne_bool (fin_bl I q (congrArg not dec_bl))
  |str j=>obtain⟨t',rfl⟩:=ry;exact PySem.EqMixed.ne_bool_str (!9)
  |_=>exact absurd (hs) N3
 |int i=>
  obtain⟨t,rfl⟩:=rx;cases y with
  |non=>cases ry;exact PySem.EqNone.ne_int_none (!9)
  |int j=>obtain⟨t',rfl⟩:=ry;exact ne_int (fin_bl I q (congrArg not uM))
  |str j=>obtain⟨t',rfl⟩:=ry;exact PySem.EqMixed.ne_int_str (!9)
  |_=>exact absurd (hs) N3
 |str i=>
  obtain⟨t,rfl⟩:=rx;cases y with
  |non=>cases ry;exact PySem.EqNone.ne_str_none (!9)
  |bl j=>cases ry;exact PySem.EqMixed.ne_str_bool (!9)
  |int j=>obtain⟨t',rfl⟩:=ry;exact PySem.EqMixed.ne_str_int (!9)
  |str j=>obtain⟨t',rfl⟩:=ry;exact ne_str (fin_bl I q (congrArg not uN))
  |_=>exact absurd (hs) N3
 |byt i=>
  obtain⟨t,rfl⟩:=rx;cases y with
  |byt j=>obtain⟨t',rfl⟩:=ry;exact PySem.W.ne_bytes (fin_bl I q (congrArg not uO))
  |_=>exact absurd (hs) N3
 |_=>cases y<;>exact absurd (show false=true from hs) N3
theorem Em:OpR X (compareOp .Lt) (rI0 λi j=>.bl (decide (i<j))):=BM λ_ _ _ _ _ _ _ q=>lt_int q
theorem nI:OpR X (compareOp .LtE) (rI0 λi j=>.bl (decide (i<=j))):=BM λ_ _ _ _ _ _ _ q=>le_int q
theorem Eo:OpR X (compareOp .Gt) (rI0 λi j=>.bl (decide (j<i))):=BM λ_ _ _ _ _ _ _ q=>gt_int q
theorem Ep:OpR X (compareOp .GtE) (rI0 λi j=>.bl (decide (j<=i))):=BM λ_ _ _ _ _ _ _ q=>ge_int q
theorem op_isN:OpR X (compareOp .Is) (λx y H Q=>y=.non/\Q (.bl (decide (x=.non))) H):=by
 intro pins s Y H x y v u Q I rx ry h;obtain⟨rfl,q⟩:=h;cases ry;refine is_none_gen (fin_bl I q ?_);cases x<;>first
  |(cases rx;rfl)
  |(obtain⟨t,rfl⟩:=rx;rfl)
theorem op_notN:OpR X (compareOp .IsNot) (λx y H Q=>y=.non/\Q (.bl (!decide (x=.non))) H):=by
 intro pins s Y H x y v u Q I rx ry h;obtain⟨rfl,q⟩:=h;cases ry;refine isnot_none_gen (fin_bl I q ?_);cases x<;>first
  |(cases rx;rfl)
  |(obtain⟨t,rfl⟩:=rx;rfl)
theorem cO (b:Expr) (h:op≠.In:=by decide) (h2:op≠.NotIn:=by decide):behindInMarks op b=false:=by
 have e1:(op==CmpOp.In)=false:=by cases op<;>first|rfl|exact absurd rfl h
 have e2:(op==CmpOp.NotIn)=false:=by cases op<;>first|rfl|exact absurd rfl h2
 cases b<;>simp[behindInMarks,e1,e2]
theorem BN (ho:OpR X (compareOp op) r) (ha:PE X a ta) (hb:PE X b tb) (hm:behindInMarks op b=false):PE X (.Compare a [op] [b] pos) (tOp r ta tb):=by
 intro pins s Y H Q I h;exact wpAny_Compare1 (Fs ha hb I h λv u s2 x y H2 I2 rx ry q=>ho pins s2 Y H2 x y v u Q I2 rx ry q) hm
def Er (t:TE):TT:=λY H Q=>t Y H λx H'=>∃k,x=.bl k/\Q k H'
theorem BO (ho:OpR X (compareOp op) r) (ha:PE X a ta) (hb:PE X b tb) (hm:behindInMarks op b=false):PT X (.Compare a [op] [b] pos) (Er (tOp r ta tb)):=by
 intro pins s Y H Q I h;refine wpAny_isTrue_Compare1 (thn (ha pins s Y H _ I h) λv s1 ⟨x,H1,I1,r1,q1⟩=>thn (hb pins s1 Y H1 _ I1 q1) λu s2 ⟨y,H2,I2,r2,q2⟩=>
  thn (ho pins s2 Y H2 x y v u _ I2 r1 r2 q2) λc s3 ⟨z,H3,I3,r3,k,e,q3⟩=>?_) hm
 subst e;cases r3;exact wpAny_truthy_bool ⟨H3,I3,q3⟩
def sN (r r':R2) (ta tb tc:TE):TE:=λY H Q=>ta Y H λx H1=>tb Y H1 λy H2=>r x y H2 λz H3=>∃k,z=.bl k/\
 (if k=true then tc Y H3 λw' H4=>r' y w' H4 Q else Q (.bl false) H3)
theorem xY (ho:OpR X (compareOp op) r) (ho':OpR X (compareOp op') r') (ha:PE X a ta) (hb:PE X b tb) (hc:PE X c tc) (hm:lastMarks [op,op'] [b,c]=false:=by with_unfolding_all rfl):PE X (.Compare a [op,op'] [b,c] pos) (sN r r' ta tb tc):=by
 intro pins s Y H Q I h;refine Compare_chain (thn (ha pins s Y H _ I h) λv s1 ⟨x,H1,I1,r1,q1⟩=>chain_link (thn (hb pins s1 Y H1 _ I1 q1) λu s2 ⟨y,H2,I2,r2,q2⟩=>
  thn (ho pins s2 Y H2 x y v u _ I2 r1 r2 q2) λd s3 ⟨z,H3,I3,r3,k,e,q3⟩=>?_)) hm
 subst e;cases r3;refine wpAny_truthy_bool ?_;cases k with
 |false=>exact ite_ff ⟨.bl false,H3,I3,rfl,q3⟩
 |true=>exact ite_tt (chain_last (thn (hc pins s3 Y H3 _ I3 q3) λw' s4 ⟨z',H4,I4,r4,q4⟩=>ho' pins s4 Y H4 y z' u w' Q I4 r2 r4 q4))
theorem xZ (ho:OpR X (compareOp op) r) (ho':OpR X (compareOp op') r') (ha:PE X a ta) (hb:PE X b tb) (hc:PE X c tc) (hm:lastMarks [op,op'] [b,c]=false:=by with_unfolding_all rfl):PT X (.Compare a [op,op'] [b,c] pos) (Er (sN r r' ta tb tc)):=by
 intro pins s Y H Q I h;refine isTrue_chain (thn (ha pins s Y H _ I h) λv s1 ⟨x,H1,I1,r1,q1⟩=>test_link (thn (hb pins s1 Y H1 _ I1 q1) λu s2 ⟨y,H2,I2,r2,q2⟩=>
  thn (ho pins s2 Y H2 x y v u _ I2 r1 r2 q2) λd s3 ⟨z,H3,I3,r3,k,e,q3⟩=>?_)) hm
 subst e;cases r3;refine wpAny_truthy_bool ?_;cases k with
 |false=>
  obtain⟨k',e',q'⟩:=q3;cases e';exact ite_ff ⟨H3,I3,q'⟩
 |true=>
  refine ite_tt (test_last (thn (hc pins s3 Y H3 _ I3 q3) λw' s4 ⟨z',H4,I4,r4,q4⟩=>thn (ho' pins s4 Y H4 y z' u w' _ I4 r2 r4 q4) λd' s5 ⟨z2,H5,I5,r5,k2,e2,q5⟩=>?_));subst e2;cases r5;exact wpAny_truthy_bool ⟨H5,I5,q5⟩
def Ja (K:Frag) (x:V) (H:Hp) (k:Bool):Prop:=
 match x with
 |.non=>k=false
 |.bl b=>k=b
 |.int i=>k=(i !=0)
 |.str y=>y.length<=sizeLine/\k=((y.length:Int) !=0)
 |.byt y=>y.size<=sizeLine/\k=((y.size:Int) !=0)
 |.ref p=>(∃xs,SqL K H p xs/\k=!xs.isEmpty)\/(∃xs,SqT K H p xs/\k=!xs.isEmpty)\/∃kvs,H p=some (.dK kvs)/\k=!kvs.isEmpty
 |_=>False
theorem sO {vs:List (κ×Value)} (r:KV kvs vs):(!vs.isEmpty)=!kvs.isEmpty:=by
 cases r<;>rfl
theorem lc (r:Vals xs its):(!its.toArray.isEmpty)=!xs.isEmpty:=by
 cases r<;>simp
theorem gH:(sizeLine:Nat)<2^63:=by rw[sizeLine_eq];decide
theorem FA:LL X (λx H Q=>∃k,Ja X.K x H k/\Q k H):=by
 intro pins s Y H x v Q I rx h;obtain⟨k,e,q⟩:=h;have hs:=sizeLine_eq;cases x with
 |non=>
  cases rx;have e':=e;subst e';exact truthy_none ⟨H,I,q⟩
 |bl b=>
  cases rx;have e':=e;subst e';exact wpAny_truthy_bool ⟨H,I,q⟩
 |int i=>
  obtain⟨t,rfl⟩:=rx;have e':=e;subst e';exact PySem.P.truthy_int ⟨H,I,q⟩
 |str y=>
  obtain⟨t,rfl⟩:=rx;obtain⟨hy,e'⟩:y.length<=sizeLine/\k=((y.length:Int) !=0):=e;subst e';exact PySem.P.truthy_str (!1) ⟨H,I.tok _,q⟩
 |byt y=>
  obtain⟨t,rfl⟩:=rx;obtain⟨hy,e'⟩:y.size<=sizeLine/\k=((y.size:Int) !=0):=e;subst e';exact PySem.W.truthy_bytes (!1) ⟨H,I.tok _,q⟩
 |ref p=>
  cases rx;have e':(∃xs,SqL X.K H p xs/\k=!xs.isEmpty)\/(∃xs,SqT X.K H p xs/\k=!xs.isEmpty)\/∃kvs,H p=some (.dK kvs)/\k=!kvs.isEmpty:=e;rcases e' with⟨xs,hx,e'⟩|⟨xs,hx,e'⟩|⟨kvs,hx,e'⟩
  ·subst e';obtain⟨its,r,pl,hz⟩:=I.list hx;have hlen:=r.length;exact wpAny_truthy_list pl.isList (by simp only[size_toArray];omega) ⟨H,I.tok _,by rw[lc r];exact q⟩
  ·subst e';obtain⟨its,r,pl,hz⟩:=I.tuple hx;have hlen:=r.length;exact truthy_tuple pl (by simp only[size_toArray];omega) ⟨H,I.tok _,by rw[lc r];exact q⟩
  ·subst e';obtain⟨hz,hS,vs,r,m⟩:kvs.length<=sizeLine/\(p==sysModules)=false/\∃vs,KV kvs vs/\s.heap.DictOf (aP X.prog X.w) p vs:=I.hok p _ hx;have hlen:=Paired.length r;exact wpAny_truthy_dict hS m (!1) ⟨H,I.tok _,by rw[sO r];exact q⟩
 |_=>exact(e).elim
theorem x8 (ha:PE X a ta) (he:∀whole,isTrue a X.env whole=(do let v<-whole;standAt a.pos;holding [v] (truthy v))):
  PT X a (λY H Q=>ta Y H λx H'=>∃k,Ja X.K x H' k/\Q k H'):=by
 intro pins s Y H Q I h
 exact isTrue_plain (thn (ha pins s Y H _ I h) λv s1 ⟨x,H1,I1,r1,q1⟩=>FA pins s1 Y H1 x v Q I1 r1 q1) (he _)
theorem eW (r:Vals [x] us):∃u,us=[u]/\RelV x u:=by
 cases r with
 |cons r1 r2=>cases r2;exact⟨_,rfl,r1⟩
theorem uP (r:Vals [x,y] us):∃u w',us=[u,w']/\RelV x u/\RelV y w':=by
 cases r with
 |cons r1 r2=>
  cases r2 with
  |cons r3 r4=>cases r4;exact⟨_,_,rfl,r1,r3⟩
theorem call_max2 (hc:X.calm=true):dD X (.builtin "max") (λxs H Q=>∃i j,xs=[.int i,.int j]/\Q (.int (if j>i then j else i)) H):=by
 intro pins s Y H xs us Q I r h;obtain⟨i,j,rfl,q⟩:=h;obtain⟨u,w',rfl,⟨t,rfl⟩,⟨t',rfl⟩⟩:=uP r;refine max_two_ints (I.ok.hd hc) λh' tk k=>⟨_,H,I.kept k,?_,q⟩;by_cases hj:j>i
 ·rw[if_pos hj,if_pos hj];exact⟨_,rfl⟩
 ·rw[if_neg hj,if_neg hj];exact⟨_,rfl⟩
theorem call_min2 (hc:X.calm=true):dD X (.builtin "min") (λxs H Q=>∃i j,xs=[.int i,.int j]/\Q (.int (if j<i then j else i)) H):=by
 intro pins s Y H xs us Q I r h;obtain⟨i,j,rfl,q⟩:=h;obtain⟨u,w',rfl,⟨t,rfl⟩,⟨t',rfl⟩⟩:=uP r;refine min_two_ints (I.ok.hd hc) λh' tk k=>⟨_,H,I.kept k,?_,q⟩;by_cases hj:j<i
 ·rw[if_pos hj,if_pos hj];exact⟨_,rfl⟩
 ·rw[if_neg hj,if_neg hj];exact⟨_,rfl⟩
end
structure ObjM (h:Heap) (x dx C:Addr) (mA:Str->NM):Prop where
 obj:h.get? x=some (PySem.W.instObj C dx)
 ns:h.Ns1 dx mA
 ne:dx≠x
theorem wu {h:Heap} (n:h.Ns1 dx mA):∃od,h.get? dx=some od/\∀name,PySem.W.lookIn name od=some (mA name):=by
 obtain⟨o,es,ep,ho,hd,hk,_,hm⟩:=n;refine⟨o,ho,λname=>?_⟩;have e:=hm name;unfold nsFind findBy at e;rw[<-Array.find?_toList]at e;unfold PySem.W.lookIn;rw[hd];dsimp only;split
 ·rename_i y q;rw[q]at e;exact congrArg some e
 ·rename_i q;rw[q]at e;have a:es.toList.any (·.refKey)=false:=by
   rw[List.any_eq_false];intro y hy;obtain⟨z,t,hkey⟩:=hk y (Array.mem_toList_iff.mp hy);simp[DictEntry.refKey,hkey]
  have a':¬es.toList.any (·.refKey)=true:=by rw[a];exact N3
  rw[if_neg a'];exact congrArg some e
theorem ObjM.look (I:ObjM h x dx C mA):∃od,PySem.W.InstAt h x (PySem.W.instObj C dx) C (some od)/\∀name,PySem.W.lookIn name od=some (mA name):=
 let⟨od,ho,hl⟩:=wu I.ns
 ⟨od,⟨I.obj,rfl,rfl,ho⟩,hl⟩
section
variable {prog:Program} {w:World} {A:Around} {E:NJ} {s:Shared} {K:Frag} {x dx C f:Addr} {mA:Str->NM} {name:Str} {v:Value}
theorem BP (X:K.In s.heap) (I:ObjM s.heap x dx C mA) (hg:PySem.W.plainGet K C name=true) (hh:PySem.W.hasDictIn K C=true) (ha:findIn K (.ref C) name=some none) (hv:mA name=some v) (hv':PySem.W.handedIn v=true) (h:Q v {s with toks:=s.toks+1}):
  wpAny (!2) A (getAttr (.ref x) name expr) Q E s:=by
 obtain⟨od,J,hl⟩:=I.look
 exact PySem.W.get_value X J (PySem.W.plainGet_of hg).1 (PySem.W.findObj_own hh ha rfl (by rw[hl,hv])) hv' h
theorem x9 (X:K.In s.heap) (I:ObjM s.heap x dx C mA) (hg:PySem.W.plainGet K C name=true) (hf:findIn K (.ref C) name=some (some (.ref f))) (ht:PySem.W.isFn K (.ref f)=true) (hv:mA name=none) (h:Q (.ref f,[.ref x]) s):
  wpAny (!2) A (getMethod (.ref x) name pl) Q E s:=by
 obtain⟨od,J,hl⟩:=I.look
 exact PySem.W.method_fn X J (PySem.W.plainGet_of hg).1 (PySem.W.plainGet_of hg).2 hf (beq_iff_eq.mp ht) (by show(PySem.W.lookIn name od).map (·.isSome)=some false;rw[hl,hv];rfl) h
theorem BQ (X:K.In s.heap) (I:ObjM s.heap x dx C mA) (hs:findIn K (.ref C) "__setattr__"=some (some (.builtin "object.__setattr__"))) (hp:PySem.W.plainOver K C=true) (ht:PySem.W.takerIn K C name=some none) (hh:PySem.W.hasDictIn K C=true) (hw:PySem.Within mA ns) (hsz:ns.length<=sizeLine) (h:∀h',ObjM h' x dx C (λy=>if y=name then some v else mA y)->Heap.SameBut dx s.heap h'->Q () {s with heap:=h',toks:=s.toks+2}):
  wpAny (!2) A (setAttr (.ref x) name v) Q E s:=by
 obtain⟨od,J,hl⟩:=I.look
 refine PySem.W.set_plain X J hs (PySem.W.osa_open X J hp ht λb=>?_)
 obtain⟨cd,hc,hd'⟩:=PySem.W.any_some hh
 have hx:=I.obj
 refine NW (NY (NW (NW (wpAny_loadPart hx (NW (PySem.W.Looks.here (PySem.W.looks_clsIn X hc) ?_))))))
 rw[hd']
 refine NY (NW (NY (NW ?_)))
 refine wpAny_nsSet1 I.ns λh' hn2 hs2=>?_
 obtain⟨oD,esD,epD,hoD,hdD,hcD⟩:=hn2.count (PySem.Within.cons name v hw)
 refine NW (wpAny_lookBehind hoD (by rw[hdD];exact pastItsLine_dict (Oa hcD (by rw[length_cons];omega))) ?_)
 exact NY (h _ ⟨(hs2.2 _ (Ne.symm I.ne)).trans I.obj,hn2,I.ne⟩ hs2)
theorem yc (X:K.In s.heap) (hm:PySem.W.makesIn K C=true) (hi:findIn K (.ref C) "__init__"=some (some (.ref f))) (hf:PySem.W.typeIn K (.ref f)=some (.type "function")) (h:codeAny (!2) (A.under (.builtin "type.__call__" ⟨.ref C::vs,kw⟩)) (.call (.ref f) ⟨.ref (!16)::vs,kw⟩) (PySem.W.InitBack (!16) R)
   {s with heap:=(s.heap.push PySem.W.emptyDict).push (PySem.W.instObj C s.heap.objs.size)}):
  codeAny (!2) A (.call (.ref C) ⟨vs,kw⟩) R s:=by
 exact PySem.W.make_core (PySem.W.makes_of X hm) (PySem.W.looks_findIn X hi) (λself=>PySem.W.bind_fn X self hf) (.inl rfl) h
end
def eF (f:Str) (v:V):List (Str×V)->List (Str×V)
 |[]=>[(f,v)]
 |(g,x)::r=>if g=f then(g,v)::r else(g,x)::eF f v r
theorem jI (f g:Str) (v:V):∀fs:List (Str×V),(eF f v fs).lookup g=if g=f then some v else fs.lookup g
 |[]=>by
  show List.lookup g [(f,v)]=_;by_cases h:g=f
  ·have hb:(g==f)=true:=beq_iff_eq.mpr h;simp only[List.lookup,hb,if_pos h]
  ·have hb:(g==f)=false:=beq_eq_false_iff_ne.mpr h;simp only[List.lookup,hb,if_neg h]
 |(k,x)::r=>by
  have ih:=jI f g v r;rw[show eF f v ((k,x)::r)=(if k=f then(k,v)::r else(k,x)::eF f v r)from rfl];by_cases hk:k=f
  ·rw[if_pos hk];by_cases h:g=k
   ·have hb:(g==k)=true:=beq_iff_eq.mpr h;simp only[List.lookup,hb,if_pos (h.trans hk)]
   ·have hb:(g==k)=false:=beq_eq_false_iff_ne.mpr h;simp only[List.lookup,hb,if_neg (λe:g=f=>h (e.trans hk.symm))]
  ·rw[if_neg hk];by_cases h:g=k
   ·have hb:(g==k)=true:=beq_iff_eq.mpr h;simp only[List.lookup,hb,if_neg (λe:g=f=>hk (h.symm.trans e))]
   ·have hb:(g==k)=false:=beq_eq_false_iff_ne.mpr h;simp only[List.lookup,hb];exact ih
theorem iY (f:Str) (v:V):∀fs:List (Str×V),f∈(eF f v fs).map (·.1)/\∀g,g∈fs.map (·.1)->g∈(eF f v fs).map (·.1)
 |[]=>⟨by simp[eF],λg h=>by simp at h⟩
 |(k,x)::r=>by
  obtain⟨i1,i2⟩:=iY f v r;rw[show eF f v ((k,x)::r)=(if k=f then(k,v)::r else(k,x)::eF f v r)from rfl];by_cases hk:k=f
  ·rw[if_pos hk];subst hk;exact⟨by simp,λg h=>by simpa using h⟩
  ·rw[if_neg hk];refine⟨?_,λg h=>?_⟩
   ·rw[List.map_cons];exact N6 _ i1
   ·rw[List.map_cons]at h⊢;rcases mem_cons.mp h with e|e
    ·exact mem_cons.mpr (.inl e)
    ·exact N6 _ (i2 g e)
theorem jJ (f:Str) (v:V):∀fs:List (Str×V),(eF f v fs).length<=fs.length+1
 |[]=>by simp[eF]
 |(k,x)::r=>by
  have ih:=jJ f v r;rw[show eF f v ((k,x)::r)=(if k=f then(k,v)::r else(k,x)::eF f v r)from rfl];by_cases hk:k=f
  ·rw[if_pos hk,length_cons,length_cons];omega
  ·rw[if_neg hk,length_cons,length_cons];omega
theorem RelO.some_of (r:RelO (some v) o):∃u,o=some u/\RelV v u:=by
 cases o with
 |none=>exact(r).elim
 |some u=>exact⟨u,rfl,r⟩
theorem RelO.none_of (r:RelO none o):o=none:=by grind [RelO]
theorem wv (r:RelV v u):PySem.W.handedIn u=true:=by
 cases v with
 |non=>cases(r);rfl
 |bl b=>cases(r);rfl
 |int i=>obtain⟨t,e⟩:=(r);cases e;rfl
 |str x=>obtain⟨t,e⟩:=(r);cases e;rfl
 |byt b=>obtain⟨t,e⟩:=(r);cases e;rfl
 |flt b=>obtain⟨t,e⟩:=(r);cases e;rfl
 |ref a=>cases(r);rfl
 |ty n=>cases(r);rfl
section
variable {P:Program} {w:World} {H H':Hp} {h h':Heap} {a C dx:Addr} {fs fs':List (Str×V)}
theorem oI (hok:HOk P w H h) (e:H a=some (.ins C dx fs)):∃mA,ObjM h a dx C mA/\(∀f,RelO (fs.lookup f) (mA f))/\PySem.Within mA (fs.map (·.1))/\fs.length<=1000/\H dx=some (.own a):=by
 obtain⟨d,z,ne,ob,mA,n,r,q⟩:=(hok a _ e);exact⟨mA,⟨ob,n,ne⟩,r,q,z,d⟩
end
structure Cls (K:Frag) (C:Addr):Prop where
 pg:PySem.W.plainGet K C Str.empty=true
 hd:PySem.W.hasDictIn K C=true
 po:PySem.W.plainOver K C=true
 sa:findIn K (.ref C) "__setattr__"=some (some (.builtin "object.__setattr__"))
theorem Cls.get {K} (c:Cls K C) (f:Str):PySem.W.plainGet K C f=true:=c.pg
def NoAttr (K:Frag) (C:Addr) (f:Str):Prop:=findIn K (.ref C) f=some none
theorem NoAttr.taker {K} (n:NoAttr K C f):PySem.W.takerIn K C f=some none:=by
 unfold PySem.W.takerIn;grind [NoAttr]
structure Con (K:Frag) (C:Addr) (f:Str) (v:V) (u:Value):Prop where
 at_:findIn K (.ref C) f=some (some u)
 rel:RelV v u
 get:PySem.W.specialIn K u "__get__"=some none
 cp:PySem.W.copiedNames.contains f=false
structure Meth (K:Frag) (C:Addr) (m:Str) (f:Addr):Prop where
 at_:findIn K (.ref C) m=some (some (.ref f))
 fn:PySem.W.isFn K (.ref f)=true
 kp:PySem.W.keepIn K (.ref f)=true
section
variable {X:Cx} {pins:NG} {Y:St} {H:Hp} {s:Shared} {a C dx:Addr} {fs:List (Str×V)} {f:Str} {v:V} {A:Around} {E:NJ}
theorem sP (I:Inv X pins Y H s) (e:H a=some (.ins C dx fs)) (c:Cls X.K C) (n:NoAttr X.K C f) (l:fs.lookup f=some v) (h:∀u s',Inv X pins Y H s'->RelV v u->Q u s'):wpAny (!3) A (getAttr (.ref a) f b) Q E s:=by
 obtain⟨mA,O,r,_,_,_⟩:=oI I.hok e;obtain⟨u,hu,ru⟩:=RelO.some_of (by rw[<-l];exact r f);exact BP I.kIn O (c.get f) c.hd n hu (wv ru) (h u _ (I.tok _) ru)
theorem sR (I:Inv X pins Y H s) (e:H a=some (.ins C dx fs)) (c:Cls X.K C) (k:Meth X.K C m g) (l:fs.lookup m=none) (h:Q (.ref g,[.ref a]) s):wpAny (!3) A (getMethod (.ref a) m pl) Q E s:=by
 obtain⟨mA,O,r,_,_,_⟩:=oI I.hok e;have hn:=RelO.none_of (by rw[<-l];exact r m);exact x9 I.kIn O (c.get m) k.at_ k.fn hn h
theorem sS (I:Inv X pins Y H s) (e:H a=some (.ins C dx fs)) (c:Cls X.K C) (n:NoAttr X.K C f) (hl:fs.length<1000) (ry:RelV y u) (h:∀s',Inv X pins Y (upd H a (.ins C dx (eF f y fs))) s'->Q () s'):wpAny (!3) A (setAttr (.ref a) f u) Q E s:=by
 obtain⟨mA,O,r,wi,_,ho⟩:=oI I.hok e;have hz:(fs.map (·.1)).length<=sizeLine:=by rw[length_map,sizeLine_eq];omega
 refine BQ I.kIn O c.sa c.po n.taker c.hd wi hz λh' O' sb=>h _ ?_;have hd:∃o,h'.get? dx=some o:=let⟨o,_,_,e',_⟩:=O'.ns;⟨o,e'⟩;refine I.write (by rw[e];exact True.intro) (.inr ho) (λb q hb z=>(sb.2 b hb).trans z) hd ?_;refine⟨by rw[ag O.ne];exact ho,?_,O.ne,O'.obj,_,O'.ns,λg=>?_,λg hg=>?_⟩
 ·have:=jJ f y fs;omega
 ·show RelO ((eF f y fs).lookup g) (if g=f then some u else mA g);rw[jI];by_cases q:g=f
  ·rw[if_pos q,if_pos q];exact ry
  ·rw[if_neg q,if_neg q];exact r g
 ·by_cases q:g=f
  ·rw[q];exact(iY f y fs).1
  ·refine(iY f y fs).2 g (wi g λz=>hg ?_);show(if g=f then some u else mA g)=none;rw[if_neg q];exact z
theorem Inv.made (I:Inv X pins Y H s):Inv X pins Y (upd (upd H s.heap.objs.size (.own (!16))) (!16) (.ins C s.heap.objs.size []))
  {s with heap:=(s.heap.push PySem.W.emptyDict).push (PySem.W.instObj C s.heap.objs.size)}:=by
 have e1:(s.heap.push PySem.W.emptyDict).get? s.heap.objs.size=some PySem.W.emptyDict:=N2 s.heap rfl
 have e2:((s.heap.push PySem.W.emptyDict).push (PySem.W.instObj C s.heap.objs.size)).get? (!16)=some (PySem.W.instObj C s.heap.objs.size):=by
  have:=N2 (s.heap.push PySem.W.emptyDict) (o:=PySem.W.instObj C s.heap.objs.size) rfl;rwa [Heap.size_push]at this
 have e3:(s.heap.push PySem.W.emptyDict).Ns s.heap.objs.size (λ_=>none):=⟨PySem.W.emptyDict,#[],_,e1,rfl,(λe he=>absurd he (by simp)),λ_=>rfl⟩
 have I1:=I.laid (o:=.own (!16)) (t':=s.toks) (λb u q=>NX _ q) (Om _) ⟨_,e1⟩
 refine I1.laid (λb u q=>NX _ q) (Nat.le_of_eq (Heap.size_push _ _)) ?_
 have ne:s.heap.objs.size≠s.heap.objs.size+1:=Ob (Nat.lt_succ_self _)
 refine⟨by rw[ag ne,ai],Nat.zero_le _,ne,e2,λ_=>none,(Heap.Ns1.of_empty e3).at λo q=>NX _ q,λ_=>True.intro,λy hy=>absurd rfl hy⟩
theorem BR (hb:attributeBase e f env (eval e env)=eval e env) (h:wpAny (!2) A (eval e env) (λo s₁=>wpAny (!2) A (getAttr o f true) Q E s₁) E s):wpAny (!2) A (eval (.Attribute e f pos) env) Q E s:=
 Attribute_any_ h (by rw[arm_eval_Attribute,hb])
end
def LN (K:Frag) (ta:TE) (f:Str):TE:=λY H Q=>ta Y H λx H1=>∃a C dx fs v,x=.ref a/\H1 a=some (.ins C dx fs)/\Cls K C/\NoAttr K C f/\fs.lookup f=some v/\Q v H1
def LO (K:Frag) (ta tv:TE) (f:Str):TS:=λD Y H=>tv Y H λy H1=>ta Y H1 λx H2=>∃a C dx fs,x=.ref a/\H2 a=some (.ins C dx fs)/\Cls K C/\NoAttr K C f/\fs.length<1000/\
 D.nx Y (upd H2 a (.ins C dx (eF f y fs)))
section
variable {X:Cx} {o e value:Expr} {f:Str} {pos pos' tpos:Pos} {ta tv:TE}
theorem FC (he:PE X e ta) (hb:attributeBase e f X.env (eval e X.env)=eval e X.env):PE X (.Attribute e f pos) (LN X.K ta f):=by
 intro pins s Y H Q I h;refine BR hb (thn (he pins s Y H _ I h) λu s1 ⟨x,H1,I1,rx,a,C,dx,fs,v,ex,ea,c,n,l,q⟩=>?_);subst ex;obtain rfl:u=Value.ref a:=rx;exact sP I1 ea c n l λu' s2 I2 ru=>⟨v,H1,I2,ru,q⟩
theorem FD (ha:PE X o ta) (hv:PE X value tv) (hs:swapsWith value (some (.Attribute o f pos')) pos.line X.env=pure false):PS X (.Assign [.Attribute o f pos'] value pos) (LO X.K ta tv f):=by
 intro pins s Y H D I h;refine plainObj_wpAny_Assign_Attribute (thn (hv pins s Y H _ I h) λu s1 ⟨y,H1,I1,ry,q⟩=>thn (ha pins s1 Y H1 _ I1 q) λov s2 ⟨x,H2,I2,rx,a,C,dx,fs,ex,ea,c,n,l,q2⟩=>?_) hs;subst ex;obtain rfl:ov=Value.ref a:=rx;exact sS I2 ea c n l ry λs3 I3=>⟨Y,_,I3,q2⟩
end
section
variable {X:Cx} {pins:NG} {Y:St} {H:Hp} {s:Shared} {A:Around} {E:NJ} {Q:NJ} {c:Value} {b:Bool}
inductive TyOf (K:Frag) (H:Hp):V->Value->Prop where
 |non:TyOf K H .non (.type "NoneType")
 |bl (x:Bool):TyOf K H (.bl x) (.type "bool")
 |int (i:Int):TyOf K H (.int i) (.type "int")
 |str (x:Str):TyOf K H (.str x) (.type "str")
 |flt (x:UInt64):TyOf K H (.flt x) (.type "float")
 |lst {a:Addr} {xs:List V} (e:H a=some (.lst xs)):TyOf K H (.ref a) (.type "list")
 |frz {a:Addr} {o:Obj} {xs:List V} (e:H a=some (.frz o (.lst xs))):TyOf K H (.ref a) (.type "list")
 |tup {a:Addr} {xs:List V} (e:H a=some (.tup xs)):TyOf K H (.ref a) (.type "tuple")
 |dK {a:Addr} {kvs:List (Key×V)} (e:H a=some (.dK kvs)):TyOf K H (.ref a) (.type "dict")
 |dT {a:Addr} {kvs:List (List Key×V)} (e:H a=some (.dT kvs)):TyOf K H (.ref a) (.type "dict")
 |ins {a C dx:Addr} {fs:List (Str×V)} (e:H a=some (.ins C dx fs)) (cl:Cls K C) (ha:findIn K (.ref C) "__class__"=some (some (.builtin "object.__class__")))
  (hn:PySem.W.specialIn K (.builtin "object.__class__") "__get__"=some (some (.builtin "getset_descriptor.__get__"))) (htk:PySem.W.takesIn K (.builtin "object.__class__")=some true)
  (hm:PySem.W.mroIn K C (.type "object")=some true):TyOf K H (.ref a) (.ref C)
end
structure Room (k:Nat) (A:Around):Prop where
 hd:A.handled=none
 dp:A.depth+3*k+5<recursionLimit
 un:A.units+16*k+200<cLine
theorem Room.mono (r:Room k A) (h:j<=k):Room j A:=⟨r.hd,by have:=r.dp;omega,by have:=r.un;omega⟩
theorem Room.deeper (r:Room (k+1) A) (env:Env):Room k (A.deeper env):=
 ⟨r.hd,by have:=r.dp;show A.depth+1+3*k+5<_;omega,by have:=r.un;show A.units+3+16*k+200<_;omega⟩
theorem sT {A:Around}:(A.under (.builtin "type.__call__" ⟨.ref C::us,kw⟩)).depth=A.depth+1:=by constructor<;>grind
theorem sU {A:Around}:(A.under (.builtin "type.__call__" ⟨.ref C::us,kw⟩)).units=A.units+1:=by constructor<;>grind
theorem Room.make (r:Room (k+1) A) (C:Addr) (us:NK) (kw:List (Str×Value)):Room k (A.under (.builtin "type.__call__" ⟨.ref C::us,kw⟩)):=
 ⟨r.hd,by have:=r.dp;rw[sT];omega,by have:=r.un;rw[sU];omega⟩
theorem Room.depth (r:Room k A):A.depth<recursionLimit:=by have:=r.dp;omega
def Jb:TA:=λ_ H Q=>Q [] H
def Jc (ta:TE) (tr:TA):TA:=λY H Q=>ta Y H λx H1=>tr Y H1 λxs H2=>Q (x::xs) H2
section
variable {X:Cx} {e:Expr} {es:NT} {te:TE} {t:TA} {pos:Pos}
theorem pa_nil:PA X [] Jb:=λ_ _ _ _ H Q I h=>Calls.spliced_nil ⟨[],H,I,.nil,h⟩
theorem dE (ha:PE X e te) (hr:PA X es t) (hs:starEach (e::es) X.env=(false,eval e X.env)::starEach es X.env:=by rfl):PA X (e::es) (Jc te t):=by
 intro pos pins s Y H Q I h;rw[hs];show wpAny _ _ (spliced ((false,eval e X.env)::backTo pos (starEach es X.env))) _ _ s;refine Calls.spliced_cons (thn (ha pins s Y H _ I h) λu s1 ⟨x,H1,I1,r1,q1⟩=>?_);exact thn (hr pos pins s1 Y H1 _ I1 q1) λus s2 ⟨xs,H2,I2,r2,q2⟩=>⟨x::xs,H2,I2,.cons r1 r2,q2⟩
def LP (t:TA):TE:=λY H Q=>t Y H λxs H1=>xs.length<=sizeLine/\∀p,H1 p=none->Q (.ref p) (upd H1 p (.tup xs))
def LQ (t:TA):TE:=λY H Q=>t Y H λxs H1=>xs.length<=sizeLine/\∀p,H1 p=none->Q (.ref p) (upd H1 p (.lst xs))
theorem yd {x1} (h:PA X es t):PE X (.Tuple es x1 pos) (LP t):=by
 intro pins s Y H Q I hq;refine wpAny_Tuple_spliced (thn (h pos pins s Y H _ I hq) λus s1 ⟨xs,H1,I1,r,z,q⟩=>⟨by rw[<-r.length];exact z,?_⟩);have hf:=I1.hok.fresh (Om _);refine⟨.ref s1.heap.objs.size,upd H1 s1.heap.objs.size _,I1.laid (λb u e=>NX _ e) (Om _) ?_,rfl,q _ hf⟩;exact⟨z,us,r,⟨_,N2 _ rfl,rfl,_,rfl⟩⟩
theorem ye (h:PA X es t):PE X (.List es pos) (LQ t):=by
 intro pins s Y H Q I hq;refine wpAny_List_spliced (thn (h pos pins s Y H _ I hq) λus s1 ⟨xs,H1,I1,r,z,q⟩=>⟨by rw[<-r.length];exact z,?_⟩);have hf:=I1.hok.fresh (Om _);refine⟨.ref s1.heap.objs.size,upd H1 s1.heap.objs.size _,I1.laid (λb u e=>NX _ e) (Om _) ?_,rfl,q _ hf⟩;exact⟨z,us,0,r,N2 _ rfl⟩
end
abbrev Sp:=List V->Hp->VK->XK->Prop
abbrev CXT:=List Env->Hp->Shared->XK->NJ
structure Env0 (P:Program) (w:World) (K:Frag) (mg:Str->NM) (base:Heap) (A:Around) (outer:List Env) (s:Shared) (H:Hp):Prop where
 frames:A.frames=some outer
 mod:Mod K mg base
 bs:∀b o,base.get? b=some o->s.heap.get? b=some o/\H b=none
 bsz:base.objs.size<=s.heap.objs.size
 funs:s.heap.FunFrames base outer
 frf:∀b∈frs outer,H b=none
 hok:HOk P w H s.heap
 bare:AllBare s.gens
def CE (outer:List Env) (P:Program) (w:World) (H:Hp) (s:Shared) (Q:VK) (u:Value) (s':Shared):Prop:=
 ∃v H',s'.os=s.os/\AllBare s'.gens/\Un (frs outer) [] H H' s.heap s'.heap/\HOk P w H' s'.heap/\RelV v u/\Q v H'
def CR (CX:CXT) (outer:List Env) (P:Program) (w:World) (H:Hp) (s:Shared) (Q:VK) (E:XK) (r:Result) (s':Shared):Prop:=
 match r with
 |.ok (.ret u)=>CE outer P w H s Q u s'
 |.ok _=>False
 |.error e=>CX outer H s E e s'
structure FnOk (P:Program) (w:World) (K:Frag) (mg:Str->NM) (base:Heap) (CX:CXT) (k:Nat) (f:Addr) (fd:FuncData) (ps:NP) (sp:Sp):Prop where
 len:∀vs H Q E,sp vs H Q E->vs.length=ps.length
 run:∀ (A:Around) (outer:List Env) (s:Shared) (H:Hp) (args:Args) (us:NK) (vs:List V) (Q:VK) (E:XK),Room k A->Env0 P w K mg base A outer s H->BindsTo s fd args (ps.zip us)->Vals vs us->sp vs H Q E->
  codeAny (model P w) A (.call (.ref f) args) (CR CX outer P w H s Q E) s
theorem FnOk.imp {K} (F:FnOk P w K mg base CX k f fd ps sp) (h:∀vs H Q E,sp' vs H Q E->sp vs H Q E):FnOk P w K mg base CX k f fd ps sp':=
 ⟨λvs H Q E q=>F.len vs H Q E (h _ _ _ _ q),λA outer s H args us vs Q E hr he hb hv hs=>F.run A outer s H args us vs Q E hr he hb hv (h _ _ _ _ hs)⟩
theorem Env0.make {K} (e:Env0 P w K mg base A outer s H) (C:Addr) (us:NK) (kw:List (Str×Value)):
 Env0 P w K mg base (A.under (.builtin "type.__call__" ⟨.ref C::us,kw⟩)) outer s H:=⟨by first|exact e.frames|(simpa [Around.under,Code.envs,Code.isFrame,pushEnvs] using e.frames),e.mod,e.bs,e.bsz,e.funs,e.frf,e.hok,e.bare⟩
section
variable {X:Cx} {pins:NG} {Y:St} {H:Hp} {s s':Shared}
theorem Inv.env0 (I:Inv X pins Y H s):Env0 X.prog X.w X.K X.mg X.base X.A X.stack s H:=
 ⟨I.ok.frames,I.ok.mod,I.bs,Oa I.ok.bsz I.sz,I.stack,I.stkFree,I.hok,I.bare⟩
theorem Inv.after (I:Inv X pins Y H s) (h:CE X.stack X.prog X.w H s Q u s'):EP X pins Y Q u s':=by
 obtain⟨v,H',os,bare,un,hok,r,q⟩:=h;obtain⟨hh,g,d,t,os'⟩:=s';obtain rfl:os'=s.os:=os;exact⟨v,H',I.call un hok bare (λb z=>absurd z (by simp)),r,q⟩
end
def Jd (sp:Sp) (dvs:List V) (E:XK) (t:TA):TE:=λY H Q=>t Y H λvs H1=>sp (vs++dvs) H1 Q E
def Je (C:Addr) (m:Str) (sp:Sp) (dvs:List V) (E:XK) (ta:TE) (t:TA):TE:=λY H Q=>ta Y H λx H1=>∃a dx fs,x=.ref a/\H1 a=some (.ins C dx fs)/\fs.lookup m=none/\
 t Y H1 λvs H2=>sp (x::(vs++dvs)) H2 Q E
def Jf (C:Addr) (sp:Sp) (dvs:List V) (E:XK) (t:TA):TE:=λY H Q=>t Y H λvs H1=>∀x dx,H1 x=none->H1 dx=none->dx≠x->
 sp (.ref x::(vs++dvs)) (upd (upd H1 dx (.own x)) x (.ins C dx [])) (λv H2=>v=.non/\Q (.ref x) H2) E
def Binds (K:Frag) (fd:FuncData) (ps:NP) (ds:NK):Prop:=
 ∀ (s:Shared) (us:NK),K.In s.heap->(us++ds).length=ps.length->BindsTo s fd ⟨us,[]⟩ (ps.zip (us++ds))
theorem Binds.all {K} (h:∀us:NK,us.length=ps.length->bindArgs fd ⟨us,[]⟩=pure (ps.zip us)):Binds K fd ps []:=λs us _ hl=>by
 rw[List.append_nil]at hl⊢;exact .of_eq (h us hl)
def iZ (CX:CXT) (X:Cx) (E:XK):Prop:=∀ (pins:NG) (Y:St) (H:Hp) (s:Shared) (e:Value) (s':Shared),Inv X pins Y H s->CX X.stack H s E e s'->X.xe e s'
section
variable {X:Cx} {CX:CXT} {k:Nat} {f C:Addr} {fd:FuncData} {ps:NP} {sp:Sp} {dvs:List V} {ds:NK} {E:XK} {x m:Str} {p pos apos:Pos} {e o:Expr} {es:NT} {ta:TE} {t:TA}
theorem yf {Y:St} (F:FnOk X.prog X.w X.K X.mg X.base CX k f fd ps sp) (hr:Room k X.A) (hb:Binds X.K fd ps ds) (hd:Vals dvs ds) (hx:iZ CX X E) (I:Inv X pins Y H s) (r:Vals vs us) (h:sp (vs++dvs) H Q E):wpAny (!3) X.A (call (.ref f) us) (EP X pins Y Q) X.xe s:=by
 have r2:=r.append hd;have hl:(us++ds).length=ps.length:=by rw[<-r2.length];exact F.len _ _ _ _ h
 refine wpAny_call (codeAny_mono (F.run X.A X.stack s H ⟨us,[]⟩ _ _ Q E hr I.env0 (hb s us I.kIn hl) r2 h) λr s' hq=>?_);cases r with
 |error e=>exact hx pins Y H s e s' I hq
 |ok fl=>
  cases fl with
  |ret u=>exact I.after hq
  |next=>exact False.elim hq
  |brk=>exact False.elim hq
  |cont=>exact False.elim hq
theorem uQ (F:FnOk X.prog X.w X.K X.mg X.base CX k f fd ps sp) (hr:Room k X.A) (hg:Gl X x) (hm:X.mg x=some (.ref f)) (hk:PySem.W.keepIn X.K (.ref f)=true) (hb:Binds X.K fd ps ds) (hd:Vals dvs ds) (hx:iZ CX X E)
  (ha:PA X (e::es) t) (hdb:(!7)=false:=by decide) (he:starEach (e::es) X.env=(false,eval e X.env)::starEach es X.env:=by rfl) (hpl:(!14).any (·.1)=false:=by rfl):
  PE X (.Call (.Name x p) (e::es) [] pos) (Jd sp dvs E t):=by
 intro pins s Y H Q I h
 refine wpAny_Call_Name_kw (oH I hg hm ?_ hdb)
 refine PySem.W.callWith_K I.ok.mod.kin hk (thn (ha pos pins s Y H _ I h) λus s1 ⟨vs,H1,I1,r,q⟩=>⟨I1.kIn,?_⟩) he hpl
 exact yf F hr hb hd hx I1 r q
theorem yg (he : PE X o ta) (c : Cls X.K C) (hm : Meth X.K C m f) (F : FnOk X.prog X.w X.K X.mg X.base CX k f fd ps sp) (hr : Room k X.A) (hb : Binds X.K fd ps ds) (hd : Vals dvs ds) (hx : iZ CX X E) (ht : eval (.Call (.Attribute o m apos) [] [] pos) X.env = (do
   let ov <- eval o X.env
   standAt apos.atName
   let (f,first) <- holding [ov] (getMethod ov m pl)
   callWith pos f first (backTo pos (starEach [] X.env)) (backToKw pos (keywordEach [] X.env))):=by rfl) :
  PE X (.Call (.Attribute o m apos) [] [] pos) (Je C m sp dvs E ta Jb):=by
 intro pins s Y H Q I h
 refine PySem.W.methodCall_KW (thn (he pins s Y H _ I h) fun u s1 ⟨x,H1,I1,rx,a,dx,fs,ex,ea,l,q⟩=>?_) ht
 subst ex
 obtain rfl:u = Value.ref a:=rx
 refine sR I1 ea c hm l ?_
 exact PySem.W.callWith_K0 I1.kIn hm.kp (yf (vs:=[.ref a]) F hr hb hd hx I1 (.cons rfl .nil) q)
structure Mk (K:Frag) (C f:Addr):Prop where
 makes:PySem.W.makesIn K C=true
 init:findIn K (.ref C) "__init__"=some (some (.ref f))
 fn:PySem.W.isFn K (.ref f)=true
 kp:PySem.W.keepIn K (.ref C)=true
theorem yh {Y:St} (M:Mk X.K C f) (F:FnOk X.prog X.w X.K X.mg X.base CX k f fd ps sp) (hr:Room (k+1) X.A) (hb:Binds X.K fd ps ds) (hd:Vals dvs ds) (hx:iZ CX X E) (I:Inv X pins Y H s) (r:Vals vs us) (h:∀x dx,H x=none->H dx=none->dx≠x->sp (.ref x::(vs++dvs)) (upd (upd H dx (.own x)) x (.ins C dx [])) (λv H2=>v=.non/\Q (.ref x) H2) E):
  wpAny (!3) X.A (call (.ref C) us) (EP X pins Y Q) X.xe s:=by
 have hq:=h _ s.heap.objs.size (I.hok.fresh (Nat.le_succ _)) (I.hok.fresh (Om _)) (Ob (Nat.lt_succ_self _))
 have I2:=Inv.made (C:=C) I
 have r2:Vals (V.ref (!16)::(vs++dvs)) (Value.ref (!16)::(us++ds)):=.cons rfl (r.append hd)
 have hl:(Value.ref (!16)::us++ds).length=ps.length:=by
  have e:=r2.length;rw[F.len _ _ _ _ hq]at e;exact e.symm
 refine wpAny_call (yc I.kIn M.makes M.init (beq_iff_eq.mp M.fn) (codeAny_mono (F.run _ X.stack _ _ ⟨Value.ref _::us,[]⟩ (Value.ref _::(us++ds)) _ _ E (hr.make C us [])
  (I2.env0.make C us []) (hb _ (Value.ref _::us) I2.kIn hl) r2 hq) λr s' hq'=>?_))
 cases r with
 |error e=>exact hx pins Y _ _ e s' I2 hq'
 |ok fl=>
  cases fl with
  |ret u=>
   obtain⟨v,H',I3,rv,ev,q3⟩:=I2.after hq';subst ev;exact⟨rv,⟨V.ref _,H',I3,rfl,q3⟩⟩
  |next=>exact False.elim hq'
  |brk=>exact False.elim hq'
  |cont=>exact False.elim hq'
theorem BS (M:Mk X.K C f) (F:FnOk X.prog X.w X.K X.mg X.base CX k f fd ps sp) (hr:Room (k+1) X.A) (hg:Gl X x) (hm:X.mg x=some (.ref C)) (hb:Binds X.K fd ps ds) (hd:Vals dvs ds) (hx:iZ CX X E)
  (ha:PA X (e::es) t) (hdb:(!7)=false:=by decide) (he:starEach (e::es) X.env=(false,eval e X.env)::starEach es X.env:=by rfl) (hpl:(!14).any (·.1)=false:=by rfl):
  PE X (.Call (.Name x p) (e::es) [] pos) (Jf C sp dvs E t):=by
 intro pins s Y H Q I h
 refine wpAny_Call_Name_kw (oH I hg hm ?_ hdb)
 refine PySem.W.callWith_K I.ok.mod.kin M.kp (thn (ha pos pins s Y H _ I h) λus s1 ⟨vs,H1,I1,r,q⟩=>⟨I1.kIn,?_⟩) he hpl
 exact yh M F hr hb hd hx I1 r q
end
section
variable {X:Cx} {CX:CXT} {k:Nat} {f C:Addr} {fd:FuncData} {ps ks:NP} {sp:Sp} {E:XK} {x m:Str} {p pos apos kpos:Pos} {e o:Expr} {es:NT} {kws:List Keyword} {te ta:TE} {t tk:TA} {nm:Option Str}
structure KBinds (K:Frag) (fd:FuncData) (ps ks:NP) (g:NK->NK->NK) (gV:List V->List V->List V):Prop where
 to:∀ (s:Shared) (us ws:NK),K.In s.heap->(g us ws).length=ps.length->BindsTo s fd ⟨us,ks.zip ws⟩ (ps.zip (g us ws))
 rel:∀ {vs:List V} {us:NK} {zs:List V} {ws:NK},Vals vs us->Vals zs ws->Vals (gV vs zs) (g us ws)
variable {g:NK->NK->NK} {gV:List V->List V->List V}
end
structure FnScope (N P:NP) (sc:Scope):Prop where
 kind:sc.kind=.function
 co:sc.isCoroutine=false
 gen:sc.isGenerator=false
 nd:N.Nodup
 pre:N.take P.length=P
 par:∀x∈P,sc.names.lookup x=some .local\/sc.names.lookup x=some .cell
 nofree:∀y∈sc.names,y.2≠.free
theorem nJ {kindOf}:∀ {binds:List (Str×Value)} {m:Str->NM},(∀v,(x,v) ∉ binds)->bindL kindOf binds m x=m x
 |[],_,_=>rfl
 |(n,v)::r,m,h=>by
  unfold bindL;rw[nJ λw hw=>h w (mem_cons_of_mem _ hw)];split
  ·have:x≠n:=by rintro rfl;exact h v N5
   simp[this]
  ·rfl
theorem nK {kindOf}:∀ {binds:List (Str×Value)} {m:Str->NM},(∀v,(x,v) ∉ binds)->bindC kindOf binds m x=m x
 |[],_,_=>rfl
 |(n,v)::r,m,h=>by
  unfold bindC;rw[nK λw hw=>h w (mem_cons_of_mem _ hw)];split
  ·rfl
  ·have:x≠n:=by rintro rfl;exact h v N5
   simp[this]
theorem nL {kindOf}:∀ {P:NP} {vs:NK} {i:Nat} {m:Str->NM},P.Nodup->P[i]?=some x->vs[i]?=some v->kindOf x=some .local->
  bindL kindOf (P.zip vs) m x=some v
 |[],_,_,_,_,h,_,_=>by simp at h
 |_::_,[],_,_,_,_,h,_=>by simp at h
 |p::P,w::vs,0,m,nd,h1,h2,hk=>by
  simp at h1 h2;subst h1;subst h2;show bindL kindOf ((p,w)::P.zip vs) m p=_;unfold bindL;rw[nJ λv hv=>(List.nodup_cons.mp nd).1 (List.of_mem_zip hv).1,if_pos hk];simp
 |p::P,w::vs,i+1,m,nd,h1,h2,hk=>by
  show bindL kindOf ((p,w)::P.zip vs) m x=_;unfold bindL;exact nL (i:=i) (List.nodup_cons.mp nd).2 (by simpa using h1) (by simpa using h2) hk
theorem nM {kindOf}:∀ {P:NP} {vs:NK} {i:Nat} {m:Str->NM},P.Nodup->P[i]?=some x->vs[i]?=some v->kindOf x≠some .local->
  bindC kindOf (P.zip vs) m x=some v
 |[],_,_,_,_,h,_,_=>by simp at h
 |_::_,[],_,_,_,_,h,_=>by simp at h
 |p::P,w::vs,0,m,nd,h1,h2,hk=>by
  simp at h1 h2;subst h1;subst h2;show bindC kindOf ((p,w)::P.zip vs) m p=_;unfold bindC;rw[nK λv hv=>(List.nodup_cons.mp nd).1 (List.of_mem_zip hv).1,if_neg hk];simp
 |p::P,w::vs,i+1,m,nd,h1,h2,hk=>by
  show bindC kindOf ((p,w)::P.zip vs) m x=_;unfold bindC;exact nM (i:=i) (List.nodup_cons.mp nd).2 (by simpa using h1) (by simpa using h2) hk
def gr (N:NP) (vs:List V):St:=vs.map some++List.replicate (N.length-vs.length) none
def oJ (CX:CXT) (P:Program) (w:World) (K:Frag) (mg:Str->NM) (base:Heap) (N:NP) (qual:Str) (scope:Scope) (f:Addr) (cd:Value) (A:Around) (outer:List Env) (s:Shared) (H:Hp) (E:XK):Cx where
 prog:=P
 w:=w
 K:=K
 mg:=mg
 base:=base
 A:=A.deeper (envOfC qual scope s.heap.objs.size f cd)
 N:=N
 s₀:=s
 H₀:=H
 env:=envOfC qual scope s.heap.objs.size f cd
 outer:=outer
 stack:=envOfC qual scope s.heap.objs.size f cd::outer
 ex:=[]
 calm:=true
 fn:=λ_=>true
 pn:=[]
 xe:=λe s'=>wpAny (model P w) (A.deeper (envOfC qual scope s.heap.objs.size f cd)) (leaving (envOfC qual scope s.heap.objs.size f cd) e) (λ_ s''=>CX outer H s E e s'') (λe' s''=>CX outer H s E e' s'') s'
theorem qG {sc:Scope} (h:sc.names.lookup x=some .cell):∃c,(cellsFrom n sc.names []).lookup x=some c:=by
 have q:=PySem.W.cellsFrom_some sc.names n [] (.inl h);exact Option.isSome_iff_exists.mp q
theorem wx {K} {cd} (S:FnScope N ps scope) (hd:A.handled=none) (e0:Env0 P w K mg base A outer s H) (hl:vs.length=ps.length) (r:Vals vs us) (x:InCallC s s.heap.objs.size (bindL (envOfC qual scope s.heap.objs.size f cd).kindOf (ps.zip us) λ_=>none) (cellsFrom (!16) scope.names []) (bindC (envOfC qual scope s.heap.objs.size f cd).kindOf (ps.zip us) λ_=>none) s1):
  Inv (oJ CX P w K mg base N qual scope f cd A outer s H E) [] (gr N vs) H s1:=by
 have hpl:ps.length<=N.length:=by have:=congrArg List.length S.pre;rw[List.length_take]at this;omega
 obtain⟨h1,tk,rfl,hk⟩:=x.done
 have noA:∀b:Addr,b ∉ (oJ CX P w K mg base N qual scope f cd A outer s H E).ex:=λb z=>absurd (show b∈([]:List Addr)from z) (by simp)
 refine⟨⟨e0.mod,S.kind,rfl,rfl,Om _,λy z c h1 h2=>?_,λy hy=>?_,λy c _ h=>?_,λ_=>hd,Around.frames_deeper e0.frames,.inr ⟨rfl,rfl⟩,λb z=>absurd z (noA b),e0.bs,e0.bsz,λb _ _=>noA b,λb z=>absurd z (noA b),e0.funs,e0.frf⟩,
  rfl,e0.bare,Un.kept hk,⟨_,x.toInCall.ns,λi y v h1 h2 h3=>?_⟩,λy c h=>⟨_,x.cell y c h⟩,e0.hok.fresh (Om _),λy c h=>?_,λp hp=>absurd (show p∈([]:NG)from hp) (by simp),e0.hok.kept hk,?_⟩
 ·exact name_of_addr x.apart (PySem.mem_of_lookup h1) (PySem.mem_of_lookup h2)
 ·have hy:scope.names.lookup y=some .cell\/scope.names.lookup y=some .free:=hy;rcases hy with hy|hy
  ·exact qG hy
  ·exact absurd rfl (S.nofree _ (PySem.mem_of_lookup hy))
 ·exact Oi (x.above y c (PySem.mem_of_lookup h))
 ·have hi:i<vs.length:=by
   unfold gr at h2;by_cases hi:i<vs.length
   ·exact hi
   ·rw[getElem?_append_right (by simpa using hi)]at h2;rw[List.getElem?_replicate]at h2;split at h2<;>cases h2
  have ha:vs[i]?=some v:=by
   unfold gr at h2;rw[getElem?_append_left (by simpa using hi),getElem?_map]at h2;cases e:vs[i]? with
   |none=>rw[e]at h2;cases h2
   |some a=>rw[e]at h2;cases h2;rfl
  obtain⟨u,hu,rv⟩:=r.get ha;have hp:ps[i]?=some y:=by
   rw[<-S.pre,List.getElem?_take_of_lt (!1)];exact h1
  have ndP:ps.Nodup:=by rw[<-S.pre];exact S.nd.sublist (List.take_sublist _ _)
  refine⟨u,rv,?_⟩;rcases S.par y (Ol hp)with k|k
  ·exact .inl ⟨k,nL ndP hp hu k⟩
  ·obtain⟨c,e⟩:=qG k;refine .inr ⟨.inl k,c,e,?_⟩;have q:=x.cell y c e;rw[nM ndP hp hu (by show scope.names.lookup y≠_;rw[k];decide)]at q;exact q
 ·exact e0.hok.fresh (Oi (x.above y c (PySem.mem_of_lookup h)))
 ·unfold gr;show _=N.length;rw[length_append,length_map,List.length_replicate];omega
theorem Jg {K} {dV kV doc pm cdv ct oc} (lk:K.lookup f=some ⟨oc,od,.func (PySem.W.fnOf name qual params body scope dV kV doc pm an cdv ct),osl⟩) (hcd:PySem.W.codeIn K cdv qual=true) (S:FnScope N ps scope) (len:∀vs H Q E,sp vs H Q E->vs.length=ps.length) (hbody:∀ (A:Around) (outer:List Env) (s:Shared) (H:Hp) (vs:List V) (Q:VK) (E:XK),Room k (A.deeper (envOfC qual scope s.heap.objs.size f cdv))->sp vs H Q E->
   ∃t,PSs (oJ CX P w K mg base N qual scope f cdv A outer s H E) body t/\t {nx:=λ_ H'=>Q .non H',rt:=Q} (gr N vs) H):
  FnOk P w K mg base CX (k+1) f (PySem.W.fnOf name qual params body scope dV kV doc pm an cdv ct) ps sp:=by
 refine⟨len,λA outer s H args us vs Q E hr e0 hb r hsp=>?_⟩
 have hl:=len _ _ _ _ hsp
 have KX:=e0.mod.kin.keeps λb o e=>(e0.bs b o e).1
 have lim:=e0.mod.nolimit.keeps λb o e=>(e0.bs b o e).1
 have hkind:∀y∈ps.zip us,scope.names.lookup y.1=some .local\/(scope.names.lookup y.1=some .cell/\((cellsFrom (!16) scope.names []).lookup y.1).isSome=true):=λ⟨n,v⟩ hy=>by
  rcases S.par n (List.of_mem_zip hy).1 with q|q
  ·exact .inl q
  ·exact .inr ⟨q,PySem.W.cellsFrom_some _ _ _ (.inl q)⟩
 refine codeAny_call_function hr.depth (KX _ _ lk) rfl S.co S.gen rfl (PySem.W.codeRec_of KX hcd) (hb _ _ _ _ ?_)
 refine wpAny_newFunctionEnv_cells S.kind hkind λenv he s1 x=>?_
 subst he
 refine⟨lim.keeps x.toInCall.keep,codeAny_func ?_⟩
 obtain⟨t,ht,hq⟩:=hbody A outer s H vs Q E (hr.deeper _) hsp
 have I:Inv (oJ CX P w K mg base N qual scope f cdv A outer s H E) [] (gr N vs) H s1:=wx S hr.hd e0 hl r x
 refine On (ht [] s1 _ H _ I hq) (λfl s' hs=>?_) λe s' hs=>hs
 have fin:∀ {Y':St} {H':Hp} {v:V} {u:Value},Inv (oJ CX P w K mg base N qual scope f cdv A outer s H E) [] Y' H' s'->RelV v u->Q v H'->CE outer P w H s Q u s':=
  λ{Y' H' v u} J rv q=>⟨v,H',J.os,J.bare,J.base,J.hok,rv,q⟩
 cases fl with
 |ret u=>
  obtain⟨v,Y',H',J,rv,q⟩:=hs;exact fin J rv q
 |next=>
  obtain⟨Y',H',J,q⟩:=hs;exact fin (v:=V.non) J rfl q
 |brk=>
  obtain⟨_,_,_,q⟩:=hs;exact False.elim q
 |cont=>
  obtain⟨_,_,_,q⟩:=hs;exact False.elim q
section
variable {X:Cx} {x:Str} {p pos:Pos} {e:Expr} {es:NT} {t:TA} {id T:String} {r:List V->Hp->VK->Prop}
def tCB (r:List V->Hp->VK->Prop) (t:TA):TE:=λY H Q=>t Y H λvs H1=>r vs H1 Q
theorem lg (hc:dD X (.builtin id) r) (hg:Gl X x) (hm:X.mg x=none) (hv:bootBuiltins x=some (.builtin id)) (ha:PA X (e::es) t) (hn:x≠"__name__":=by decide) (hdb:(!7)=false:=by decide)
  (he:starEach (e::es) X.env=(false,eval e X.env)::starEach es X.env:=by rfl) (hpl:(!14).any (·.1)=false:=by rfl):PE X (.Call (.Name x p) (e::es) [] pos) (tCB r t):=by
 intro pins s Y H Q I h
 refine wpAny_Call_Name_kw (ce I hg hm hv ?_ hn hdb)
 exact PyProof.Rows.callWith_builtin1 (thn (ha pos pins s Y H _ I h) λus s1 ⟨vs,H1,I1,r1,q1⟩=>hc pins s1 Y H1 vs us Q I1 r1 q1) he hpl
theorem nN (hc:dD X (.type T) r) (hg:Gl X x) (hm:X.mg x=none) (hv:bootBuiltins x=some (.type T)) (ha:PA X (e::es) t) (hn:x≠"__name__":=by decide) (hdb:(!7)=false:=by decide)
  (he:starEach (e::es) X.env=(false,eval e X.env)::starEach es X.env:=by rfl) (hpl:(!14).any (·.1)=false:=by rfl):PE X (.Call (.Name x p) (e::es) [] pos) (tCB r t):=by
 intro pins s Y H Q I h
 refine wpAny_Call_Name_kw (ce I hg hm hv ?_ hn hdb)
 exact PyProof.Rows.callWith_type1 (thn (ha pos pins s Y H _ I h) λus s1 ⟨vs,H1,I1,r1,q1⟩=>hc pins s1 Y H1 vs us Q I1 r1 q1) he hpl
end
end L2
namespace HT
open PySem PyProof.Rows
def lexLt:NQ->NQ->Bool
 |[],[]=>false
 |[],_::_=>true
 |_::_,[]=>false
 |x::xs,y::ys=>if x=y then lexLt xs ys else decide (x<y)
theorem lexLt_cons (x y:Int) (xs ys:NQ):lexLt (x::xs) (y::ys)=if x=y then lexLt xs ys else decide (x<y):=rfl
theorem mU:lexLt [] []=false:=rfl
theorem lh (y:Int) (ys:NQ):lexLt [] (y::ys)=true:=rfl
theorem lj (x:Int) (xs:NQ):lexLt (x::xs) []=false:=rfl
theorem yi (A:Around) (s:Shared) (a:Int) (t:Tok) (c:Int) (u:Tok):∃e,SeqAt.EqAt A s (.int a t) (.int c u) e/\(e=true↔a=c):=
 ⟨(a==c),SeqAt.EqAt.int_int a t c u,by simp⟩
theorem yj (A:Around) (s:Shared) (a:Int) (t:Tok) (c:Int) (u:Tok) (prog:Program) (w:World) (E:NJ) (Q:NJ) (h:Q (.bool (decide (a<c))) s):
  wpAny (!2) A (richCompare .Lt (.int a t) (.int c u)) Q E s:=
 (PyProof.Rows.lt_int h:wpAny _ A (compareOp .Lt _ _) Q E s)
section
open PySem.SeqAt
open PySem.AutoSeq1 (wpAny_loadPart')
open PySem.MeetsSeq PySem.MeetsSeq2 PySem.MeetsSeq3
theorem mV (l b:Addr) (items items2:Array Value) (n n2:Nat) (dd dd2:Option Addr) (sl sl2:Array (NM)) (ns ms:NQ) (hi:IntsAre items.toList ns) (hj:IntsAre items2.toList ms):
  Meets (Builtin.«tuple.__lt__» ⟨[.ref l,.ref b],[]⟩)
   (λ_ R s=>s.heap.get? l=some {cls:=.type "tuple",dict:=dd,data:=.seq items n,slots:=sl}/\s.heap.get? b=some {cls:=.type "tuple",dict:=dd2,data:=.seq items2 n2,slots:=sl2}/\
    R (.ok (.ret (.bool (lexLt ns ms)))) s):=
 .of_wp λprog w A R s h=>by
  obtain⟨hp,g,d,tk,os⟩:=s;obtain⟨hl,hb,h⟩:=h;have f2:=AutoSeq1.sub_tuple_tuple;have z1:items.size=ns.length:=by rw[<-hi.length];simp
  have z2:items2.size=ms.length:=by rw[<-hj.length];simp
  wp_walk using wpAny_loadPart' hl,wpAny_loadPart' hb,wpAny_forIn_list _ (λrest b s'=>b.1=none/\s'=⟨hp,g,d,tk,os⟩/\∃ (vs ws:NK) (ns' ms':NQ),rest=vs.zip ws/\
   IntsAre vs ns'/\IntsAre ws ms'/\ns'.length+items2.size=ms'.length+items.size/\R (.ok (.ret (.bool (lexLt ns' ms')))) ⟨hp,g,d,tk,os⟩) _
  case turn=>
   rintro⟨y,x⟩ rest b s' ⟨hb',rfl,vs,ws,ns',ms',hz,hvi,hwi,hlen,hR⟩;cases hvi with
   |nil=>rw[List.zip_nil_left]at hz;cases hz
   |cons a t hvi'=>
    cases hwi with
    |nil=>rw[List.zip_nil_right]at hz;cases hz
    |cons c u hwi'=>
     rw[List.zip_cons_cons]at hz;injection hz with hyx hrest;injection hyx with hy hx;subst hy hx;rw[lexLt_cons]at hR;simp only[length_cons]at hlen;obtain⟨e,he,hiff⟩:=yi A.in1 ⟨hp,g,d,tk,os⟩ a t c u;refine NW (he prog w _ _ ?_);cases e with
     |true=>
      rw[if_pos (hiff.mp rfl)]at hR;wp_walk;exact⟨rfl,rfl,_,_,_,_,hrest,hvi',hwi',by omega,hR⟩
     |false=>
      rw[if_neg (λq=>absurd (hiff.mpr q) Bool.false_ne_true)]at hR;have hri:=yj A.in1 ⟨hp,g,d,tk,os⟩ a t c u prog w;wp_walk using hri;exact⟨_,rfl,by simpa using hR⟩
  case fin=>
   rintro⟨b1,b2⟩ s' ⟨hb',rfl,vs,ws,ns',ms',hz,hvi,hwi,hlen,hR⟩;simp only at hb';subst hb';have hv:lexLt ns' ms'=decide (items.size<items2.size):=by
    cases hvi with
    |nil=>
     cases hwi with
     |nil=>
      simp only[List.length_nil]at hlen;rw[mU];exact(decide_eq_false (!1)).symm
     |cons c u hw=>
      simp only[List.length_nil,length_cons]at hlen;rw[lh];exact(decide_eq_true (!1)).symm
    |cons a t hv=>
     cases hwi with
     |nil=>
      simp only[List.length_nil,length_cons]at hlen;rw[lj];exact(decide_eq_false (!1)).symm
     |cons c u hw=>
      rw[List.zip_cons_cons]at hz;cases hz
   rw[hv]at hR;wp_walk;exact⟨_,rfl,by simpa [Builtin.Tuple.tupleCompareSizes] using hR⟩
  case h=>
   exact⟨rfl,rfl,items.toList,items2.toList,ns,ms,rfl,hi,hj,by omega,h⟩
end
section
variable {prog:Program} {w:World} {A:Around} {E:NJ} {s:Shared}
theorem lt_tupInts (hl:IsTup s.heap l items) (hb:IsTup s.heap b items2) (hi:IntsAre items.toList ns) (hj:IntsAre items2.toList ms) (hu:A.units<cLine) (h:Q (.bool (lexLt ns ms)) s):wpAny (!2) A (compareOp .Lt (.ref l) (.ref b)) Q E s:=by
 obtain⟨⟨cls,dd,data,sl⟩,ho,hc,n,hd⟩:=id hl;obtain⟨⟨cls2,dd2,data2,sl2⟩,ho2,hc2,n2,hd2⟩:=id hb;subst hc hd hc2 hd2;exact richCompare_meets_room (op:=.Lt) ⟨_,ho,rfl⟩ ⟨_,ho2,rfl⟩ PySem.F.slot_tuple_lt PySem.F.entry_tuple_lt (PySem.F.args_tuple_lt_2 _ _) (mV l b items items2 n n2 dd dd2 sl sl2 ns ms hi hj)
  ⟨ho,ho2,show Value.bool (lexLt ns ms)≠Value.notImplemented/\Q (.bool (lexLt ns ms)) s from⟨(λx=>nomatch x),h⟩⟩ hu
def sIx (n d:Nat):NV->Nat
 |none=>d
 |some v=>if v<0 then(v+(n:Int)).toNat else min v.toNat n
theorem sIx_none (n d:Nat):sIx n d none=d:=rfl
theorem sIx_nat (n d k:Nat):sIx n d (some (k:Int))=min k n:=by grind [sIx]
theorem uR (v:Int) (n d:Nat):(if v<0 then max (v+(n:Int)) 0 else min v (n:Int))=((sIx n d (some v):Nat):Int):=by grind [sIx]
theorem sV (lo hi:NV) (n:Nat):Builtin.Slice.sliceAdjust lo hi 1 (n:Int)=(((sIx n 0 lo:Nat):Int),((sIx n n hi:Nat):Int)):=by
 refine Prod.ext ?_ ?_
 ·cases lo with
  |none=>rfl
  |some v=>exact uR v n 0
 ·cases hi with
  |none=>rfl
  |some v=>exact uR v n n
theorem sX (i j:Nat):Builtin.Slice.slicePlaces (i:Int) (j:Int) 1=j-i:=by
 unfold Builtin.Slice.slicePlaces;split<;>omega
theorem lm (p:IsPart v o) (h:Q o s):wpAny (!2) A (Builtin.Slice.slicePartIndex v) Q E s:=by
 cases p with
 |none=>exact slicePart_none h
 |int i t=>exact slicePart_int h
theorem sliceApplied_gen {lo hi} {Q:Int×Int×Nat->Shared->Prop} (hs:s.heap.IsSliceOf sl vl vu .none) (pl:IsPart vl lo) (pu:IsPart vu hi) (h:Q (((sIx n 0 lo:Nat):Int),1,sIx n n hi-sIx n 0 lo) s):wpAny (!2) A (Builtin.Slice.sliceApplied (.ref sl) (pure (n:Int))) Q E s:=by
 obtain⟨os,hos,hcs,hds⟩:=id hs;refine NW (NW (wpAny_field hos hds rfl (NW (wpAny_field hos hds rfl (NW (wpAny_field hos hds rfl (NY ?_)))))));refine NW (slicePart_none ?_);refine NW (lm pl (NW (lm pu (NW (NY ?_)))));show wpAny _ _ (match Builtin.Slice.sliceAdjust lo hi 1 (n:Int)with|(lo,hi)=>pure (lo,(1:Int),Builtin.Slice.slicePlaces lo hi 1)) _ _ s;rw[sV];show wpAny _ _ (pure (((sIx n 0 lo:Nat):Int),(1:Int),Builtin.Slice.slicePlaces ((sIx n 0 lo:Nat):Int) ((sIx n n hi:Nat):Int) 1)) _ _ s;rw[sX];exact NY h
theorem yk (xs:Array Value) (i k:Nat):((List.range k).filterMap λ(m:Nat)=>xs[((i:Int)+(m:Int)*1).toNat]?).toArray=((xs.toList.drop i).take k).toArray:=by
 have e:(λ(m:Nat)=>xs[((i:Int)+(m:Int)*1).toNat]?)=λm=>xs[i+m]?:=by
  funext m;have:((i:Int)+(m:Int)*1).toNat=i+m:=by omega
  rw[this]
 rw[e];have:=pick_run xs i k;rw[List.filterMap_map]at this;have e2:((λx=>xs[x]?)∘λx=>i+x)=λm=>xs[i+m]?:=rfl;grind
theorem getItem_tuple_cut {lo hi} (ht:IsTup s.heap t items) (hs:s.heap.IsSliceOf sl vl vu .none) (pl:IsPart vl lo) (pu:IsPart vu hi) (hw:¬ (sIx items.size 0 lo=0/\sIx items.size items.size hi=items.size)) (h:Q (!32) {s with heap:=s.heap.push {cls:=.type "tuple",data:=.seq ((items.toList.drop (sIx items.size 0 lo)).take (sIx items.size items.size hi-sIx items.size 0 lo)).toArray}}) (hsz:items.size<=sizeLine):wpAny (!2) A (getItem (.ref t) (.ref sl)) Q E s:=by
 have htake:sizeOk (.seq ((items.toList.drop (sIx items.size 0 lo)).take (sIx items.size items.size hi-sIx items.size 0 lo)).toArray):=by
  show((items.toList.drop (sIx items.size 0 lo)).take (sIx items.size items.size hi-sIx items.size 0 lo)).toArray.size<=sizeLine;rw[size_toArray,List.length_take,List.length_drop,Array.length_toList];omega
 obtain⟨os,hos,hcs,hds⟩:=id hs;have hTs:s.TypeIs (.ref sl) "slice":=⟨os,hos,hcs⟩;unfold getItem;try with_reducible refine wpAny_holding ?_
 first|refine NW (NY ?_)|skip
 refine NW (wpAny_sequenceKey ht.typeIs (!4) ?_);refine NW (wpAny_callSpecial?_slot ht.typeIs PyProof.Rows.slot_tuple_getitem
  (wpAny_call_entry PyProof.Rows.slot_tuple_getitem ht.typeIs entry_tuple_getitem ?_ (args_tuple_getitem _ _)))
 show wpAny _ _ (Builtin.Tuple.tupleItemsOf (.ref t)>>=_) _ _ s;refine NW (tupleItemsOf_ ht ?_);refine NW (wpAny_typeOf hTs ?_);refine NW (sliceApplied_gen hs pl pu ?_);have hno:¬ ((((sIx items.size 0 lo:Nat):Int)==0&&(1:Int)==1&&(sIx items.size items.size hi-sIx items.size 0 lo)==items.size)=true):=by
  intro q;rw[and_eq_true,and_eq_true]at q;have q1:=eq_of_beq q.1.1;have q2:=eq_of_beq q.2;exact hw ⟨by omega,by omega⟩
 show wpAny _ _ (if(((sIx items.size 0 lo:Nat):Int)==0&&(1:Int)==1&&(sIx items.size items.size hi-sIx items.size 0 lo)==items.size)=true then _ else _) _ _ s;rw[if_neg hno,yk];first
  |exact NW (wpAny_newObj_type (NY ⟨_,rfl,NY h⟩) htake)
  |exact NW (wpAny_newObj_type (NW (NY _)) htake)
  |exact NW (NW (wpAny_newObj_type (NY _) htake))
  |exact NW (NW (wpAny_newObj_type _ htake))
end
end HT
namespace L2
open PySem PySem.Spec PyProof.Rows
abbrev TO:=St->Hp->(NV->Hp->Prop)->Prop
def PO (X:Cx) (e:Option Expr) (t:TO):Prop:=
 ∀ (pins:NG) (s:Shared) (Y:St) (H:Hp) (Q:NV->Hp->Prop),Inv X pins Y H s->t Y H Q->
  wpAny (!3) X.A (evalPart e X.env) (λu s'=>∃o H',Inv X pins Y H' s'/\IsPart u o/\Q o H') X.xe s
def BU:TO:=λ_ H Q=>Q none H
def Jh (t:TE):TO:=λY H Q=>t Y H λx H1=>∃i,x=.int i/\Q (some i) H1
section
variable {X:Cx} {e:Expr} {te:TE} {lo hi:Option Expr} {tl th:TO} {pos p2:Pos}
theorem po_none:PO X none BU:=by
 intro pins s Y H Q I h;exact NY ⟨none,H,I,.none,h⟩
theorem BV (h:PE X e te):PO X (some e) (Jh te):=by
 intro pins s Y H Q I hw;refine thn (h pins s Y H _ I hw) λu s1 ⟨x,H1,I1,r1,q1⟩=>?_;obtain⟨i,rfl,q⟩:=q1;obtain⟨t,rfl⟩:=r1;exact⟨some i,H1,I1,.int i t,q⟩
def SlR (X:Cx) (r:V->NV->NV->Hp->VK->Prop):Prop:=
 ∀ (pins:NG) (s:Shared) (Y:St) (H:Hp) (x:V) (v vl vu:Value) (lo hi:NV) (sl:Addr) (Q:VK),Inv X pins Y H s->RelV x v->s.heap.IsSliceOf sl vl vu .none->IsPart vl lo->IsPart vu hi->r x lo hi H Q->
  ∃T id,typeLookup (.type T) "__getitem__"=pure (some (.builtin id))/\s.TypeIs v T/\wpAny (!3) X.A (getItem v (.ref sl)) (EP X pins Y Q) X.xe s
theorem SlR.or (h:SlR X r) (h':SlR X r'):SlR X (λx lo hi H Q=>r x lo hi H Q\/r' x lo hi H Q):=by
 intro pins s Y H x v vl vu lo hi sl Q I rx hs pl pu q;rcases q with q|q
 ·exact h pins s Y H x v vl vu lo hi sl Q I rx hs pl pu q
 ·exact h' pins s Y H x v vl vu lo hi sl Q I rx hs pl pu q
def tSl (r:V->NV->NV->Hp->VK->Prop) (te:TE) (tl th:TO):TE:=λY H Q=>te Y H λx H1=>tl Y H1 λl H2=>th Y H2 λu H3=>r x l u H3 Q
theorem qH (hr:SlR X r) (he:PE X e te) (hl:PO X lo tl) (hu:PO X hi th):PE X (.Subscript e (.Slice lo hi none p2) pos) (tSl r te tl th):=by
 intro pins s Y H Q I h;refine Subscript_ (thn (he pins s Y H _ I h) λv s1 ⟨x,H1,I1,r1,q1⟩=>?_);refine wpAny_Slice (thn (hl pins s1 Y H1 _ I1 q1) λvl s2 ⟨l,H2,I2,pl,q2⟩=>thn (hu pins s2 Y H2 _ I2 q2) λvu s3 ⟨u,H3,I3,pu,q3⟩=>?_);refine NY ?_;have I4:Inv X pins Y H3 {s3 with heap:=s3.heap.push {cls:=.type "slice",data:=.fields #[vl,vu,.none]}}:=I3.kept λb ob q=>NX _ q;obtain⟨T,id,hT,ht,hg⟩:=hr pins {s3 with heap:=s3.heap.push {cls:=.type "slice",data:=.fields #[vl,vu,.none]}} Y H3 x v vl vu l u s3.heap.objs.size Q I4 r1 (Heap.IsSliceOf.new ..) pl pu q3;exact tail_any ht hT hg (by with_unfolding_all rfl)
def wy (xs:List V) (lo hi:NV):List V:=(xs.drop (HT.sIx xs.length 0 lo)).take (HT.sIx xs.length xs.length hi-HT.sIx xs.length 0 lo)
theorem jK (xs:List V) (lo hi:NV):(wy xs lo hi).length<=xs.length:=by grind [wy]
def LR (K:Frag):V->NV->NV->Hp->VK->Prop:=λx lo hi H Q=>∃a xs,x=.ref a/\SqT K H a xs/\
 ¬ (HT.sIx xs.length 0 lo=0/\HT.sIx xs.length xs.length hi=xs.length)/\∀p,H p=none->Q (.ref p) (upd H p (.tup (wy xs lo hi)))
theorem sl_tup:SlR X (LR X.K):=by
 intro pins s Y H x v vl vu lo hi sl Q I rx hs pl pu h;obtain⟨a,xs,rfl,hx,hw,q⟩:=h;cases rx;obtain⟨its,r,ht,hz⟩:=I.tuple hx;have hlen:its.toArray.size=xs.length:=by rw[size_toArray];exact r.length.symm
 refine⟨"tuple",_,PyProof.Rows.slot_tuple_getitem.lookup,ht.typeIs,?_⟩;refine HT.getItem_tuple_cut ht hs pl pu (by rw[hlen];exact hw) ?_ (by rw[hlen];exact hz);rw[hlen];refine⟨.ref s.heap.objs.size,_,I.laid (λb ob q=>NX _ q) (Om _) ?_,rfl,q _ (I.hok.fresh (Om _))⟩;exact⟨Oa (jK xs lo hi) hz,_,(r.drop _).take _,IsTup.new _ _⟩
end
def ixN (n:Nat) (i:Int):Option Nat:=if 0<=i then(if i<n then some i.toNat else none)else if -(n:Int)<=i then some (i+n).toNat else none
def atI {α:Type} (xs:List α) (i:Int):Option α:=(ixN xs.length i).bind λj=>xs[j]?
theorem uS (h:ixN n i=some j):seqIndex? i n=some j/\j<n/\ -(n:Int)<=i/\i<n:=by
 unfold ixN at h;by_cases h0:0<=i
 ·rw[if_pos h0]at h;by_cases h1:i<n
  ·rw[if_pos h1]at h;have e:=Option.some.inj h;exact⟨by rw[seqIndex_of h0 h1,e],by omega,by omega,h1⟩
  ·rw[if_neg h1]at h;cases h
 ·rw[if_neg h0]at h;by_cases h1:-(n:Int)<=i
  ·rw[if_pos h1]at h;have e:=Option.some.inj h;exact⟨by rw[seqIndex_neg (!1) h1,e],by omega,h1,by omega⟩
  ·rw[if_neg h1]at h;cases h
theorem oK {v:α} (h:atI xs i=some v):∃j,seqIndex? i xs.length=some j/\xs[j]?=some v/\j<xs.length/\ -(xs.length:Int)<=i/\i<xs.length:=by
 unfold atI at h;cases e:ixN xs.length i with
 |none=>rw[e]at h;cases h
 |some j=>
  rw[e]at h;obtain⟨h1,h2,h3,h4⟩:=uS e;exact⟨j,h1,h,h2,h3,h4⟩
theorem ym (xs:List α) (v:α):atI (xs++[v]) (-1)=some v:=by
 have hl:(xs++[v]).length=xs.length+1:=by simp
 have e:ixN (xs++[v]).length (-1)=some xs.length:=by
  unfold ixN;rw[hl,if_neg (!4),if_pos (!1)];congr 1;omega
 grind [atI]
def kB (b:Expr):Prop:=∀o i,subscripted b false o i=operate [o,i] (getItem o i)
def IxR (X:Cx) (r:R2):Prop:=
 ∀ (value slice:Expr) (pins:NG) (s:Shared) (Y:St) (H:Hp) (x y:V) (v u:Value) (Q:VK),Inv X pins Y H s->RelV x v->RelV y u->r x y H Q->
  subscripted slice false v u=operate [v,u] (getItem v u)->wpAny (!3) X.A (subscriptTail value slice v u) (EP X pins Y Q) X.xe s
def MtR (X:Cx) (id:String) (r:V->List V->Hp->VK->Prop):Prop:=
 ∀ (pins:NG) (s:Shared) (Y:St) (H:Hp) (x:V) (xs:List V) (v:Value) (us:NK) (Q:VK),Inv X pins Y H s->RelV x v->Vals xs us->r x xs H Q->
  wpAny (!3) X.A (call (.builtin id) (v::us)) (EP X pins Y Q) X.xe s
section
variable {X:Cx} {a b:Expr} {ta tb:TE} {pos:Pos}
theorem IxR.or (h:IxR X r) (h':IxR X r'):IxR X (λx y H Q=>r x y H Q\/r' x y H Q):=by
 intro value slice pins s Y H x y v u Q I rx ry q hs;rcases q with q|q
 ·exact h value slice pins s Y H x y v u Q I rx ry q hs
 ·exact h' value slice pins s Y H x y v u Q I rx ry q hs
theorem Es (hr:IxR X r) (ha:PE X a ta) (hb:PE X b tb) (hs:kB b):PE X (.Subscript a b pos) (tOp r ta tb):=by
 intro pins s Y H Q I h;exact Subscript_ (Fs ha hb I h λv u s2 x y H2 I2 rx ry q=>hr a b pins s2 Y H2 x y v u Q I2 rx ry q (hs _ _))
def Ji (K:Frag):R2:=λx y H Q=>∃p xs i v,x=.ref p/\y=.int i/\SqL K H p xs/\atI xs i=some v/\Q v H
def Jj (K:Frag):R2:=λx y H Q=>∃p xs i v,x=.ref p/\y=.int i/\SqT K H p xs/\atI xs i=some v/\Q v H
def Jk:R2:=λx y H Q=>∃z i c,x=.str z/\y=.int i/\z.length<=sizeLine/\atI z.cps.toList i=some c/\Q (.str ⟨#[c]⟩) H
theorem ix_list:IxR X (Ji X.K):=by
 intro value slice pins s Y H x y v u Q I rx ry h hs;obtain⟨p,xs,i,z,rfl,rfl,hq,he,q⟩:=h;cases rx;obtain⟨t,rfl⟩:=ry;obtain⟨its,r,pl,hz⟩:=I.list hq;obtain⟨j,h1,h2,h3,h4,h5⟩:=oK he;obtain⟨w,ew,rw'⟩:=r.get h2;have hl:=r.length;have hn:=gH;have fin:EP X pins Y Q w s:=⟨z,H,I,rw',q⟩;by_cases h0:0<=i
 ·have hj:i.toNat=j:=by
   rw[seqIndex_of h0 h5]at h1;exact Option.some.inj h1
  exact item_listR pl.isList h0 (!1) (by rw[hj];simpa using ew) fin hs
 ·have hj:(i+(its.toArray.size:Int)).toNat=j:=by
   rw[seqIndex_neg (!1) h4]at h1;rw[size_toArray,<-hl];exact Option.some.inj h1
  exact subscriptTail_builtinR pl.isList.typeIs slot_list_getitem.lookup
   (wpAny_getItem_list_neg pl.isList (!1) (by rw[size_toArray]<;>omega) (!1) (by rw[hj];simpa using ew) ⟨rfl,fin⟩) hs
theorem ix_tup:IxR X (Jj X.K):=by
 intro value slice pins s Y H x y v u Q I rx ry h hs;obtain⟨p,xs,i,z,rfl,rfl,hq,he,q⟩:=h;cases rx;obtain⟨t,rfl⟩:=ry;obtain⟨its,r,pl,hz⟩:=I.tuple hq;obtain⟨j,h1,h2,h3,h4,h5⟩:=oK he;obtain⟨w,ew,rw'⟩:=r.get h2;have hl:=r.length;have hn:=gH;have fin:EP X pins Y Q w s:=⟨z,H,I,rw',q⟩;exact subscriptTail_builtinR pl.typeIs slot_tuple_getitem.lookup
  (getItem_tuple pl (!1) (!1) (by rw[size_toArray,<-hl];exact h1) (by simpa using ew) ⟨rfl,fin⟩) hs
theorem FE:IxR X Jk:=by
 intro value slice pins s Y H x y v u Q I rx ry h hs;obtain⟨z,i,c,rfl,rfl,hz,he,q⟩:=h;obtain⟨t,rfl⟩:=rx;obtain⟨t',rfl⟩:=ry;obtain⟨j,h1,h2,h3,h4,h5⟩:=oK he;have hl:z.cps.toList.length=z.length:=by simp[Str.length]
 rw[hl]at h1 h4 h5;have hn:=gH;exact tail_any (typeIs_str s z t) slot_str_getitem.lookup (getItem_str (by
  have e1:decide (i< -(2^63:Int))=false:=decide_eq_false (!1);have e2:decide (i≥2^63)=false:=decide_eq_false (!1);rw[e1,e2,Bool.or_false]) (by rw[h1];simpa using h2) ⟨.str ⟨#[c]⟩,H,I.tok _,⟨_,rfl⟩,q⟩) hs
def rIx (K:Frag):R2:=λx y H Q=>Ji K x y H Q\/Jj K x y H Q\/Jk x y H Q
theorem ix_seq:IxR X (rIx X.K):=ix_list.or (ix_tup.or FE)
theorem sZ (its:NK) (n j:Nat) (u:Value):Obj.mapSeq (·.setIfInBounds j u) {cls:=.type "list",data:=.seq its.toArray n}={cls:=.type "list",data:=.seq (its.set j u).toArray n}:=by
 simp[Obj.mapSeq]
theorem Inv.lst {Y:St} (I:Inv X pins Y H s) (h:H p=some (.lst xs)):
  ∃ (its:NK) (n:Nat),Vals xs its/\s.heap.get? p=some {cls:=.type "list",data:=.seq its.toArray n}/\xs.length<=sizeLine:=by
 obtain⟨z,its,n,r,e⟩:=I.hok p _ h
 grind
theorem Inv.lstUpd {Y:St} {its its':NK} (I:Inv X pins Y H s) (h:H p=some (.lst xs)) (ho:s.heap.get? p=some {cls:=.type "list",data:=.seq its.toArray n}) (hf:f {cls:=.type "list",data:=.seq its.toArray n}={cls:=.type "list",data:=.seq its'.toArray n'}) (r:Vals ys its') (hz:ys.length<=sizeLine) (t:Nat):
  Inv X pins Y (upd H p (.lst ys)) {s with heap:=s.heap.update p f,toks:=t}:=by
 have e:(s.heap.update p f).get? p=some {cls:=.type "list",data:=.seq its'.toArray n'}:=by
  rw[Heap.get?_update_self f ho (by rw[hf]<;>rfl),hf]
 refine I.write (by rw[h];trivial) (.inl rfl) (λb u hb q=>(Heap.get?_update_other _ _ (Ne.symm hb)).trans q) ⟨_,e⟩ ?_
 exact⟨hz,its',n',r,e⟩
def Jl:V->V->V->Hp->(Hp->Prop)->Prop:=λo i v H Q=>∃p xs k j,o=.ref p/\i=.int k/\H p=some (.lst xs)/\ixN xs.length k=some j/\Q (upd H p (.lst (xs.set j v)))
theorem yn:Fo X Jl:=by
 intro pins s Y H o i v ov iv u Q I ro ri rv h;obtain⟨p,xs,k,j,rfl,rfl,hp,hj,q⟩:=h;cases ro;obtain⟨t,rfl⟩:=ri;obtain⟨its,n,r,ho,hz⟩:=I.lst hp;obtain⟨h1,h2,h3,h4⟩:=uS hj;have hl:=r.length;have hn:=gH;have I':Inv X pins Y (upd H p (.lst (xs.set j v))) {s with heap:=s.heap.update p (Obj.mapSeq (·.setIfInBounds j u))}:=
  I.lstUpd hp ho (sZ its n j u) (r.set rv j) (by rw[List.length_set];exact hz) s.toks
 by_cases h0:0<=k
 ·have hk:k.toNat=j:=by
   rw[seqIndex_of h0 h4]at h1;exact Option.some.inj h1
  exact PySem.W.ki_setAt ho h0 (!1) (by rw[size_toArray,<-hl];exact h4) (by rw[hk];exact⟨_,I',q⟩)
 ·have hk:(k+(its.toArray.size:Int)).toNat=j:=by
   rw[seqIndex_neg (!1) h3]at h1;rw[size_toArray,<-hl];exact Option.some.inj h1
  exact PySem.W.ki_setBack ho (!1) (by rw[size_toArray,<-hl];exact h3) (!1) (by rw[hk];exact⟨_,I',q⟩)
theorem oM (lo hi:NV) (n:Nat):(sliceBounds lo hi none n).1=((HT.sIx n 0 lo:Nat):Int)/\(sliceBounds lo hi none n).2.1=((HT.sIx n n hi:Nat):Int)/\(sliceBounds lo hi none n).2.2=1:=by
 refine⟨?_,?_,rfl⟩
 ·cases lo with
  |none=>simp[sliceBounds,HT.sIx]
  |some i=>
   simp only[sliceBounds,HT.sIx,Option.getD_none,show(1:Int)>0 by decide,if_true];by_cases h:i<0
   ·simp only[h,if_true]<;>omega
   ·simp only[h,if_false]<;>omega
 ·cases hi with
  |none=>simp[sliceBounds,HT.sIx]
  |some i=>
   simp only[sliceBounds,HT.sIx,Option.getD_none,show(1:Int)>0 by decide,if_true];by_cases h:i<0
   ·simp only[h,if_true]<;>omega
   ·simp only[h,if_false]<;>omega
theorem mW (its:NK) (lo hi:NV):slicePick its.toArray lo hi none=((its.drop (HT.sIx its.length 0 lo)).take (HT.sIx its.length its.length hi-HT.sIx its.length 0 lo)).toArray:=by
 obtain⟨h1,h2,h3⟩:=oM lo hi its.toArray.size;unfold slicePick;rw[h1,h2,h3];simp only[sliceRange_one,pick_run,size_toArray]<;>rfl
def LS (K:Frag):V->NV->NV->Hp->VK->Prop:=λx lo hi H Q=>∃a xs,x=.ref a/\SqL K H a xs/\∀p,H p=none->Q (.ref p) (upd H p (.lst (wy xs lo hi)))
theorem BW:SlR X (LS X.K):=by
 intro pins s Y H x v vl vu lo hi sl Q I rx hs pl pu h;obtain⟨a,xs,rfl,hx,q⟩:=h;cases rx;obtain⟨its,r,ht,hz⟩:=I.list hx;have hlen:=r.length;refine⟨"list",_,slot_list_getitem.lookup,ht.isList.typeIs,?_⟩;refine wpAny_getItem_list_slice ht.isList hs pl pu .none (by simp) ?_ (by rw[size_toArray]<;>omega);rw[mW,<-hlen];refine⟨.ref s.heap.objs.size,_,I.laid (λb ob q=>NX _ q) (Om _) ?_,rfl,q _ (I.hok.fresh (Om _))⟩;exact⟨Oa (jK xs lo hi) hz,_,0,(r.drop _).take _,N2 _ rfl⟩
def fj:V->Bool
 |.non=>true
 |.bl _=>true
 |.int _=>true
 |.str _=>true
 |_=>false
def eqV:V->V->Bool
 |.non,.non=>true
 |.bl a,.bl b=>a==b
 |.bl a,.int b=>(if a then 1 else 0)==b
 |.int a,.bl b=>a==(if b then 1 else 0)
 |.int a,.int b=>a==b
 |.str a,.str b=>a==b
 |_,_=>false
theorem yo (ry:RelV y u) (rx:RelV x v) (fy:fj y=true) (fx:fj x=true):SeqAt.EqAt A s u v (eqV y x):=by
 cases y with
 |non=>
  cases ry;cases x with
  |non=>cases rx;exact SeqAt.EqAt.same _
  |bl b=>cases rx;exact SeqAt.EqAt.none_bool b
  |int b=>obtain⟨t,rfl⟩:=rx;exact SeqAt.EqAt.none_int b t
  |str b=>obtain⟨t,rfl⟩:=rx;exact SeqAt.EqAt.none_str b t
  |_=>exact absurd (fx) N3
 |bl a=>
  cases ry;cases x with
  |non=>cases rx;exact SeqAt.EqAt.bool_none a
  |bl b=>cases rx;exact SeqAt.EqAt.bool_bool a b
  |int b=>obtain⟨t,rfl⟩:=rx;exact SeqAt.EqAt.bool_int a b t
  |str b=>obtain⟨t,rfl⟩:=rx;exact SeqAt.EqAt.bool_str a b t
  |_=>exact absurd (fx) N3
 |int a=>
  obtain⟨t',rfl⟩:=ry;cases x with
  |non=>cases rx;exact SeqAt.EqAt.int_none a t'
  |bl b=>cases rx;exact SeqAt.EqAt.int_bool a t' b
  |int b=>obtain⟨t,rfl⟩:=rx;exact SeqAt.EqAt.int_int a t' b t
  |str b=>obtain⟨t,rfl⟩:=rx;exact SeqAt.EqAt.int_str a t' b t
  |_=>exact absurd (fx) N3
 |str a=>
  obtain⟨t',rfl⟩:=ry;cases x with
  |non=>cases rx;exact SeqAt.EqAt.str_none a t'
  |bl b=>cases rx;exact SeqAt.EqAt.str_bool a t' b
  |int b=>obtain⟨t,rfl⟩:=rx;exact SeqAt.EqAt.str_int a t' b t
  |str b=>obtain⟨t,rfl⟩:=rx;exact SeqAt.EqAt.str_str a t' b t
  |_=>exact absurd (fx) N3
 |_=>exact absurd (fy) N3
def eqU (x:V) (u:Value):Bool:=match u with
 |.none=>eqV .non x
 |.bool b=>eqV (.bl b) x
 |.int i _=>eqV (.int i) x
 |.str z _=>eqV (.str z) x
 |_=>false
theorem yp (r:RelV y u) (f:fj y=true):eqU x u=eqV y x:=by
 cases y with
 |non=>cases r;rfl
 |bl b=>cases r;rfl
 |int i=>obtain⟨t,rfl⟩:=r;rfl
 |str z=>obtain⟨t,rfl⟩:=r;rfl
 |_=>exact absurd (f) N3
theorem oN:∀ {xs:List V} {us:NK},Vals xs us->xs.all fj=true->us.any (eqU x)=xs.any λy=>eqV y x
 |_,_,.nil,_=>rfl
 |y::xs,u::us,.cons r t,f=>by
  rw[List.all_cons,and_eq_true]at f;rw[List.any_cons,List.any_cons,yp r f.1,oN t f.2]
theorem lq (rx:RelV x v) (fx:fj x=true):∀ {xs:List V} {us:NK},Vals xs us->xs.all fj=true->∀u∈us,SeqAt.EqAt A s u v (eqU x u)
 |_,_,.nil,_=>λu hu=>by cases hu
 |y::xs,u::us,.cons r t,f=>λu' hu=>by
  rw[List.all_cons,and_eq_true]at f;rcases mem_cons.mp hu with rfl|hu
  ·rw[yp r f.1];exact yo r rx f.1 fx
  ·exact lq rx fx t f.2 u' hu
def inV (x:V) (xs:List V):Bool:=xs.any λy=>eqV y x
def rIn (K:Frag) (neg:Bool):R2:=λx y H Q=>∃p xs,y=.ref p/\(SqL K H p xs\/SqT K H p xs)/\fj x=true/\xs.all fj=true/\Q (.bl (if neg then !inV x xs else inV x xs)) H
theorem wz:OpR X (compareOp .In) (rIn X.K false):=by
 intro pins s Y H x y v u Q I rx ry h;obtain⟨p,xs,rfl,hq,fx,fs,q⟩:=h;cases ry;rcases hq with hq|hq
 ·obtain⟨its,r,pl,hz⟩:=I.list hq;refine SeqAt.in_listAt (eqU x) pl.isList (λw hw=>lq rx fx r fs w (by simpa using hw)) ⟨.bl _,H,I,rfl,?_⟩;rw[show its.toArray.any (eqU x)=its.any (eqU x)by simp,oN r fs];exact q
 ·obtain⟨its,r,pl,hz⟩:=I.tuple hq;refine SeqAt.in_tupleAt (eqU x) pl (λw hw=>lq rx fx r fs w (by simpa using hw)) ⟨.bl _,H,I,rfl,?_⟩;rw[show its.toArray.any (eqU x)=its.any (eqU x)by simp,oN r fs];exact q
theorem call_len_seq:dD X (.builtin "len") (λxs H Q=>∃p ys,xs=[.ref p]/\(SqL X.K H p ys\/SqT X.K H p ys)/\Q (.int ys.length) H):=by
 intro pins s Y H xs us Q I r h;obtain⟨p,ys,rfl,hq,q⟩:=h;obtain⟨u,rfl,rx⟩:=eW r;cases rx;have hn:=gH;rcases hq with hq|hq
 ·obtain⟨its,r',pl,hz⟩:=I.list hq;have hlen:=r'.length;exact Calls.call_len_list pl.isList (by simp only[size_toArray]<;>omega) ⟨.int ys.length,H,I.tok _,⟨s.toks+1,by rw[size_toArray,hlen]⟩,q⟩
 ·obtain⟨its,r',pl,hz⟩:=I.tuple hq;have hlen:=r'.length;exact len_tuple pl (by simp only[size_toArray]<;>omega) ⟨.int ys.length,H,I.tok _,⟨s.toks+1,by rw[size_toArray,hlen]⟩,q⟩
theorem oO:dD X (.type "list") (λxs H Q=>∃p ys,xs=[.ref p]/\(SqL X.K H p ys\/SqT X.K H p ys)/\∀l,H l=none->Q (.ref l) (upd H l (.lst ys))):=by
 intro pins s Y H xs us Q I r h;obtain⟨p,ys,rfl,hq,q⟩:=h;obtain⟨u,rfl,rx⟩:=eW r;cases rx;have fin:∀ (its:NK),Vals ys its->ys.length<=sizeLine->∀ (h':Heap) (c':Nat),(∀b o',s.heap.get? b=some o'->h'.get? b=some o')->
   h'.get? s.heap.objs.size=some {cls:=.type "list",dict:=none,data:=.seq its.toArray c',slots:=#[]}->EP X pins Y Q _ {s with heap:=h'}:=λits r' hz h' c' kp e=>
  ⟨.ref s.heap.objs.size,_,I.laid kp (Om _) (show ObjOk X.prog X.w _ h' _ (.lst ys)from⟨hz,its,c',r',e⟩),rfl,q _ (I.hok.fresh (Om _))⟩
 rcases hq with hq|hq
 ·obtain⟨its,r',pl,hz⟩:=I.list hq;have hlen:=r'.length;obtain⟨o,ho,hc,n,hd⟩:=pl.isList;exact call_list_seq p (.inl rfl) ho hc hd (λh' c' kp e=>fin its r' hz h' c' kp e) (by simp only[size_toArray]<;>omega)
 ·obtain⟨its,r',pl,hz⟩:=I.tuple hq;have hlen:=r'.length;obtain⟨o,ho,hc,n,hd⟩:=pl;exact call_list_seq p (.inr rfl) ho hc hd (λh' c' kp e=>fin its r' hz h' c' kp e) (by simp only[size_toArray]<;>omega)
theorem call_tuple_of:dD X (.type "tuple") (λxs H Q=>∃p ys,xs=[.ref p]/\((SqL X.K H p ys/\∀l,H l=none->Q (.ref l) (upd H l (.tup ys)))\/(SqT X.K H p ys/\Q (.ref p) H))):=by
 intro pins s Y H xs us Q I r h;obtain⟨p,ys,rfl,h⟩:=h;obtain⟨u,rfl,rx⟩:=eW r;cases rx;rcases h with⟨hq,q⟩|⟨hq,q⟩
 ·obtain⟨its,r',pl,hz⟩:=I.list hq;have hlen:=r'.length;refine call_tuple_list pl.isList (λh' kp=>?_) (by simp only[size_toArray]<;>omega);have I1:Inv X pins Y H {s with heap:=h'}:=I.kept kp;have I2:Inv X pins Y (upd H h'.objs.size (.tup ys)) {s with heap:=h'.push {cls:=.type "tuple",data:=.seq its.toArray}}:=
   I1.laid (λb o e=>NX _ e) (Om _) (⟨hz,its,r',IsTup.new _ _⟩)
  exact⟨.ref h'.objs.size,_,I2,rfl,q _ (I1.hok.fresh (Om _))⟩
 ·obtain⟨its,r',pl,hz⟩:=I.tuple hq;exact call_tuple_same pl ⟨.ref p,H,I,rfl,q⟩
def tyV (K:Frag) (T:String) (x:V) (H:Hp):Prop:=match x with
 |.str _=>T="str"
 |.int _=>T="int"
 |.ref p=>(T="list"/\∃xs,SqL K H p xs)\/(T="tuple"/\∃o,K.lookup p=some o/\o.cls=.type "tuple"/\o.dict=none)\/
  (T="dict"/\((∃kvs,H p=some (.dK kvs))\/∃kvs,H p=some (.dT kvs)))\/(T="set"/\∃S n,H p=some (.set S n))
 |_=>False
theorem yq {Y:St} (I:Inv X pins Y H s) (r:RelV x v) (ty:tyV X.K T x H):
  s.TypeIs v T/\∀a,v=.ref a->∃ob,s.heap.get? a=some ob/\ob.dict=none:=by
 cases x with
 |str z=>
  obtain⟨t,rfl⟩:=r;cases(ty);exact⟨typeIs_str s z t,λ_ e=>nomatch e⟩
 |int i=>
  obtain⟨t,rfl⟩:=r;cases(ty);exact⟨typeIs_int s i t,λ_ e=>nomatch e⟩
 |ref p=>
  cases r;rcases ty with⟨rfl,xs,hq⟩|⟨rfl,o,hk,hc,hd⟩|⟨rfl,hk⟩|⟨rfl,S,n,hk⟩
  ·obtain⟨its,_,pl,_⟩:=I.list hq;refine⟨pl.isList.typeIs,λa e=>?_⟩;cases e;obtain⟨o,n,e,c,hd,_⟩:=pl;exact⟨o,e,hd⟩
  ·refine⟨⟨o,I.kIn p o hk,hc⟩,λa e=>?_⟩;cases e;exact⟨o,I.kIn _ o hk,hd⟩
  ·have z:∃o,s.heap.get? p=some o/\o.ExactDict:=by
    rcases hk with⟨kvs,hk⟩|⟨kvs,hk⟩
    ·obtain⟨_,_,_,_,o,_,_,e,ex,_⟩:=I.hok p _ hk;exact⟨o,e,ex⟩
    ·obtain⟨_,_,_,_,o,_,_,e,ex,_⟩:=I.hok p _ hk;exact⟨o,e,ex⟩
   obtain⟨o,e,ex⟩:=z;refine⟨⟨o,e,ex.1⟩,λa e2=>?_⟩;cases e2;exact⟨o,e,ex.2.1⟩
  ·obtain⟨o,_,_,_,e,ex,_⟩:=I.hok p _ hk;refine⟨⟨o,e,ex.1⟩,λa e2=>?_⟩;cases e2;exact⟨o,e,ex.2.1⟩
 |_=>exact False.elim ty
def LU (K:Frag) (T:String) (r:V->List V->Hp->VK->Prop) (to:TE):TE:=λY H Q=>to Y H λx H1=>tyV K T x H1/\r x [] H1 Q
def tBM (K:Frag) (T:String) (r:V->List V->Hp->VK->Prop) (to:TE) (t:TA):TE:=λY H Q=>to Y H λx H1=>tyV K T x H1/\t Y H1 λxs H2=>r x xs H2 Q
variable {o e:Expr} {es:NT} {to:TE} {t:TA} {name:Str} {apos cpos:Pos} {T id:String} {r:V->List V->Hp->VK->Prop}
theorem FG (pa:PlainAttrs T) (slot:Slot T name id) (hty:typeOf (.builtin id)=pure (.type "method_descriptor")) (hm:MtR X id r) (ho:PE X o to)
  (hbase:attributeBase o name X.env (eval o X.env)=eval o X.env:=by rfl) (hline:(!25)=true:=by rfl):PE X (.Call (.Attribute o name apos) [] [] cpos) (LU X.K T r to):=by
 intro pins s Y H Q I h
 refine wpAny_Call_method0_late hbase hline (thn (ho pins s Y H _ I h) λv s1 ⟨x,H1,I1,r1,ty,q1⟩=>?_)
 obtain⟨h1,h2⟩:=yq I1 r1 ty
 exact⟨T,id,pa,slot,hty,h1,h2,Calls.callWith_builtin rfl (PySem.evalArgs_none (hm pins s1 Y H1 x [] v [] Q I1 r1 .nil q1))⟩
theorem qI (pa:PlainAttrs T) (slot:Slot T name id) (hty:typeOf (.builtin id)=pure (.type "method_descriptor")) (hm:MtR X id r) (ho:PE X o to) (ha:PA X (e::es) t)
  (hbase:attributeBase o name X.env (eval o X.env)=eval o X.env:=by rfl)
  (hfew:((backTo cpos (starEach (e::es) X.env)).all (λx=>!x.1)&&(backToKw cpos (keywordEach [] X.env)).all (λx=>x.1.isSome)
   &&decide ((e::es).length+([]:List Keyword).length+(if([]:List Keyword).isEmpty then 0 else 1)<30))=true:=by rfl)
  (hline:(!25)=true:=by rfl) (hs:starEach (e::es) X.env=(false,eval e X.env)::starEach es X.env:=by rfl) (hplain:(backTo cpos (starEach es X.env)).any (·.1)=false:=by rfl):
  PE X (.Call (.Attribute o name apos) (e::es) [] cpos) (tBM X.K T r to t):=by
 intro pins s Y H Q I h
 refine wpAny_Call_method_late hbase hfew hline rfl (thn (ho pins s Y H _ I h) λv s1 ⟨x,H1,I1,r1,ty,q1⟩=>?_)
 obtain⟨h1,h2⟩:=yq I1 r1 ty
 refine⟨T,id,pa,slot,hty,h1,h2,?_⟩
 have hA:=ha cpos pins s1 Y H1 _ I1 q1
 rw[hs]at hA⊢
 refine Calls.callWith_builtin (by show(false||(backTo cpos (starEach es X.env)).any (·.1))=false;rw[hplain]<;>rfl) (Calls.evalArgs_plain ?_)
 exact thn hA λus s2 ⟨vs,H2,I2,r2,q2⟩=>hm pins s2 Y H2 x vs v us Q I2 r1 r2 q2
end
def MtM (X:Cx) (id:String) (r:V->List V->Hp->VK->Prop):Prop:=
 ∀ (pins:NG) (s:Shared) (Y:St) (H:Hp) (x:V) (xs:List V) (v:Value) (us:NK) (Q:VK),Inv X pins Y H s->RelV x v->Vals xs us->r x xs H Q->
  wpAny (!3) X.A (call (.builtin id) (v::us)) (EP X pins Y Q) X.xe s
theorem Vals.one:∀ {x:V} {us:NK},Vals [x] us->∃u,us=[u]/\RelV x u
 |_,_,.cons r .nil=>⟨_,rfl,r⟩
theorem Vals.zero:∀ {us:NK},Vals [] us->us=[]
 |_,.nil=>rfl
theorem Vals.reverse (h:Vals xs us):Vals xs.reverse us.reverse:=by
 induction h with
 |nil=>exact .nil
 |cons r t ih=>rw[List.reverse_cons,List.reverse_cons];exact Vals.append ih (.cons r .nil)
section
variable {X:Cx} {pins:NG} {Y:St} {H:Hp} {s:Shared} {l b:Addr} {xs ys zs:List V}
theorem Inv.lset {its its':NK} (I:Inv X pins Y H s) (hH:H l=some (.lst xs)) (e:s.heap.get? l=some {cls:=.type "list",data:=.seq its.toArray n}) (hf:f its.toArray=its'.toArray) (hv:Vals ys its') (hz:ys.length<=sizeLine):
  Inv X pins Y (upd H l (.lst ys)) {s with heap:=s.heap.update l (Obj.mapSeq f),toks:=t'}:=by
 have q:=PySem.IsL.update e f
 rw[hf]at q
 refine I.write (by rw[hH];exact trivial) (.inl rfl) (λb' u hb hu=>(Heap.get?_update_other s.heap _ (Ne.symm hb)).trans hu) ⟨_,q⟩ ?_
 exact⟨hz,its',_,hv,q⟩
theorem Inv.lnew (I:Inv X pins Y H s) (hv:Vals ys its) (hz:ys.length<=sizeLine):
  Inv X pins Y (upd H s.heap.objs.size (.lst ys)) {s with heap:=s.heap.push {cls:=.type "list",data:=.seq its.toArray},toks:=t'}:=
 I.laid (λ_ _ q=>NX _ q) (Om _) ⟨hz,its,0,hv,N2 _ rfl⟩
theorem Inv.fresh (I:Inv X pins Y H s):H s.heap.objs.size=none:=I.hok.fresh (Om _)
theorem Inv.lstM (I:Inv X pins Y H s) (hH:H l=some (.lst xs)):xs.length<=sizeLine/\∃ (its:NK) (n:Nat),Vals xs its/\xs.length=its.length/\s.heap.get? l=some {cls:=.type "list",data:=.seq its.toArray n}:=by
 obtain⟨z,its,n,r,e⟩:=I.hok l _ hH;exact⟨z,its,n,r,r.length,e⟩
theorem yt (h:n<=sizeLine):Builtin.List.listTooLong n=false:=by
 exact decide_eq_false (!1)
end
section
variable {X:Cx}
def BX:V->List V->Hp->VK->Prop:=λx vs H Q=>∃l xs y,x=.ref l/\vs=[y]/\H l=some (.lst xs)/\xs.length<sizeLine/\Q .non (upd H l (.lst (xs++[y])))
theorem nO:MtM X "list.append" BX:=by
 intro pins s Y H x vs v us Q I rx rv h;obtain⟨l,xs,y,rfl,rfl,hH,hz,q⟩:=h;cases rx;obtain⟨u,rfl,ru⟩:=rv.one;obtain⟨z,its,n,r,hl,e⟩:=I.lstM hH;refine call_meets F.slot_list_append ⟨_,e,rfl⟩ F.entry_list_append (F.args_list_append_2 _ _) (PySem.list_append l its.toArray n u (by rw[size_toArray];omega)) ⟨e,?_⟩;refine⟨.non,_,I.lset hH e (by simp) (r.append (.cons ru .nil)) ?_,rfl,q⟩;grind
def yu:V->List V->Hp->VK->Prop:=λx vs H Q=>∃l xs,x=.ref l/\vs=[]/\H l=some (.lst xs)/\Q .non (upd H l (.lst xs.reverse))
theorem tf:MtM X "list.reverse" yu:=by
 intro pins s Y H x vs v us Q I rx rv h;obtain⟨l,xs,rfl,rfl,hH,q⟩:=h;cases rx;have hus:=rv.zero;subst hus;obtain⟨z,its,n,r,hl,e⟩:=I.lstM hH;refine call_meets F.slot_list_reverse ⟨_,e,rfl⟩ F.entry_list_reverse (F.args_list_reverse_1 _) (AutoSeq1.list_reverse_list_0 l its.toArray n (by rw[size_toArray];omega)) ⟨e,?_⟩;refine⟨.non,_,I.lset hH e (by simp) r.reverse ?_,rfl,q⟩;grind
end
section
variable {prog:Program} {w:World} {A:Around} {E:NJ} {s:Shared}
set_option maxRecDepth 100000 in
end
section
variable {X:Cx}
end
end L2
namespace Att
open PySem PySem.W PySem.Calls PyProof.Rows
theorem ka:∀ (ns:NQ) (vs:NK),WellAll P h vs (ns.map WData.int)->IntsAre vs ns:=by
 intro ns;induction ns with
 |nil=>
  intro vs w;cases w;exact .nil
 |cons n ns ih=>
  intro vs w;cases w with
  |cons a b=>
   cases a;exact .cons _ _ (ih _ b)
theorem wA {l:OpenLaw} (hn:l.most=some n) (hpre:l.row.toRowW.claim.pre args=true) (hwl:WellAll P h vals args):
  ∃a vs ns,vals=[Value.ref a]/\args=[WData.list (ns.map WData.int)]/\h.get? a=some {cls:=.type "list",data:=.seq vs.toArray}/\IntsAre vs ns/\ns.length<=n:=by
 have hsh:WShape.hasAll [] args [.list .int]=true:=(pre_splitW hpre).1
 have hc:l.pre.holds [] {args:=args}=true:=(pre_splitW hpre).2
 obtain⟨d,r,rfl,h1,h2⟩:=hasAllW_cons hsh
 obtain rfl:=hasAllW_nil h2
 obtain⟨xs,rfl,h3⟩:=hasW_list h1
 obtain⟨ns,rfl⟩:=items_int h3
 have hlen:ns.length<=n:=by
  have h4:(WTm.not (.lt (.lit (.int (n:Int))) (.len (.arg 0)))).holds [] {args:=[.list (ns.map .int)]}=true:=by
   have h4:=(holds_andW hc).1;rw[hn]at h4;exact h4
  have h5:=condW_of h4 (w_not (w_lt w_lit (w_len_list (w_arg rfl))));refine Nat.le_of_not_lt λq=>?_;first
   |(rw[decide_eq_true q']at h5;exact absurd h5 (!4))
   |(simp at h5;omega)
 cases hwl with
 |cons w1 w2=>
  cases w2;cases w1 with
  |list ho hall=>exact⟨_,_,ns,rfl,rfl,ho,ka ns _ hall,hlen⟩
theorem wB (l:OpenLaw) (args:List WData):l.row.toRowW.claim.post args (.bool true) args=true:=
 postW_of
  (by first|rfl|decide|simp[WShape.has,WShape.arms,WShape.armsAll])
  (w_eq_bool (w_res rfl) w_lit) rfl
theorem attach_call {l:OpenLaw} (hn:l.most=some n) (hdf:d.params.defaults=[]) (call:∀ (w:World) (s₀ s₁:Shared) (mg mb:Str->NM) (fa:Addr) (o:Obj) (pm cd doc:Value) (a:Addr) (vs:NK) (ns:NQ),
   Ground q loose [] XP w s₀ mg mb s₁.heap->YP w s₁.heap->
   s₁.heap.get? fa=some o->o.data=.func (docDef d.name d.params d.body d.scope pm cd doc)->s₁.heap.CodeRec cd d.name->mg d.name=some (.ref fa)->
   s₁.heap.get? a=some {cls:=.type "list",data:=.seq vs.toArray}->IntsAre vs ns->ns.length<=n->s₁.gens=#[]->
   codeAny (model l.prog w) callerA (.call (.ref fa) ⟨[.ref a],[]⟩) (λr s'=>r=.ok (.ret (.bool true))/\OldK s₁.heap s'.heap/\s'.os=s₁.os/\AllBare s'.gens) s₁):
  WalkO q loose XP YP l.row.toRowW d [] (λf vs=>PySem.call f vs):=by
 intro w s₀ s₁ mg mb G σ fa o pm cd doc dV kV ho hd hcd hD hmg hg args vals as hpre hlay hrd hwl hlo
 obtain rfl:dV=.none:=Dflts.none hD hdf
 obtain rfl:kV=.none:=Dflts.noKw hD
 obtain⟨a,vs,ns,rfl,rfl,hobj,hints,hlen⟩:=wA hn hpre hwl
 refine enter_call (codeAny_mono (call w s₀ s₁ mg mb fa o pm cd doc a vs ns G σ ho (fd_plain hd) hcd hmg hobj hints hlen hg) λr s' hq=>?_)
 obtain⟨rfl,h2,h3,h4⟩:=hq
 exact⟨.inl ⟨.bool true,.bool true,[],rfl,λ_=>rfl,.bool true,wB l _,λ_=>⟨List.Pairwise.nil,λ_ hm=>(nomatch hm)⟩⟩,h2,h3,h4⟩
section
variable {prog:Program} {w:World} {A:Around} {E:NJ} {s:Shared} {K:Frag}
end
end Att
namespace L2
open PySem PySem.Spec PyProof.Rows
theorem nP:∀ {vs:NK} {ns:NQ},IntsAre vs ns->Vals (ns.map V.int) vs
 |_,_,.nil=>.nil
 |_,_,.cons n t h=>.cons ⟨t,rfl⟩ (nP h)
def FH (H:Hp):Prop:=∀b,H b=none\/∃o xs,H b=some (.frz o (.lst xs))
theorem yw {K} (KX:K.In s₁.heap) (hns:s₁.heap.Ns mainGlobals mg) (hb:s₁.heap.Ns builtinsNs mb) (hbb:∀x:Str,x≠"__name__" ->mb x=bootBuiltins x) (hlim:s₁.heap.NoLimit) (hg:s₁.gens=#[]) (ha:s₁.heap.get? a=some {cls:=.type "list",data:=.seq vs.toArray}) (hi:IntsAre vs ns) (hl:ns.length<=sizeLine) (hr:Room k callerA) (F:∀base:Heap,K.In base->base.Ns mainGlobals mg->FnOk P w K mg base CX k fa fd [x] sp) (hbind:∀ (s:Shared) (u:Value),BindsTo s fd ⟨[u],[]⟩ [(x,u)]) (hsp:∀H:Hp,FH H->SqL K H a (ns.map V.int)->sp [.ref a] H (λv _=>v=.bl true) λ_ _ _=>False) (hCX:∀H e s',CX [] H s₁ (λ_ _ _=>False) e s'->False):
  codeAny (model P w) callerA (.call (.ref fa) ⟨[.ref a],[]⟩) (λr s'=>r=.ok (.ret (.bool true))/\OldK s₁.heap s'.heap/\s'.os=s₁.os/\AllBare s'.gens) s₁:=by
 have rv:=nP hi
 have lenV:=hi.length
 -- from an abstract heap in which nothing but the script may be tracked
 have core:∀H:Hp,FH H->SqL K H a (ns.map V.int)->HOk P w H s₁.heap->(∀b,H b≠none->b=a)->(H a≠none->K.lookup a=none)->
   codeAny (model P w) callerA (.call (.ref fa) ⟨[.ref a],[]⟩) (λr s'=>r=.ok (.ret (.bool true))/\OldK s₁.heap s'.heap/\s'.os=s₁.os/\AllBare s'.gens) s₁:=by
  intro H hO hS hok hA hK
  have base_of:∀ {b:Addr} {o:Obj},s₁.heap.get? b=some o->H b=none->(oG s₁.heap H).get? b=some o:=λe n=>xM e n
  have noA:∀ {b:Addr} {o:Obj} {es:Array DictEntry} {ep:Nat},s₁.heap.get? b=some o->o.data=.dict es ep->H b=none:=λ{b o es ep} e d=>by
   cases q:H b with
   |none=>rfl
   |some u=>
    have e':=hA b (by rw[q];simp)
    subst e'
    rw[ha]at e;cases e
    have d':=d
    cases d'
  have nsK:∀ {b:Addr} {m:Str->NM},s₁.heap.Ns b m->(oG s₁.heap H).Ns b m:=λ{b m} ⟨o,es,ep,e,d,r⟩=>⟨o,es,ep,base_of e (noA e d),d,r⟩
  have hKb:K.In (oG s₁.heap H):=λb o e=>base_of (KX b o e) (by
   cases q:H b with
   |none=>rfl
   |some u=>
    have e':=hA b (by rw[q];simp)
    subst e'
    rw[hK (by rw[q];simp)]at e;cases e)
  have hM:Mod K mg (oG s₁.heap H):=⟨hKb,nsK hns,⟨mb,nsK hb,hbb⟩,let⟨mc,h1,h2⟩:=hlim;⟨mc,nsK h1,h2⟩⟩
  have e0:Env0 P w K mg (oG s₁.heap H) callerA [] s₁ H:=⟨rfl,hM,λb o e=>BI e,Nat.le_of_eq (wn _ _),trivial,λb hb=>absurd (show b∈([]:List Addr)from hb) (by simp),hok,.of_eq hg⟩
  refine codeAny_mono ((F _ hKb (nsK hns)).run callerA [] s₁ H ⟨[.ref a],[]⟩ [.ref a] [.ref a] _ _ hr e0 (hbind s₁ _) (.cons rfl .nil) (hsp H hO hS)) λr s' h=>?_
  cases r with
  |error e=>exact(hCX H e s' h).elim
  |ok fl=>
   cases fl with
   |next=>exact False.elim h
   |brk=>exact False.elim h
   |cont=>exact False.elim h
   |ret u=>
    obtain⟨v,H',os,bare,un,hok',r',q⟩:=h
    have q':=q
    subst q'
    obtain rfl:u=Value.bool true:=r'
    refine⟨rfl,OldK.of_keep λb o e=>?_,os,bare⟩
    cases q:H b with
    |none=>exact un.keep b o e q (by intro z;exact absurd (show b∈([]:List Addr)from z) (by simp)) (by simp)
    |some u=>
     rcases hO b with z|⟨ob,xs,z⟩
     ·rw[q]at z;cases z
     ·have z2:=un.frzs b ob _ z
      obtain⟨e1,_⟩:=hok b _ z
      obtain⟨e2,_⟩:=hok' b _ z2
      rw[e]at e1;cases e1
      exact e2
 cases hk:K.lookup a with
 |some o=>
  -- the script is one of the module's own objects
  have e:=KX a o hk
  rw[ha]at e
  cases e
  refine core (λ_=>none) (λ_=>.inl rfl) (.inr ⟨_,vs.toArray,_,hk,rfl,rfl,rfl,by rw[size_toArray,lenV];exact hl,by simpa using rv⟩) (λb u z=>by have z':(none:Option HO)=some u:=z;cases z') (λb z=>absurd rfl z) λz=>absurd rfl z
 |none=>
  refine core (λb=>if b=a then some (.frz {cls:=.type "list",data:=.seq vs.toArray} (.lst _))else none) (λb=>?_) (.inl (.inr ⟨{cls:=.type "list",data:=.seq vs.toArray},if_pos rfl⟩)) (λb u z=>?_) (λb z=>?_) λ_=>hk
  ·by_cases hb:b=a
   ·exact .inr ⟨_,_,if_pos hb⟩
   ·exact .inl (if_neg hb)
  ·by_cases hb:b=a
   ·have z':=(if_pos hb).symm.trans z
    cases z'
    subst hb
    exact⟨ha,by rw[length_map];exact hl,vs,_,rv,ha⟩
   ·have z':=(if_neg hb).symm.trans z
    cases z'
  ·by_cases hb:b=a
   ·exact hb
   ·exact absurd (if_neg hb) z
theorem walk_of {l:PySem.W.OpenLaw} {K:Params->Frag} {CX:World->CXT} {sp:World->Sp} (hn:l.most=some n) (hn2:n<=sizeLine) (hdf:d.params.defaults=[]) (hr:Room k callerA) (hY:∀ (w:World) (h:Heap),YP w h->(K w.params).In h) (F:∀ (w:World) (mg:Str->NM) (fa:Addr) (h:Heap),(K w.params).In h->h.Ns mainGlobals mg->mg d.name=some (.ref fa)->
   ∃fd:FuncData,(∀ (s:Shared) (u:Value),BindsTo s fd ⟨[u],[]⟩ [(x,u)])/\
    ∀base:Heap,(K w.params).In base->base.Ns mainGlobals mg->FnOk l.prog w (K w.params) mg base (CX w) k fa fd [x] (sp w)) (hsp:∀ (w:World) (H:Hp) (a:Addr) (ns:NQ),ns.length<=n->FH H->SqL (K w.params) H a (ns.map V.int)->sp w [.ref a] H (λv _=>v=.bl true) λ_ _ _=>False) (hCX:∀ (w:World) (H:Hp) (s:Shared) (e:Value) (s':Shared),CX w [] H s (λ_ _ _=>False) e s'->False):
  PySem.W.WalkO q loose XP YP l.row.toRowW d [] (λf vs=>PySem.call f vs):=by
 refine Att.attach_call hn hdf λw s₀ s₁ mg mb fa o pm cd doc a vs ns G σ ho hd hcd hmg hobj hints hlen hg=>?_
 have KX:=hY w _ σ
 obtain⟨fd,hb,hF⟩:=F w mg fa _ KX G.T.g hmg
 exact yw KX G.T.g G.T.b G.T.builtins G.T.nolimit hg hobj hints (Oa hlen hn2) hr hF hb (λH hO hS=>hsp w H a ns hlen hO hS) λH e s'=>hCX w H s₁ e s'
def oP (s:Stmt) (j:Nat):Stmt:=match s with
 |.ClassDef _ _ _ body _ _ _ _ _ _ _=>body.getD j (.Pass ⟨0,0,0,0⟩)
 |_=>.Pass ⟨0,0,0,0⟩
def bv (s:Stmt):Arguments:=match s with
 |.FunctionDef _ a _ _ _ _ _ _ _ _=>a
 |_=>{posonlyargs:=[],args:=[],vararg:=none,kwonlyargs:=[],kw_defaults:=[],kwarg:=none,defaults:=[]}
def aN (s:Stmt):List Stmt:=match s with
 |.FunctionDef _ _ b _ _ _ _ _ _ _=>b
 |_=>[]
def am (s:Stmt):Scope:=match s with
 |.FunctionDef _ _ _ _ _ _ sc _ _ _=>sc
 |_=>{kind:=.function,names:=[],isGenerator:=false,isCoroutine:=false}
abbrev CX0:CXT:=λ_ _ _ _ _ _=>False
abbrev E0:XK:=λ_ _ _=>False
theorem uT:iZ CX0 X E0:=λ_ _ _ _ _ _ _ h=>h.elim
structure Fun (K:Frag) (x qual:Str) (st:Stmt) (f:Addr) (fd:FuncData):Prop where
 ex:∃ (oc:Value) (od:Option Addr) (kV doc pm:Value) (an:Option Addr) (cdv ct:Value) (osl:Array (NM)),
  fd=PySem.W.fnOf x qual (bv st) (aN st) (am st) .none kV doc pm an cdv ct/\K.lookup f=some ⟨oc,od,.func fd,osl⟩/\PySem.W.codeIn K cdv qual=true
 kp:PySem.W.keepIn K (.ref f)=true
section
variable {P:Program} {w:World} {K:Frag} {mg:Str->NM} {base:Heap}
theorem Fun.ok {st} (F:Fun K x qual st f fd) (S:FnScope N ps (am st)) (len:∀vs H Q E,sp vs H Q E->vs.length=ps.length) (hbody:∀ (cdv:Value) (A:Around) (outer:List Env) (s:Shared) (H:Hp) (vs:List V) (Q:VK) (E:XK),Room k (A.deeper (envOfC qual (am st) s.heap.objs.size f cdv))->sp vs H Q E->
  ∃t,PSs (oJ CX0 P w K mg base N qual (am st) f cdv A outer s H E).nox (aN st) t/\t {nx:=λ_ H'=>Q .non H',rt:=Q} (gr N vs) H):FnOk P w K mg base CX0 (k+1) f fd ps sp:=by
 obtain⟨oc,od,kV,doc,pm,an,cdv,ct,osl,rfl,lk,hcd⟩:=F.ex
 refine Jg lk hcd S len λA outer s H vs Q E hr hsp=>?_
 obtain⟨t,h,q⟩:=hbody cdv A outer s H vs Q E hr hsp
 exact⟨t,h.nox,q⟩
theorem Fun.binds {st} (F:Fun K x qual st f fd) (h:∀ (kV doc pm:Value) (an:Option Addr) (cdv ct:Value) (us:NK),us.length=ps.length->bindArgs (PySem.W.fnOf x qual (bv st) (aN st) (am st) .none kV doc pm an cdv ct) ⟨us,[]⟩=pure (ps.zip us)):Binds K fd ps []:=by
 obtain⟨oc,od,kV,doc,pm,an,cdv,ct,osl,rfl,lk,hcd⟩:=F.ex;exact .all (h kV doc pm an cdv ct)
theorem oQ {st} {kV doc pm cdv ct} (l:K.lookup f=some ⟨oc,od,.func (PySem.W.fnOf x qual (bv st) (aN st) (am st) .none kV doc pm an cdv ct),osl⟩) (c:PySem.W.codeIn K cdv qual=true) (k:PySem.W.keepIn K (.ref f)=true):Fun K x qual st f (PySem.W.fnOf x qual (bv st) (aN st) (am st) .none kV doc pm an cdv ct):=⟨⟨oc,od,kV,doc,pm,an,cdv,ct,osl,rfl,l,c⟩,k⟩
end
section
variable {X:Cx}
end
theorem FI {A B:Prop} (h:B):if false=true then A else B:=by
 exact h
theorem FJ {A B:Prop} (h:A):if true=true then A else B:=by
 exact h
def Same (H H':Hp):Prop:=∀b o,H b=some o->H' b=some o
theorem Same.refl (H:Hp):Same H H:=λ_ _ h=>h
theorem Same.trans (a:Same H H1) (b:Same H1 H2):Same H H2:=λc o h=>b c o (a c o h)
theorem Same.free (e:Same H H') (h:H' l=Option.none):H l=Option.none:=by
 cases q:H l with
 |none=>rfl
 |some o=>
  rw[e l o q]at h;cases h
theorem Same.seq {K} (e:Same H H') (h:SqL K H a xs):SqL K H' a xs:=by
 rcases h with(h|⟨o,h⟩)|h
 ·exact .inl (.inl (e _ _ h))
 ·exact .inl (.inr ⟨o,e _ _ h⟩)
 ·exact .inr h
end L2
set_option maxHeartbeats 4000000
noncomputable section
namespace L2
open PySem PySem.Spec PyProof.Rows
theorem PE.imp (h:PE X e t) (k:∀Y H Q,t' Y H Q->t Y H Q):PE X e t':=λpins s Y H Q I q=>h pins s Y H Q I (k _ _ _ q)
theorem PT.imp (h:PT X e t) (k:∀Y H Q,t' Y H Q->t Y H Q):PT X e t':=λpins s Y H Q I q=>h pins s Y H Q I (k _ _ _ q)
theorem PA.imp (h:PA X e t) (k:∀Y H Q,t' Y H Q->t Y H Q):PA X e t':=λpos pins s Y H Q I q=>h pos pins s Y H Q I (k _ _ _ q)
theorem PS.imp {st} (h:PS X st t) (k:∀D Y H,t' D Y H->t D Y H):PS X st t':=λpins s Y H D I q=>h pins s Y H D I (k _ _ _ q)
theorem PSs.imp {st} (h:PSs X st t) (k:∀D Y H,t' D Y H->t D Y H):PSs X st t':=λpins s Y H D I q=>h pins s Y H D I (k _ _ _ q)
theorem PI.imp (h:PI X tg iter t) (k:∀Y H R,t' Y H R->t Y H R):PI X tg iter t':=λpins s Y H R I q=>h pins s Y H R I (k _ _ _ q)
theorem PG.imp (h:PG X tg t) (k:∀v Y H Q,t' v Y H Q->t v Y H Q):PG X tg t':=λpins s Y H v u Q I r q=>h pins s Y H v u Q I r (k _ _ _ _ q)
theorem jL {α β:Type} {f:α->β->Sem (ForInStep β)} {g}:∀ (l:List α) (c:β),(∀x∈l,∀c,f x c=pure (.yield (g c x)))->forIn l c f=pure (l.foldl g c)
 |[],_,_=>rfl
 |x::l,c,h=>by
  rw[List.forIn_cons,h x mem_cons_self,pure_bind];exact jL l _ λy hy=>h y (N6 _ hy)
noncomputable def dL (env:Env) (cs:List (Str×Addr)) (x:Str×NameKind):List (Str×Addr):=if x.2==.free then(x.1,(env.cells.lookup x.1).getD 0)::cs else cs
abbrev oR (env:Env) (scope:Scope):List (Str×Addr):=scope.names.foldl (dL env) []
theorem jM (h:(k==NameKind.free)=true):k=.free:=by grind
theorem lr (h:∀y∈scope.names,y.2=.free->∃c,env.cells.lookup y.1=some c):closureFor scope env=pure (oR env scope):=by
 simp only[closureFor];rw[jL (g:=dL env) scope.names [] (λx hx c=>by
  obtain⟨n,k⟩:=x;unfold dL;cases hk:(k==NameKind.free)with
  |false=>simp
  |true=>
   obtain⟨a,e⟩:=h (n,k) hx (jM hk);have e':=e;simp[cellOf,e'])]
 rfl
theorem dc:∀ (l:List (Str×NameKind)) (cs:List (Str×Addr)),(∀x c,cs.lookup x=some c->env.cells.lookup x=some c)->(∀y∈l,y.2=.free->∃c,env.cells.lookup y.1=some c)->
  ∀x c,(l.foldl (dL env) cs).lookup x=some c->env.cells.lookup x=some c
 |[],_,h,_,x,c,e=>h x c e
 |(n,k)::l,cs,h,hl,x,c,e=>by
  refine dc l (dL env cs (n,k)) (λy d q=>?_) (λy hy=>hl y (N6 _ hy)) x c e;unfold dL at q;cases hk:(k==NameKind.free)with
  |false=>rw[hk]at q;exact h y d (by simpa using q)
  |true=>
   rw[hk]at q;obtain⟨a,ea⟩:=hl (n,k) N5 (jM hk);have ea':env.cells.lookup n=some a:=ea;simp only[if_true,List.lookup_cons,ea',Option.getD_some]at q;cases hy:(y==n)with
   |true=>
    rw[hy]at q;have hyn:y=n:=by simpa using hy
    rw[hyn,ea'];exact q
   |false=>rw[hy]at q;exact h y d q
theorem gI:∀ (l:List (Str×NameKind)) (cs:List (Str×Addr)) (x:Str),((x,NameKind.free)∈l\/(cs.lookup x).isSome=true)->((l.foldl (dL env) cs).lookup x).isSome=true
 |[],_,_,h=>by
  rcases h with h|h
  ·cases h
  ·exact h
 |(n,k)::l,cs,x,h=>by
  refine gI l (dL env cs (n,k)) x ?_;rcases h with h|h
  ·rcases mem_cons.mp h with e|h
   ·cases e;refine .inr ?_;unfold dL;simp
   ·exact .inl h
  ·refine .inr ?_;unfold dL;split
   ·rw[List.lookup_cons];split
    ·rfl
    ·exact h
   ·exact h
theorem lu (h:(relabel scope env).names.lookup x=some k):∃k0,(x,k0)∈scope.names/\(k0=k\/(k0=.free/\k=.cell)):=by
 have h':(scope.names.map λ(n,k)=>if(k==NameKind.free&&env.scope.kind==.function&&env.kindOf n==some .cell)then(n,NameKind.cell)else(n,k)).lookup x=some k:=h;have hm:=PySem.mem_of_lookup h';grind
def cxC (X:Cx) (scope:Scope) (C:Addr) (s:Shared) (H:Hp) (fp:List Addr):Cx where
 prog:=X.prog
 w:=X.w
 K:=X.K
 mg:=X.mg
 base:=X.base
 A:=X.A
 N:=X.N
 s₀:=s
 H₀:=H
 env:=compEnvC scope (oR X.env scope) C X.env
 outer:=X.stack
 stack:=X.stack
 ex:=fp
 fn:=λ_=>false
 calm:=X.calm
 pn:=[]
 xe:=λ_ _=>False
structure CSc (X:Cx) (scope:Scope) (ks:NO):Prop where
 kind:scope.kind=.function
 nocell:∀y∈scope.names,y.2≠.cell
 names:∀y∈scope.names,y.2=.local->scope.names.lookup y.1=some .local
 free:∀y∈scope.names,y.2=.free->X.env.scope.names.lookup y.1=some .cell\/X.env.scope.names.lookup y.1=some .free
 own:∀ (i:Nat) (x:Str),X.N[i]?=some x->scope.names.lookup x=some .local->i∈ks
noncomputable def d4 {α:Type} (ks:NO) (Y:List (Option α)):List (Option α):=ks.foldl (λY k=>Y.set k none) Y
theorem hZ:∀ (ks:NO) (Y:List (Option α)),(d4 ks Y).length=Y.length
 |[],_=>rfl
 |k::ks,Y=>by
  show(d4 ks (Y.set k none)).length=_;rw[hZ ks];simp
theorem lv:∀ (ks:NO) (Y:List (Option α)) (i:Nat) (v:α),(d4 ks Y)[i]?=some (some v)->Y[i]?=some (some v)/\i ∉ ks
 |[],_,_,_,h=>⟨h,by simp⟩
 |k::ks,Y,i,v,h=>by
  obtain⟨h1,h2⟩:=lv ks (Y.set k none) i v h;by_cases hk:k=i
  ·subst hk;rw[List.getElem?_set]at h1;simp only[if_true]at h1;split at h1<;>simp at h1
  ·rw[List.getElem?_set_ne hk]at h1;exact⟨h1,by simp[h2,Ne.symm hk]⟩
theorem qJ:∀ (ks:NO) (Y:List (Option α)) (i:Nat) (v:α),Y[i]?=some (some v)->i ∉ ks->(d4 ks Y)[i]?=some (some v)
 |[],_,_,_,h,_=>h
 |k::ks,Y,i,v,h,hn=>by
  refine qJ ks (Y.set k none) i v ?_ λz=>hn (N6 _ z);rw[List.getElem?_set_ne (λz=>hn (by simp[z]))];exact h
section
variable {X:Cx} {pins:NG} {Y:St} {H:Hp} {s:Shared} {fp:List Addr} {scope:Scope} {ks:NO} {C D:Addr}
theorem Inv.cells_of (I:Inv X pins Y H s) (S:CSc X scope ks):∀y∈scope.names,y.2=.free->∃c,X.env.cells.lookup y.1=some c:=λy hy hf=>I.ok.has y.1 (S.free y hy hf)
theorem tj (I:Inv X pins Y H s) (S:CSc X scope ks) (hf:∀b∈fp,gG X pins H b) (hlt:∀b∈fp,b<s.heap.objs.size) (hC:s.heap.objs.size<=C):(!11).Ok where
 mod:=I.ok.mod
 kind:=S.kind
 glob:=I.ok.glob
 blt:=I.ok.blt
 above:=hC
 inj:=λx y c h1 h2=>I.ok.inj x y c (dc _ [] (λ_ _ z=>nomatch z) (I.cells_of S) x c h1) (dc _ [] (λ_ _ z=>nomatch z) (I.cells_of S) y c h2)
 has:=λx hx=>by
  have q:∃k,(relabel scope X.env).names.lookup x=some k/\(k=.cell\/k=.free):=by
   rcases hx with h|h
   ·exact⟨_,h,.inl rfl⟩
   ·exact⟨_,h,.inr rfl⟩
  obtain⟨k,hk,hc⟩:=q;obtain⟨k0,hm,h0⟩:=lu hk;have hfree:k0=.free:=by
   rcases h0 with rfl|⟨h,_⟩
   ·rcases hc with z|z
    ·exact absurd z (S.nocell _ hm)
    ·exact z
   ·exact h
  subst hfree;exact Option.isSome_iff_exists.mp (gI scope.names [] x (.inl hm))
 cab:=λ_ _ z=>absurd z N3
 hd:=I.ok.hd
 frames:=I.ok.frames
 stk:=.inl rfl
 exf:=λb hb=>⟨Ob (N8 (hlt b hb) hC),λx c e=>(hf b hb).2.2.2.2.1 x c (dc _ [] (λ_ _ z=>nomatch z) (I.cells_of S) x c e)⟩
 bs:=I.bs
 bsz:=Oa I.ok.bsz I.sz
 noex:=λb o e hb=>by
  rcases(hf b hb).2.2.2.1 with z|z
  ·exact I.ok.noex b o e z
  ·exact absurd (N8 (N8 (N1 e) I.ok.bsz) z) (Oh _)
 exfs:=λb hb hs=>by
  rcases mem_cons.mp (I.stkSub b hs)with z|z
  ·exact(hf b hb).2.1 z
  ·exact(hf b hb).2.2.1 z
 funs:=I.stack
 frf:=I.stkFree
theorem wC {its:NK} (I:Inv X pins Y H s) (S:CSc X scope ks) (hf:∀b∈fp,gG X pins H b) (hlt:∀b∈fp,b<s.heap.objs.size) (hD:s.heap.objs.size<=D) (hC:s.heap.objs.size<=C) (hDC:D≠C) (old:∀b o,s.heap.get? b=some o->h₁.get? b=some o) (hns:h₁.Ns C m) (hacc:h₁.get? D=some {cls:=.type "list",data:=.seq its.toArray n}):
  Inv (!11) [(D,{cls:=.type "list",data:=.seq its.toArray n})] (d4 ks Y) H {s with heap:=h₁,toks:=tk}:=by
 have cs:=dc scope.names [] (λ_ _ z=>nomatch z) (I.cells_of S)
 refine⟨tj I S hf hlt hC,rfl,I.bare,Un.kept old,⟨m,hns,λi x v hN hY hv=>?_⟩,λx c e=>?_,I.hok.fresh hC,λx c e=>I.freeC x c (cs x c e),λp hp=>?_,I.hok.kept old,?_⟩
 ·obtain⟨h1,h2⟩:=lv ks Y i v hY;have hv':∃k,(relabel scope X.env).names.lookup x=some k/\(k=.local\/k=.cell\/k=.free):=by
   rcases hv with h|h|h
   ·exact⟨_,h,.inl rfl⟩
   ·exact⟨_,h,.inr (.inl rfl)⟩
   ·exact⟨_,h,.inr (.inr rfl)⟩
  obtain⟨k,hk,hkk⟩:=hv';obtain⟨k0,hm,h0⟩:=lu hk;have hfree:k0=.free:=by
   rcases h0 with e|⟨h,_⟩
   ·subst e;rcases hkk with z|z|z
    ·exact absurd (S.own i x hN (S.names _ hm z)) h2
    ·exact absurd z (S.nocell _ hm)
    ·exact z
   ·exact h
  subst hfree;have hX:=S.free _ hm rfl;obtain⟨m0,hn0,hl0⟩:=I.loc;obtain⟨u,r,l⟩:=hl0 i x v hN h1 (by rcases hX with z|z;exact .inr (.inl z);exact .inr (.inr z));refine⟨u,r,.inr ⟨?_,?_⟩⟩
  ·have hk2:k=.cell\/k=.free:=by
    rcases h0 with e|⟨_,e⟩
    ·exact .inr e.symm
    ·exact .inl e
   rcases hk2 with e|e
   ·subst e;exact .inl hk
   ·subst e;exact .inr hk
  ·rcases l with⟨hloc,_⟩|⟨_,c,ec,hcell⟩
   ·have hloc':X.env.scope.names.lookup x=some .local:=hloc;rcases hX with z|z
    ·rw[hloc']at z;cases z
    ·rw[hloc']at z;cases z
   ·obtain⟨c',ec'⟩:=Option.isSome_iff_exists.mp (gI scope.names [] x (.inl hm));have e2:=cs x c' ec';rw[ec]at e2;cases e2;obtain⟨o,ho,hd⟩:=hcell;exact⟨c,ec',o,old c o ho,hd⟩
 ·obtain⟨v,o,ho,hd⟩:=I.cell x c (cs x c e);exact⟨v,o,old c o ho,hd⟩
 ·have e:p=(D,{cls:=.type "list",data:=.seq its.toArray n}):=by
   have hp':p∈[]++[(D,({cls:=.type "list",data:=.seq its.toArray n}:Obj))]:=hp;simpa using hp'
  subst e;refine⟨hacc,I.hok.fresh hD,hDC,λhb=>?_,λv z=>?_⟩
  ·rcases mem_cons.mp (I.stkSub D hb)with z|z
   ·exact absurd (N8 I.lt hD) (by rw[z];exact Oh _)
   ·exact I.nofs hD z
  ·have z':Data.seq its.toArray n=Data.cell v:=z;cases z'
 ·show(d4 ks Y).length=X.N.length;rw[hZ];exact I.len
theorem HOk.adopt (x:HOk P w H h) (hn:H a=none) (new:ObjOk P w (upd H a o) h a o):HOk P w (upd H a o) h:=λb u q=>by
 by_cases hb:b=a
 ·subst hb;rw[ai]at q;cases q;exact new
 ·rw[ag hb]at q;refine(x b u q).stay (λ_ _ _ z=>z) (λc z=>?_) λc xs z=>?_
  ·rw[ag (au z hn)];exact z
  ·rw[ag (au z hn)];exact z
theorem BY {Y':St} (I:Inv X pins Y H s) (J:Inv (!11) pl Y' H' s') (hf:∀b∈fp,gG X pins H b) (hD:s.heap.objs.size<=D) (hDn:H' D=none) (hacc:s'.heap.get? D=some {cls:=.type "list",data:=.seq its.toArray n}) (r:Vals ys its) (hz:ys.length<=sizeLine):Inv X pins Y (upd H' D (.lst ys)) s':=by
 have B:=J.base;have ne:∀b o,s.heap.get? b=some o->b≠D:=λb o e=>Ob (N8 (N1 e) hD);refine I.call' J.os ⟨B.keep,B.slot,λb o e q hx=>?_,B.there,λb xs q=>?_,λb o u q=>?_,λb ps q=>?_⟩ (J.hok.adopt hDn ⟨hz,its,n,r,hacc⟩) J.bare λb hb=>?_
 ·rw[ag (ne b o e)];exact B.free b o e q hx
 ·have z:=B.tups b xs q;rw[ag (au z hDn)];exact z
 ·have z:=B.frzs b o u q;rw[ag (au z hDn)];exact z
 ·obtain⟨more,z⟩:=B.tbls b ps q;exact⟨more,by rw[ag (au z hDn)];exact z⟩
 ·obtain⟨_,f1,_,f3,f4,f5⟩:=hf b hb;exact⟨f3,f1,f4,f5⟩
end
def PTs (X:Cx) (ifs:NT) (t:TT):Prop:=
 ∀ (pins:NG) (s:Shared) (Y:St) (H:Hp) (Q:Bool->Hp->Prop),Inv X pins Y H s->t Y H Q->
  wpAny (!3) X.A (forIn ifs true λc r=>if r=true then do let ok<-isTrue c X.env (eval c X.env);pure (ForInStep.yield ok)else pure (ForInStep.yield r)) (TP X pins Y Q) X.xe s
def LV:TT:=λ_ H Q=>Q true H
theorem pts_nil:PTs X [] LV:=λ_ _ _ H _ I h=>wpAny_tests_nil ⟨H,I,h⟩
theorem BZ (h:PT X c t):PTs X [c] t:=λpins s Y H Q I q=>wpAny_tests_one (h pins s Y H Q I q)
section
variable {prog:Program} {w:World} {A:Around} {R:Result->Shared->Prop} {s:Shared}
theorem tm (I:Nat->Shared->Prop) (turn:∀n s,I n s->wpAny (!2) A (pyNext it) (λr s1=>match r with
   |none=>R (.ok .next) s1
   |some v=>wpAny (!2) A (letOwnedTupleGo tg it v) (λ_ s2=>wpAny (!2) A (assign tg env v) (λ_ s3=>
    wpAny (!2) A (forIn ifs true λc r=>if r=true then do let ok<-isTrue c env (eval c env);pure (ForInStep.yield ok)else pure (ForInStep.yield r)) (λok s4=>
     if ok=true then wpAny (!2) A (eval elt env) (λx s5=>wpAny (!2) A (call (.builtin "list.append") [acc,x]) (λ_ s6=>∃m,m<n/\I m s6) (λ_ _=>False) s5) (λ_ _=>False) s4
     else∃m,m<n/\I m s4) (λ_ _=>False) s3) (λ_ _=>False) s2) (λ_ _=>False) s1) (λ_ _=>False) s) (n:Nat) (h:I n s):codeAny (!2) A (.compLoop (.ListComp elt [⟨tg,iter,ifs,0⟩] scope pos) 0 it acc env) R s:=by
 refine codeAny_loop rfl I (λk s' hI=>?_) n h
 show wpAny _ A ((compTurn (.ListComp elt [⟨tg,iter,ifs,0⟩] scope pos) 0 it acc env).onRaise (λx=>do noteFrame x env;theTreesLotGoes x)) _ _ s'
 refine wpAny_noted ?_
 rw[compTurn_list]
 refine NW (wpAny_standAt (NW (On (turn k s' hI) (λr s1 h1=>?_) λ_ _ z=>z.elim)))
 cases r with
 |none=>exact NY h1
 |some v=>
  refine NW (On h1 (λ_ s2 h2=>?_) λ_ _ z=>z.elim);refine NW (On h2 (λ_ s3 h3=>?_) λ_ _ z=>z.elim);refine NW (On h3 (λok s4 h4=>?_) λ_ _ z=>z.elim);cases ok with
  |false=>exact NY ⟨rfl,h4⟩
  |true=>
   refine NW (NW (On h4 (λx s5 h5=>?_) λ_ _ z=>z.elim));exact NW (On h5 (λ_ s6 h6=>NY (NY ⟨rfl,h6⟩)) λ_ _ z=>z.elim)
end
def LW (Y Y':St):Prop:=Y'.length=Y.length/\∀ (i:Nat) (v:V),Y[i]?=some (some v)->Y'[i]?=some (some v)
def Et (J:It) (ks:NO) (g:TG) (tt:TT) (te:TE) (Y:St) (Fin:List V->Hp->Prop) (W:Nat->Nat->List V->Hp->Prop):Prop:=∀i m ys H2,W i m ys H2->
 (J.stop i H2/\ys.length<=sizeLine/\Fin ys H2)\/
 (J.go i H2/\ys.length<sizeLine/\∀x H3,J.yld i H2 x H3->g x (d4 ks Y) H3 λY4 H4=>LW (d4 ks Y) Y4/\tt Y4 H4 λc H5=>
  if c=true then te Y4 H5 λy H6=>∃m',m'<m/\W (i+1) m' (ys++[y]) H6 else∃m',m'<m/\W (i+1) m' ys H5)
def qK (wi:TI) (ks:NO) (g:TG) (tt:TT) (te:TE):TE:=λY H Q=>wi Y H λJ H1=>∃W:Nat->Nat->List V->Hp->Prop,(∃m,W 0 m [] H1)/\
 Et J ks g tt te Y (λys H2=>∀p,H2 p=none->Q (.ref p) (upd H2 p (.lst ys))) W
section
variable {X:Cx} {scope:Scope} {ks:NO} {tg elt iter:Expr} {ifs:NT} {g:TG} {tt:TT} {te:TE} {pos:Pos}
theorem ly {Y:St} {RR:Value->Addr->Result->Shared->Prop} {Fin} (hc:X.calm=true) (S:CSc X scope ks) (I2:Inv X pins Y H2 s2) (T:Turn X.prog X.w X.K tg J fp it tn) (st:tn 0 s2.heap) (f2:∀b∈fp,gG X pins H2 b) (hg:∀C s H,PG (!11) tg g) (htt:∀C s H,PTs (!11) ifs tt) (he:∀C s H,PE (!11) elt te) (w0:∃m,W 0 m [] H2) (turn:Et J ks g tt te Y Fin W) (hR:∀D C H3 s3 m ys,Inv X pins Y (upd H3 D (.lst ys)) s3->H3 D=none->upd H3 D (.lst ys) C=none->C≠X.env.locals->s2.heap.objs.size<=C->s3.heap.Ns C m->Fin ys H3->RR (.ref D) C (.ok .next) s3):
  wpAny (!3) X.A (newList []) (λacc s₃=>wpAny (!3) X.A (newFunctionEnv scope X.env.globals (oR X.env scope) [] X.env.qual none .none (some X.env)) (λcenv s₄=>
   codeAny (!3) X.A (.compStart (.ListComp elt [⟨tg,iter,ifs,0⟩] scope pos) 0 (.ref it) acc {cenv with scope:=relabel scope X.env}) (RR acc cenv.locals) s₄) E s₃) E s2:=by
 have hlt:∀b∈fp,b<s2.heap.objs.size:=λb hb=>by
  obtain⟨o,e,_⟩:=T.obj _ _ st b hb
  exact N1 e
 refine wpAny_newObj_type (wpAny_newFunctionEnv S.nocell (by intro y hy;simp at hy) (λh₁ hns₁ hsb₁=>?_) S.kind)
 generalize hH2:s2.heap.push {cls:=.type "list",dict:=none,data:=.seq ([]:NK).toArray}=G at hns₁ hsb₁⊢
 have hCe:G.objs.size=s2.heap.objs.size+1:=by rw[<-hH2,Heap.size_push]
 have hDC:s2.heap.objs.size≠G.objs.size:=by rw[hCe];exact Ob (Nat.lt_succ_self _)
 have hC:s2.heap.objs.size<=G.objs.size:=by rw[hCe];exact Nat.le_succ _
 have old:∀b o,s2.heap.get? b=some o->h₁.get? b=some o:=λb o e=>
  hsb₁.extBut b o (Ob (N8 (N1 e) hC)) (NX _ (hH2▸NX _ e))
 have hacc:h₁.get? s2.heap.objs.size=some {cls:=.type "list",data:=.seq ([]:NK).toArray 0}:=hsb₁.extBut _ _ hDC (NX _ (hH2▸N2 _ rfl))
 generalize hDn:s2.heap.objs.size=D at*
 generalize hCn:G.objs.size=C at*
 have st₁:=T.keep _ _ _ st λb hb o e=>old b o e
 let σ:=cxC X scope C s2 H2 fp
 have fpY:∀ {pl:NG} {H':Hp},(∀b∈fp,H' b=none)->(∀p∈pl,D<=p.1)->∀b∈fp,gG σ pl H' b:=λ{pl H'} hn hp b hb=>by
  refine⟨hn b hb,Ob (N8 (hlt b hb) hC),λz=>?_,.inl hb,((tj I2 S f2 (hDn▸hlt) (hDn▸hC)).exf b hb).2,λp hq=>?_⟩
  ·exact(tj I2 S f2 (hDn▸hlt) (hDn▸hC)).exfs b hb z
  ·have hq':p∈[]++pl:=hq
   have:=hp p (by simpa using hq')
   exact Nat.ne_of_gt (N8 (hlt b hb) this)
 have loop:∀tk,codeAny (!3) X.A (.compLoop (.ListComp elt [⟨tg,iter,ifs,0⟩] scope pos) 0 (.ref it) (.ref D) (compEnvC scope (oR X.env scope) C X.env)) (RR (.ref D) C) {s2 with heap:=h₁,toks:=tk}:=λtk=>by
  obtain⟨m0,w0⟩:=w0
  refine tm (λn s'=>∃i ys its cap H',Inv σ [(D,{cls:=.type "list",data:=.seq (List.toArray its) cap})] _ H' s'/\Vals ys its/\tn i s'.heap/\(∀b∈fp,H' b=none)/\W i n ys H') ?_ m0
   ⟨0,[],[],0,H2,wC I2 S f2 (hDn▸hlt) (hDn▸Om _) (hDn▸hC) hDC old hns₁ hacc,.nil,st₁,λb hb=>(f2 b hb).1,w0⟩
  rintro n s3 ⟨i,ys,its,cap,H3,I3,rv,st3,fr3,w3⟩
  have pinD:∀p∈[(D,({cls:=.type "list",data:=.seq _ cap}:Obj))],D<=p.1:=λp hp=>by
   have e:p=(D,{cls:=.type "list",data:=.seq (List.toArray its) cap}):=by simpa using hp
   rw[e];exact Om _
  rcases turn i n ys H3 w3 with⟨stop,hz,fin⟩|⟨go,hz,step⟩
  ·refine thn (T.done σ rfl rfl rfl hc i _ s3 _ H3 (λ_ _=>False) I3 (fpY fr3 pinD) st3 stop) λr s4 ⟨hr,I4⟩=>?_
   subst hr
   have hD4:=I4.pin (D,{cls:=.type "list",data:=.seq _ cap}) (Og _ N5)
   obtain⟨m4,hn4,_⟩:=I4.loc
   have JX:=BY I2 I4 f2 (Nat.le_of_eq hDn) hD4.2.1 hD4.1 rv hz
   exact hR D C H3 s4 m4 ys JX hD4.2.1 (by rw[ag (Ne.symm hDC)];exact I4.free) (Nat.ne_of_gt (N8 I2.lt (hDn▸hC))) hC hn4 fin
  ·refine thn (T.item σ rfl rfl rfl hc i _ s3 _ H3 (λ_ _=>False) I3 (fpY fr3 pinD) st3 go) λr s4 ⟨u,hr,h4⟩=>?_
   subst hr
   refine thn h4 λ_ s5 ⟨x,H5,I5,r5,y5,st5,fr5⟩=>?_
   have I5':=I5.pinned (fpY fr5 pinD) (T.obj _ _ st5)
   refine thn (hg C s2 H2 _ s5 _ H5 x u _ I5' r5 (step x H5 y5)) λ_ s6 ⟨Y6,H6,I6,kp,q6⟩=>?_
   refine thn (htt C s2 H2 _ s6 Y6 H6 _ I6 q6) λok s7 ⟨H7,I7,q7⟩=>?_
   -- the iterator's own objects stand
   have stay:∀ {H':Hp} {s':Shared},Inv σ ([(D,({cls:=.type "list",data:=.seq (List.toArray its) cap}:Obj))]++k9 fp s5.heap) Y6 H' s'->tn (i+1) s'.heap/\∀b∈fp,H' b=none:=λ{H' s'} I'=>by
    refine⟨T.keep _ _ _ st5 λb hb o e=>(I'.pin (b,o) (Og _ (Og _ (eE hb e)))).1,λb hb=>?_⟩
    obtain⟨o,e,_⟩:=T.obj _ _ st5 b hb
    exact(I'.pin (b,o) (Og _ (Og _ (eE hb e)))).2.1
   cases ok with
   |false=>
    obtain⟨m',hm,w7⟩:=q7
    obtain⟨t7,n7⟩:=stay I7
    exact⟨m',hm,i+1,ys,its,cap,H7,I7.unpinned.weak kp.1.symm kp.2,rv,t7,n7,w7⟩
   |true=>
    refine thn (he C s2 H2 _ s7 Y6 H7 _ I7 q7) λy s8 ⟨yv,H8,I8,r8,m',hm,w8⟩=>?_
    obtain⟨t8,n8⟩:=stay I8
    have hD8:=I8.pin (D,{cls:=.type "list",data:=.seq _ cap}) (Og _ (Of _ N5))
    have hlen:=rv.length
    refine append_at hD8.1 (λh9 sb hD9=>?_) (by rw[size_toArray];omega)
    have I9:Inv σ [] Y6 H8 {s8 with heap:=h9,toks:=s8.toks}:=Inv.turned (I8.pins_of λp hp=>nomatch hp) (λb o hb e=>sb.extBut b o hb e) hD8.2.1 hD8.2.2.1 (.inr (Nat.le_of_eq hDn))
     (λx c e z=>by
      obtain⟨v,q⟩:=I8.cell x c e
      obtain⟨o,ho,hd⟩:=q
      rw[z,hD8.1]at ho
      cases ho
      exact hD8.2.2.2.2 v hd) (λp hp=>nomatch(hp))
    have e9:h9.get? D=some {cls:=.type "list",data:=.seq (List.toArray (its++[y])) (cap+1)}:=by
     rw[hD9];simp
    have I10:Inv σ [(D,{cls:=.type "list",data:=.seq (List.toArray _) _})] Y6 H8 {s8 with heap:=h9,toks:=s8.toks}:=I9.pins_of λp hp=>by
     have e:p=(D,{cls:=.type "list",data:=.seq (List.toArray (its++[y])) (cap+1)}):=by simpa using hp
     subst e
     exact⟨e9,hD8.2.1,hD8.2.2.1,hD8.2.2.2.1,λv z=>by
      have z':=z
      cases z'⟩
    refine⟨m',hm,i+1,ys++[yv],its++[y],cap+1,H8,I10.weak kp.1.symm kp.2,rv.append (.cons r8 .nil),T.keep _ _ _ t8 λb hb o e=>sb.extBut b o (Ob (hlt b hb)) e,n8,w8⟩
 exact codeAny_compStart_list (loop _) (T.self _ 0 _ _ _ st₁ (loop _))
theorem B0 (hc:X.calm=true) (S:CSc X scope ks) (hi:PI X tg iter wi) (hg:∀C s H fp,PG (!11) tg g) (htt:∀C s H fp,PTs (!11) ifs tt) (he:∀C s H fp,PE (!11) elt te) (hs:∀x,foldedSetIterable iter X.env x=pure x:=by intro _;rfl):PE X (.ListComp elt [⟨tg,iter,ifs,0⟩] scope pos) (qK wi ks g tt te):=by
 intro pins s Y H Q I h;refine wpAny_comprehension_free rfl hs (lr (I.cells_of S)) S.kind S.names (thn (hi pins s Y H _ I h) λv s1 h1=>thn h1 λitv s2 h2=>?_);obtain⟨it,fp,tn,J,H2,e,I2,T,st2,f2,W,w0,turn⟩:=h2;subst e;refine ly hc S I2 T st2 f2 (λC s H=>hg C s H fp) (λC s H=>htt C s H fp) (λC s H=>he C s H fp) w0 turn ?_;intro D C H3 s3 m ys I3 hD hC hCL hCz hns fin;refine⟨m,hns,λh' sb=>?_⟩;refine⟨.ref D,upd H3 D _,?_,rfl,fin D hD⟩;exact I3.turned (λb o hb e=>sb.extBut b o hb e) hC hCL (.inr (Oa I2.sz hCz)) (λx c e z=>by
  obtain⟨v,o,ho,hd⟩:=I2.cell x c e;exact absurd (N8 (N1 ho) hCz) (by rw[z];exact Oh _)) λp hp z=>absurd (N8 (N1 (I2.pin p hp).1) hCz) (by rw[z];exact Oh _)
theorem B3 (hN:X.N.Nodup) (hx:X.N[i]?=some x) (hl:X.env.scope.names.lookup x=some .local) (hc:X.calm=true) (S:CSc X scope ks) (hi:PI X tg iter wi) (hg:∀C s H fp,PG (!11) tg g) (htt:∀C s H fp,PTs (!11) ifs tt) (he:∀C s H fp,PE (!11) elt te) (hsw:swapsWith (.ListComp elt [⟨tg,iter,ifs,0⟩] scope pos) (some (!17)) spos.line X.env=pure true) (hs:∀x,foldedSetIterable iter X.env x=pure x:=by intro _;rfl):PS X (.Assign [.Name x px] (.ListComp elt [⟨tg,iter,ifs,0⟩] scope pos) spos) (xS (qK wi ks g tt te) (qD i)):=by
 intro pins s Y H Q I h;rw[exec_Assign_Name_used _ _ _ _ hsw];refine NW (wpAny_standAt (NW ?_));refine NW (On (wpAny_comprehension_free rfl hs (lr (I.cells_of S)) S.kind S.names
  (thn (hi pins s Y H _ I h) λv s1 h1=>thn h1 λitv s2 h2=>?_)) (λ_ s' hq=>NY (NY hq)) λ_ _ e=>e)
 obtain⟨it,fp,tn,J,H2,e,I2,T,st2,f2,W,w0,turn⟩:=h2;subst e;refine ly hc S I2 T st2 f2 (λC s H=>hg C s H fp) (λC s H=>htt C s H fp) (λC s H=>he C s H fp) w0 turn ?_;intro D C H3 s3 m ys I3 hD hC hCL hCz hns fin;refine wpAny_assign_Name (nH (v:=.ref D) I3 hN hx (.inl hl) rfl (λs4 I4 ⟨a,sb,ha⟩=>?_) (.inr hl));have hCa:C≠a:=by
  rcases ha with z|z
  ·rw[z];exact hCL
  ·intro q;obtain⟨v,o,ho,hd⟩:=I2.cell x a z;exact absurd (N8 (N1 ho) hCz) (by rw[q];exact Oh _)
 refine⟨m,hns.sameBut sb hCa,λh' sb'=>?_⟩;refine⟨Y.set i (some _),upd H3 D _,?_,fin D hD⟩;exact I4.turned (λb o hb e=>sb'.extBut b o hb e) hC hCL (.inr (Oa I2.sz hCz)) (λx c e z=>by
   obtain⟨v,o,ho,hd⟩:=I2.cell x c e;exact absurd (N8 (N1 ho) hCz) (by rw[z];exact Oh _)) λp hp z=>absurd (N8 (N1 (I2.pin p hp).1) hCz) (by rw[z];exact Oh _)
end
section
variable {κ:Type} [DecidableEq κ]
noncomputable def gJ (kvs:List (κ×V)) (k:κ):Option V:=(kvs.find? λkv=>decide (kv.1=k)).map (·.2)
noncomputable def eY (kvs:List (κ×V)) (k:κ) (v:V):List (κ×V):=
 if(kvs.any λkv=>decide (kv.1=k))=true then kvs.map (λkv=>if kv.1=k then(kv.1,v)else kv)else kvs++[(k,v)]
theorem lz {k:κ} (e:p.1=k):gJ (p::r) k=some p.2:=by simp[gJ,List.find?_cons,e]
theorem lA {k:κ} (e:¬p.1=k):gJ (p::r) k=gJ r k:=by simp[gJ,List.find?_cons,e]
theorem yx (k:κ):∀kvs:List (κ×V),(kvs.any λkv=>decide (kv.1=k))=(gJ kvs k).isSome:=by grind [gJ]
theorem jN (kvs:List (κ×V)) (k:κ) (v:V):(eY kvs k v).length<=kvs.length+1:=by grind [eY]
theorem RelO.isSome_eq (r:RelO o u):o.isSome=u.isSome:=by
 cases o with
 |none=>cases u with
  |none=>rfl
  |some _=>exact(r).elim
 |some _=>cases u with
  |none=>exact(r).elim
  |some _=>rfl
theorem KV.val (r:KV kvs vs) (k:κ):RelO (gJ kvs k) (valueAt vs k):=by
 induction r with
 |nil=>exact True.intro
 |@cons p q ps qs h t ih=>
  obtain⟨h1,h2⟩:=h;by_cases e:p.1=k
  ·have e':q.1=k:=h1.symm.trans e;have b:valueAt (q::qs) k=some q.2:=by simp[valueAt,List.find?_cons,e']
   rw[lz e,b];exact h2
  ·have e':¬q.1=k:=λz=>e (h1.trans z);have b:valueAt (q::qs) k=valueAt qs k:=by simp[valueAt,List.find?_cons,e']
   rw[lA e,b];exact ih
theorem KV.any (r:KV kvs vs) (k:κ):(kvs.any λkv=>decide (kv.1=k))=vs.any λkv=>decide (kv.1=k):=by
 induction r with
 |nil=>rfl
 |cons h t ih=>rw[List.any_cons,List.any_cons,ih,h.1]
theorem KV.repl (r:KV kvs vs) (k:κ) (ry:RelV y u):
  KV (kvs.map λkv=>if kv.1=k then(kv.1,y)else kv) (vs.map λkv=>if kv.1=k then(kv.1,u)else kv):=by
 induction r with
 |nil=>exact .nil
 |@cons p q ps qs h t ih=>
  rw[List.map_cons,List.map_cons];refine .cons ?_ ih;obtain⟨h1,h2⟩:=h;by_cases e:p.1=k
  ·rw[if_pos e,if_pos (h1.symm.trans e)];exact⟨h1,ry⟩
  ·rw[if_neg e,if_neg (λz=>e (h1.trans z))];exact⟨h1,h2⟩
theorem KV.put (r:KV kvs vs) (k:κ) (ry:RelV y u):KV (eY kvs k y) (stored vs k u):=by
 unfold eY stored;rw[r.any];by_cases e:(vs.any λkv=>decide (kv.1=k))=true
 ·rw[if_pos e,if_pos e];exact r.repl k ry
 ·rw[if_neg e,if_neg e];exact Paired.snoc r ⟨rfl,ry⟩
theorem KV.length {vs:List (κ×Value)} (r:KV kvs vs):kvs.length=vs.length:=Paired.length r
end
theorem qL (r:RelV (kV k) u):(aP P w).is k u=true:=by
 cases k with
 |inl i=>obtain⟨t,e⟩:=(r);subst e;exact qz P w i t
 |inr x=>obtain⟨t,e⟩:=(r);subst e;exact qA P w x t
theorem nQ:∀ {ks:List Key} {us:NK},Vals (ks.map kV) us->ItemsAre (aP P w) ks us
 |[],_,r=>by rw[List.map_nil]at r;cases r;exact .nil
 |k::ks,_,r=>by
  rw[List.map_cons]at r;cases r with
  |cons h t=>exact .cons (qL h) (nQ t)
abbrev KT (H:Hp):List (List Key×V)->List (List Key×Addr×Value)->Prop:=Paired λp q=>p.1=q.1/\H q.2.1=some (.tup (p.1.map kV))/\RelV p.2 q.2.2
theorem KT.val (r:KT H kvs xs) (k:List Key):RelO (gJ kvs k) ((atKey xs k).map (·.2)):=by
 induction r with
 |nil=>exact True.intro
 |@cons p q ps qs h t ih=>
  obtain⟨h1,_,h2⟩:=h;by_cases e:p.1=k
  ·have e':q.1=k:=h1.symm.trans e;have b:atKey (q::qs) k=some q.2:=by simp[atKey,List.find?_cons,e']
   rw[lz e,b];exact h2
  ·have e':¬q.1=k:=λz=>e (h1.trans z);have b:atKey (q::qs) k=atKey qs k:=by simp[atKey,List.find?_cons,e']
   rw[lA e,b];exact ih
section
variable {P:Program} {w:World} {H:Hp} {h:Heap} {a:Addr}
theorem Eu (ok:HOk P w H h) (e:Rd H a u):ObjOk P w H h a u:=e.ok ok
theorem uU (ok:HOk P w H h) (e:Rd H a (.dK kvs)):kvs.length<=sizeLine/\(a==sysModules)=false/\∃vs,KV kvs vs/\h.DictOf (aP P w) a vs:=
 show ObjOk P w H h a (.dK kvs)from Eu ok e
theorem Ew (ok:HOk P w H h) (e:H a=some (.dK kvs)):kvs.length<=sizeLine/\(a==sysModules)=false/\∃vs,KV kvs vs/\h.DictOf (aP P w) a vs:=uU ok (.inl e)
theorem yy (ok:HOk P w H h) (e:H a=some (.tup (ks.map kV))):(tupleKind (aP P w)).is h ks a:=by
 obtain⟨_,its,r,o,h1,h2,n,h3⟩:=(ok a _ e);exact⟨o,its.toArray,n,h1,h2,h3,by simpa using nQ r⟩
theorem Jm (ok:HOk P w H h) (e:Rd H a (.dT kvs)):kvs.length<=sizeLine/\(a==sysModules)=false/\
  ∃xs,KT H kvs xs/\h.DictOfH (tupleKind (aP P w)) a xs:=by
 obtain⟨z,y,xs,r,o,es,ep,h1,h2,h3,h4,h5⟩:=(Eu ok e)
 refine⟨z,y,xs,r,o,es,ep,h1,h2,h3,h4,λx hx=>?_,h5⟩
 have all:∀ {l:List (List Key×V)} {m:List (List Key×Addr×Value)},KT H l m->∀x∈m,(tupleKind (aP P w)).is h x.1 x.2.1:=by
  intro l m q;induction q with
  |nil=>intro x hx;exact nomatch hx
  |@cons p q ps qs hq t ih=>
   intro x hx;rcases mem_cons.mp hx with e|hx
   ·subst e;exact yy ok (by rw[<-hq.1];exact hq.2.1)
   ·exact ih x hx
 exact all r x hx
end
def LX (H:Hp) (a:Addr) (y:V) (r:Option V):Prop:=
 (∃kvs k,Rd H a (.dK kvs)/\y=kV k/\r=gJ kvs k)\/∃kvs k b,Rd H a (.dT kvs)/\y=.ref b/\H b=some (.tup (k.map kV))/\r=gJ kvs k
section
variable {X:Cx} {pins:NG} {Y:St} {H:Hp} {s:Shared} {a:Addr} {y v:V} {u r:Value} {o:Option V} {A:Around} {E:NJ}
theorem Inv.big (I:Inv X pins Y H s):sysModules<s.heap.objs.size:=by
 have h:=(I.mod.glob.keeps I.bk).lt;exact Nat.lt_trans (!4) h
theorem LY (hu:A.units+1<cLine) (I:Inv X pins Y H s) (g:LX H a y o) (ry:RelV y u) (h:∀s',Inv X pins Y H s'->Q (.bool o.isSome) s'):
  wpAny (!3) A (compareOp .In u (.ref a)) Q E s:=by
 rcases g with⟨kvs,k,e,ey,l⟩|⟨kvs,k,b,e,ey,eb,l⟩
 ·subst ey;obtain⟨z,hd,vs,rel,dd⟩:=uU I.hok e;refine wpAny_in_of (qL ry) hd dd.mapOf ?_;rw[<- (rel.val k).isSome_eq,<-l];exact h _ (I.tok _)
 ·subst ey;cases(ry);obtain⟨z,hd,xs,rel,dd⟩:=Jm I.hok e;refine wpAny_in_heap (tupleKind_room_in1 hu) (yy I.hok eb) hd dd ?_;have q:=(rel.val k).isSome_eq;rw[Option.isSome_map]at q;rw[<-q,<-l];exact h _ (I.tok _)
theorem uV (I:Inv X pins Y H s) (mu:Mut (H a)) (hs:Heap.SameBut a s.heap h') (he:∃q,h'.get? a=some q) (new:ObjOk X.prog X.w (upd H a ob) h' a ob):
  Inv X pins Y (upd H a ob) {s with heap:=h',toks:=t'}:=
 I.write mu (.inl rfl) (λb q hb z=>(hs.2 b hb).trans z) he new
theorem yz (z:kvs.length<=sizeLine) (hd:(a==sysModules)=false) (rel:KV kvs vs) (dd:h'.DictOf (aP P w) a vs):
 ObjOk P w H' h' a (.dK kvs):=⟨z,hd,vs,rel,dd⟩
end
section
variable {X:Cx} {pins:NG} {Y:St} {H:Hp} {s:Shared} {a:Addr} {kvs:List (Key×V)} {k:Key} {u:Value} {A:Around} {E:NJ}
end
section
variable {X:Cx} {o i e value:Expr} {pos pos' tpos:Pos} {td ty tv:TE}
end
theorem qM (h:Heap) (hb:sysModules<h.objs.size):ObjOk P w H (h.push {cls:=.type "dict",data:=.dict #[]}) h.objs.size (.dK []):=
 ⟨Nat.zero_le _,beq_eq_false_iff_ne.mpr (Ne.symm (Ob hb)),[],.nil,Heap.DictOf.new h⟩
def FK:TE:=λ_ H Q=>∀p,H p=none->Q (.ref p) (upd H p (.dK []))
section
variable {X:Cx} {pos:Pos}
theorem pe_dnewK:PE X (.Dict [] [] pos) FK:=λpins s Y H Q I h=>
 wpAny_Dict_empty ⟨.ref s.heap.objs.size,_,I.laid (λ_ _ q=>NX _ q) (Om _) (qM s.heap I.big),rfl,h _ (I.hok.fresh (Om _))⟩
end
section
variable {X:Cx}
end
def tq:List (TE×TE)->St->Hp->(List (V×V)->Hp->Prop)->Prop
 |[],_,H,Q=>Q [] H
 |(tk,tv)::r,Y,H,Q=>tk Y H λx H1=>tv Y H1 λy H2=>tq r Y H2 λps H3=>Q ((x,y)::ps) H3
abbrev VV:List (V×V)->List (Value×Value)->Prop:=Paired λp q=>RelV p.1 q.1/\RelV p.2 q.2
def PPs (X:Cx) (pos:Pos) (keys:List (Option Expr)) (values:NT) (trs:List (TE×TE)):Prop:=
 ∀ (pins:NG) (s:Shared) (Y:St) (H:Hp) (Q:List (V×V)->Hp->Prop),Inv X pins Y H s->tq trs Y H Q->
  wpAny (!3) X.A (evalPairs (pairTrees keys values X.env pos)) (λvs s'=>∃ps H',Inv X pins Y H' s'/\VV ps vs/\Q ps H') X.xe s
theorem B4:PPs X pos [] [] []:=λpins s Y H Q I h=>pairTrees_nil_walk ⟨[],H,I,.nil,h⟩
theorem yA (hk:PE X k tk) (hv:PE X v tv) (hr:PPs X pos ks vs trs):
  PPs X pos (some k::ks) (v::vs) ((tk,tv)::trs):=λpins s Y H Q I h=>
 pairTrees_cons_walk (thn (hk pins s Y H _ I h) λu s1 ⟨x,H1,I1,rx,q1⟩=>thn (hv pins s1 Y H1 _ I1 q1) λw2 s2 ⟨y,H2,I2,ry,q2⟩=>
  thn (hr pins s2 Y H2 _ I2 q2) λws s3 ⟨ps,H3,I3,rel,q3⟩=>⟨(x,y)::ps,H3,I3,.cons ⟨rx,ry⟩ rel,q3⟩)
def lB (kvs more:List (Key×V)):List (Key×V):=more.foldl (λacc kv=>eY acc kv.1 kv.2) kvs
theorem KV.merge:∀ {more:List (Key×V)} {rs:List (Key×Value)} {kvs:List (Key×V)} {vs:List (Key×Value)},KV more rs->KV kvs vs->KV (lB kvs more) (merged vs rs):=by
 intro more rs kvs vs r;induction r generalizing kvs vs with
 |nil=>intro q;exact q
 |@cons p q ps qs h t ih=>
  intro r0;have e:KV (eY kvs p.1 p.2) (stored vs q.1 q.2):=by
   have:=r0.put p.1 h.2;rw[<-h.1];exact this
  exact ih e
theorem gt:∀ (more kvs:List (Key×V)),(lB kvs more).length<=kvs.length+more.length
 |[],kvs=>by show kvs.length<=kvs.length+0;omega
 |p::r,kvs=>by
  have h1:=gt r (eY kvs p.1 p.2);have h2:=jN kvs p.1 p.2;show(lB (eY kvs p.1 p.2) r).length<=_;rw[length_cons];omega
theorem lC:∀ {kvs:List (Key×V)} {ws:List (Value×Value)},VV (kvs.map λkv=>(kV kv.1,kv.2)) ws->∃rs,Carries (aP P w) ws rs/\KV kvs rs
 |[],_,r=>by rw[List.map_nil]at r;cases r;exact⟨[],True.intro,.nil⟩
 |p::kvs,_,r=>by
  rw[List.map_cons]at r;cases r with
  |@cons a b as bs h t=>
   obtain⟨rs,c,q⟩:=lC (P:=P) (w:=w) t;obtain⟨b1,b2⟩:=b;exact⟨(p.1,b2)::rs,⟨qL h.1,rfl,c⟩,.cons ⟨rfl,h.2⟩ q⟩
def Jn (trs:List (TE×TE)):TE:=λY H Q=>∀p,H p=none->tq trs Y (upd H p (.dK [])) λps H2=>H2 p=some (.dK [])/\∃kvs:List (Key×V),ps=kvs.map (λkv=>(kV kv.1,kv.2))/\kvs.length<=15/\Q (.ref p) (upd H2 p (.dK (lB [] kvs)))
theorem B5 (h:PPs X pos keys values trs) (hall:keys.all (·.isSome)=true) (hl:keys.length=values.length) (h0:keys≠[]) (h15:keys.length<=15):PE X (.Dict keys values pos) (Jn trs):=by
 intro pins s Y H Q I q;have hn:=I.hok.fresh (Om s.heap.objs.size);have I1:=I.laid (t':=s.toks) (λ_ _ q=>NX _ q) (Om _) (qM s.heap I.big);refine wpAny_Dict_walk (knd:=aP X.prog X.w) hall hl h0 h15 (thn (h pins _ Y _ _ I1 (q _ hn)) λws s2 ⟨ps,H2,I2,rel,e,kvs,ep,lk,q2⟩=>?_);subst ep;obtain⟨rs,c,rk⟩:=lC rel;obtain⟨z,hd,vs0,r0,dd⟩:=Ew I2.hok e;cases r0;refine⟨rs,c,dd,λh' dd' hs=>⟨.ref s.heap.objs.size,_,?_,rfl,q2⟩⟩;have hz:(lB [] kvs).length<=sizeLine:=by
  have h1:=gt kvs [];rw[List.length_nil]at h1;rw[sizeLine_eq];omega
 have he:∃q,h'.get? s.heap.objs.size=some q:=let⟨q,_,_,hq,_⟩:=dd';⟨q,hq⟩;exact uV I2 (by rw[e];exact True.intro) hs he (yz hz hd (rk.merge .nil) dd')
end L2
namespace HT
open PySem PySem.Spec PyProof.Rows
section
open PySem.SeqAt
open PySem.AutoSeq1 (wpAny_loadPart')
open PySem.MeetsSeq PySem.MeetsSeq2 PySem.MeetsSeq3
end
section
variable {prog:Program} {w:World} {A:Around} {E:NJ} {s:Shared}
end
end HT
namespace L2
open PySem PySem.Spec PyProof.Rows
section
variable {X:Cx}
end
inductive D where
 |non
 |bl (b:Bool)
 |int (i:Int)
 |str (x:Str)
 |ty (n:String)
 |adr (a:Addr)
 |tup (ds:List D)
 |lst (ds:List D)
 |obj (C:Str) (ns:NP) (ds:List D)
 |dct (ks:List Key) (ds:List D)
abbrev _root_.NU:=Option D
abbrev _root_.NS:=List D
abbrev _root_.NI:=Option (List D)
mutual
def Is (K:Frag) (H:Hp):D->V->Prop
 |.non,v=>v=.non
 |.bl b,v=>v=.bl b
 |.int i,v=>v=.int i
 |.str x,v=>v=.str x
 |.ty n,v=>v=.ty n
 |.adr a,v=>v=.ref a
 |.tup ds,v=>∃a xs,v=.ref a/\SqT K H a xs/\IsL K H ds xs
 |.lst ds,v=>∃a xs,v=.ref a/\SqL K H a xs/\IsL K H ds xs
 |.obj C ns ds,v=>∃a Ca dx fs,v=.ref a/\nsIn K mainGlobals C=some (!24)/\H a=some (.ins Ca dx fs)/\fs.map (·.1)=ns/\IsL K H ds (fs.map (·.2))
 |.dct ks ds,v=>∃a kvs,v=.ref a/\Rd H a (.dK kvs)/\kvs.map (·.1)=ks/\IsL K H ds (kvs.map (·.2))
def IsL (K:Frag) (H:Hp):NS->List V->Prop
 |[],xs=>xs=[]
 |d::ds,xs=>∃x r,xs=x::r/\Is K H d x/\IsL K H ds r
end
theorem Same.seqT {K} (e:Same H H') (h:SqT K H a xs):SqT K H' a xs:=by
 rcases h with(h|⟨o,h⟩)|h
 ·exact .inl (.inl (e _ _ h))
 ·exact .inl (.inr ⟨o,e _ _ h⟩)
 ·exact .inr h
theorem Same.rd (e:Same H H') (h:Rd H a u):Rd H' a u:=by
 rcases h with h|⟨o,h⟩
 ·exact .inl (e _ _ h)
 ·exact .inr ⟨o,e _ _ h⟩
mutual
theorem Is.mono {K:Frag} {H H':Hp} (s:Same H H'):∀ (d:D) (v:V),Is K H d v->Is K H' d v
 |.non,_,h=>h
 |.bl _,_,h=>h
 |.int _,_,h=>h
 |.str _,_,h=>h
 |.ty _,_,h=>h
 |.adr _,_,h=>h
 |.tup ds,_,⟨a,xs,e,q,l⟩=>⟨a,xs,e,s.seqT q,IsL.mono s ds xs l⟩
 |.lst ds,_,⟨a,xs,e,q,l⟩=>⟨a,xs,e,s.seq q,IsL.mono s ds xs l⟩
 |.obj _ _ ds,_,⟨a,Ca,dx,fs,e,c,q,z,l⟩=>⟨a,Ca,dx,fs,e,c,s _ _ q,z,IsL.mono s ds _ l⟩
 |.dct _ ds,_,⟨a,kvs,e,q,z,l⟩=>⟨a,kvs,e,s.rd q,z,IsL.mono s ds _ l⟩
theorem IsL.mono {K:Frag} {H H':Hp} (s:Same H H'):∀ (ds:NS) (xs:List V),IsL K H ds xs->IsL K H' ds xs
 |[],_,h=>h
 |d::ds,_,⟨x,r,e,h,l⟩=>⟨x,r,e,Is.mono s d x h,IsL.mono s ds r l⟩
end
theorem IsL.paired {K}:∀ {ds:NS} {xs:List V},IsL K H ds xs->Paired (Is K H) ds xs
 |[],_,h=>by cases(show _=[]from h);exact .nil
 |_::_,_,⟨_,_,e,h,l⟩=>by cases e;exact .cons h (IsL.paired l)
theorem IsL.of {K}:∀ {ds:NS} {xs:List V},Paired (Is K H) ds xs->IsL K H ds xs
 |_,_,.nil=>rfl
 |_,_,.cons h l=>⟨_,_,rfl,h,IsL.of l⟩
theorem IsL.len {K} (h:IsL K H ds xs):ds.length=xs.length:=Paired.length h.paired
theorem lD:∀ {a c:List α} {b d:List β},Paired F a b->Paired F c d->Paired F (a++c) (b++d)
 |_,_,_,_,.nil,h=>h
 |_,_,_,_,.cons h l,q=>.cons h (lD l q)
theorem gK:∀ {a:List α} {b:List β} {i:Nat} {x:α},Paired F a b->a[i]?=some x->∃y,b[i]?=some y/\F x y
 |_,_,_,_,.nil,e=>by simp at e
 |_,_,0,_,.cons h _,e=>by simp at e;subst e;exact⟨_,rfl,h⟩
 |_,_,i+1,_,.cons _ l,e=>by
  obtain⟨y,h1,h2⟩:=gK (i:=i) l (by simpa using e);exact⟨y,by simpa using h1,h2⟩
theorem paired_get':∀ {a:List α} {b:List β} {i:Nat} {y:β},Paired F a b->b[i]?=some y->∃x,a[i]?=some x/\F x y
 |_,_,_,_,.nil,e=>by simp at e
 |_,_,0,_,.cons h _,e=>by simp at e;subst e;exact⟨_,rfl,h⟩
 |_,_,i+1,_,.cons _ l,e=>by
  obtain⟨y,h1,h2⟩:=paired_get' (i:=i) l (by simpa using e);exact⟨y,by simpa using h1,h2⟩
theorem lE {x:α} {y:β} (h:F x y):∀ {a:List α} {b:List β} (i:Nat),Paired F a b->Paired F (a.set i x) (b.set i y)
 |_,_,_,.nil=>.nil
 |_,_,0,.cons _ l=>.cons h l
 |_,_,i+1,.cons q l=>.cons q (lE h i l)
theorem jO:∀ {a:List α} {b:List β} (n:Nat),Paired F a b->Paired F (a.take n) (b.take n)
 |_,_,0,_=>.nil
 |_,_,_+1,.nil=>.nil
 |_,_,n+1,.cons h l=>.cons h (jO n l)
theorem jP:∀ {a:List α} {b:List β} (n:Nat),Paired F a b->Paired F (a.drop n) (b.drop n)
 |_,_,0,h=>h
 |_,_,_+1,.nil=>.nil
 |_,_,n+1,.cons _ l=>jP n l
theorem IsL.app {K} (h:IsL K H ds xs) (q:IsL K H es ys):IsL K H (ds++es) (xs++ys):=.of (lD h.paired q.paired)
theorem IsL.get {K} {i:Nat} (h:IsL K H ds xs) (e:ds[i]?=some d):∃x,xs[i]?=some x/\Is K H d x:=gK h.paired e
theorem IsL.get' {K} {i:Nat} (h:IsL K H ds xs) (e:xs[i]?=some x):∃d,ds[i]?=some d/\Is K H d x:=paired_get' h.paired e
noncomputable def msk (O:NR) (H:Hp):Hp:=λb=>if O b=true then none else H b
theorem aJ (h:msk O H b=some o):O b=false/\H b=some o:=by simp_all [Hp,msk]
theorem aE (h:O b=false):msk O H b=H b:=by unfold msk;rw[if_neg (by simp[h])]
theorem msk_le:Same (msk O H) H:=λ_ _ h=>(aJ h).2
theorem Same.msk (s:Same H H'):Same (msk O H) (msk O H'):=λb o h=>by
 obtain⟨h1,h2⟩:=aJ h;rw[aE h1];exact s b o h2
theorem ie (h:O a=true):msk O (upd H a o)=msk O H:=by
 funext b;unfold L2.msk;by_cases hb:b=a
 ·subst hb;rw[if_pos h,if_pos h]
 ·rw[ag hb]
theorem oS (h:O a=false):msk O (upd H a o)=upd (msk O H) a o:=by
 funext b;by_cases hb:b=a
 ·subst hb;rw[aE h,ai,ai]
 ·rw[ag hb];unfold L2.msk;rw[ag hb]
theorem Same.new (h:H a=none):Same H (upd H a o):=λb u q=>by rw[ag (au q h)];exact q
theorem Is.full {K} (h:Is K (msk O H) d v):Is K H d v:=Is.mono msk_le d v h
theorem IsL.full {K} (h:IsL K (msk O H) d v):IsL K H d v:=IsL.mono msk_le d v h
abbrev Vv:=List (Option D)
abbrev _root_.Fr:=Vv->Option Bool
abbrev _root_.wp:=Vv->Option D
abbrev _root_.qm:=Vv->Option (List D)
def Hid (o:Option HO):Prop:=(∃xs,o=some (.lst xs))\/(∃C dx fs,o=some (.ins C dx fs))\/∃kvs,o=some (.dK kvs)
theorem Hid.ne (h:Hid o):o≠none:=by grind [Hid]
theorem Hid.same (s:Same H H') (h:Hid (H b)):Hid (H' b):=by
 rcases h with⟨xs,e⟩|⟨C,dx,fs,e⟩|⟨kvs,e⟩
 ·exact .inl ⟨xs,s _ _ e⟩
 ·exact .inr (.inl ⟨C,dx,fs,s _ _ e⟩)
 ·exact .inr (.inr ⟨kvs,s _ _ e⟩)
structure VE (K:Frag) (O:NR) (Y:St) (H:Hp) (U:Vv):Prop where
 lis:∀b,O b=true->Hid (H b)
 len:Y.length=U.length
 sh:∀ (i:Nat) (d:D),U[i]?=some (some d)->∃v,Y[i]?=some (some v)/\Is K (msk O H) d v
section
variable {K:Frag} {O:NR} {Y:St} {H H':Hp} {U:Vv}
theorem VE.dom (E:VE K O Y H U):∀b,O b=true->H b≠none:=λb h=>(E.lis b h).ne
theorem VE.grow (E:VE K O Y H U) (s:Same H H'):VE K O Y H' U where
 lis:=λb h=>(E.lis b h).same s
 len:=E.len
 sh:=λi d h=>let⟨v,e,q⟩:=E.sh i d h;⟨v,e,Is.mono s.msk d v q⟩
theorem fq (hd:∀b,O b=true->H b≠none) (h:H p=none):O p=false:=by grind
theorem VE.fresh (E:VE K O Y H U) (h:H p=none):O p=false:=fq E.dom h
theorem get_set_some {α:Type} {l:List (Option α)} {x} {y} (h:(l.set i x)[j]?=some (some y)):(j=i/\x=some y)\/(j≠i/\l[j]?=some (some y)):=by grind
theorem nR {α:Type} {l:List (Option α)} {x} {y} (h:(l.set i x)[i]?=some y):i<l.length:=by grind
theorem VE.set (E:VE K O Y H U) {i:Nat} {d:D} {v:V} (h:Is K (msk O H) d v):VE K O (Y.set i (some v)) H (U.set i (some d)) where
 lis:=E.lis
 len:=by simpa using E.len
 sh:=λj d' q=>by
  rcases get_set_some q with⟨e,q'⟩|⟨e,q'⟩
  ·cases q';subst e;have hi:j<Y.length:=by rw[E.len];exact nR q
   exact⟨v,by simp[hi],h⟩
  ·obtain⟨v',e',q2⟩:=E.sh j d' q';exact⟨v',by rw[List.getElem?_set_ne (Ne.symm e)];exact e',q2⟩
theorem wipe_iff {Y} {v:α}:(d4 ks Y)[i]?=some (some v)↔Y[i]?=some (some v)/\i ∉ ks:=⟨lv ks Y i v,λh=>qJ ks Y i v h.1 h.2⟩
theorem VE.wiped (E:VE K O Y H U) (ks:NO):VE K O (d4 ks Y) H (d4 ks U) where
 lis:=E.lis
 len:=by rw[hZ,hZ];exact E.len
 sh:=λi d q=>by
  obtain⟨q1,q2⟩:=wipe_iff.mp q;obtain⟨v,e,r⟩:=E.sh i d q1;exact⟨v,wipe_iff.mpr ⟨e,q2⟩,r⟩
end
def tP (K:Frag) (O:NR) (U:Vv) (o:NU):TE:=λY H Q=>VE K O Y H U/\∃d,o=some d/\∀v H',Same H H'->Is K (msk O H') d v->Q v H'
def tPF (K:Frag) (O:NR) (U:Vv) (o:NI):TE:=λY H Q=>VE K O Y H U/\∃ds,o=some ds/\∀p xs H',Same H H'->H' p=none->IsL K (msk O H') ds xs->Q (.ref p) (upd H' p (.lst xs))
def tPT (K:Frag) (O:NR) (U:Vv) (o:Option Bool):TT:=λY H Q=>VE K O Y H U/\∃b,o=some b/\∀H',Same H H'->Q b H'
def tPA (K:Frag) (O:NR) (U:Vv) (o:NI):TA:=λY H Q=>VE K O Y H U/\∃ds,o=some ds/\∀vs H',Same H H'->IsL K (msk O H') ds vs->Q vs H'
def PP (X:Cx) (e:Expr) (f:wp):Prop:=∀O U,PE X e (tP X.K O U (f U))
def PF (X:Cx) (e:Expr) (f:qm):Prop:=∀O U,PE X e (tPF X.K O U (f U))
def PQ (X:Cx) (e:Expr) (f:Fr):Prop:=∀O U,PT X e (tPT X.K O U (f U))
def PX (X:Cx) (es:NT) (f:qm):Prop:=∀O U,PA X es (tPA X.K O U (f U))
noncomputable def cf (U:Vv) (i:Nat):NU:=match U[i]? with
 |some (some d)=>some d
 |_=>none
theorem wE (h:cf U i=some d):U[i]?=some (some d):=by
 unfold cf at h;grind
section
variable {X:Cx} {pos:Pos}
theorem FL (i:Nat) (hN:X.N[i]?=some x:=by rfl) (hv:Vis X.env.scope x:=by first|exact Or.inl rfl|exact Or.inr (Or.inl rfl)|exact Or.inr (Or.inr rfl)) (hd:(!7)=false:=by decide) (hcd:(!10)=false:=by decide):PP X (.Name x pos) (λU=>cf U i):=λO U=>(cc hN hv hd hcd).imp λY H Q ⟨E,d,e,k⟩=>by
 obtain⟨v,e1,e2⟩:=E.sh i d (wE e);exact⟨v,e1,k v H (Same.refl _) e2⟩
theorem pp_int:PP X (.Constant (.int i) j pos) (λ_=>some (.int i)):=λO U=>pe_int.imp λY H Q ⟨E,d,e,k⟩=>by
 cases e;exact k _ H (Same.refl _) rfl
theorem pp_bl:PP X (.Constant (.bool b) j pos) (λ_=>some (.bl b)):=λO U=>pe_bl.imp λY H Q ⟨E,d,e,k⟩=>by
 cases e;exact k _ H (Same.refl _) rfl
theorem pp_non:PP X (.Constant .none j pos) (λ_=>some .non):=λO U=>pe_non.imp λY H Q ⟨E,d,e,k⟩=>by
 cases e;exact k _ H (Same.refl _) rfl
theorem pp_str:PP X (.Constant (.str x) j pos) (λ_=>some (.str x)):=λO U=>pe_str.imp λY H Q ⟨E,d,e,k⟩=>by
 cases e;exact k _ H (Same.refl _) rfl
theorem Jo (hg:Gl X x) (hm:X.mg x=none) (hv:bootBuiltins x=some (.type n)) (hn:x≠"__name__":=by decide) (hd:(!7)=false:=by decide):PP X (.Name x pos) (λ_=>some (.ty n)):=
 λO U=>(BL (v:=.ty n) hg hm hv rfl hn hd).imp λY H Q ⟨E,d,e,k⟩=>by
 cases e;exact k _ H (Same.refl _) rfl
theorem B6 (hg:Gl X x) (hm:X.mg x=some u) (r:RelV v u) (h:∀H,Is X.K H d v) (hd:(!7)=false:=by decide):PP X (.Name x pos) (λ_=>some d):=
 λO U=>(BK hg hm r hd).imp λY H Q ⟨E,d',e,k⟩=>by
 cases e;exact k _ H (Same.refl _) (h _)
def R2D (K:Frag) (r:R2) (g:D->D->NU):Prop:=∀ (O:NR) (H:Hp) (x y:V) (dx dy d:D) (Q:VK),(∀b,O b=true->H b≠none)->Is K (msk O H) dx x->Is K (msk O H) dy y->g dx dy=some d->
 (∀v H',Same H H'->Is K (msk O H') d v->Q v H')->r x y H Q
noncomputable def ab (g:D->D->NU) (fa fb:wp):wp:=λU=>(fa U).bind λx=>(fb U).bind λy=>g x y
theorem bind_some {α β:Type} {o} {f:α->Option β} {b} (h:o.bind f=some b):∃a,o=some a/\f a=some b:=by
 cases o with
 |none=>cases h
 |some a=>exact⟨a,rfl,h⟩
abbrev _root_.Op:=@bind_some
theorem kI (hr:R2D X.K r g) (h:tP X.K O U (ab g fa fb U) Y H Q):
  tOp r (tP X.K O U (fa U)) (tP X.K O U (fb U)) Y H Q:=by
 obtain⟨E,d,e,k⟩:=h
 obtain⟨dx,e1,e⟩:=Op e
 obtain⟨dy,e2,e3⟩:=Op e
 refine⟨E,dx,e1,λx H1 s1 i1=>⟨E.grow s1,dy,e2,λy H2 s2 i2=>?_⟩⟩
 exact hr O H2 x y dx dy d Q (E.grow (!28)).dom (Is.mono s2.msk dx x i1) i2 e3 λv H' s3 i3=>k v H' (s1.trans (s2.trans s3)) i3
theorem qN (ho:OpR X (binaryOp op) r) (hr:R2D X.K r g) (ha:PP X a fa) (hb:PP X b fb):PP X (.BinOp a op b pos) (ab g fa fb):=
 λO U=>(El ho (ha O U) (hb O U)).imp λY H Q h=>kI hr h
theorem pp_cmp (ho:OpR X (compareOp op) r) (hr:R2D X.K r g) (ha:PP X a fa) (hb:PP X b fb) (hm:behindInMarks op b=false):PP X (.Compare a [op] [b] pos) (ab g fa fb):=
 λO U=>(BN ho (ha O U) (hb O U) hm).imp λY H Q h=>kI hr h
noncomputable def D.asB:D->Option Bool
 |.bl b=>some b
 |_=>none
theorem asB_some {d:D} (h:d.asB=some b):d=.bl b:=by
 cases d<;>first|(cases h;rfl)|cases h
def av (f:wp):Fr:=λU=>(f U).bind D.asB
theorem pq_cmp (ho:OpR X (compareOp op) r) (hr:R2D X.K r g) (ha:PP X a fa) (hb:PP X b fb) (hm:behindInMarks op b=false):PQ X (.Compare a [op] [b] pos) (av (ab g fa fb)):=
 λO U=>(BO ho (ha O U) (hb O U) hm).imp λY H Q h=>by
 obtain⟨E,b,e,k⟩:=h
 obtain⟨d,e1,e2⟩:=Op e
 cases asB_some e2
 refine kI hr ⟨E,.bl b,e1,λv H' s i=>?_⟩
 cases(i)
 exact⟨b,rfl,k H' s⟩
def cP (g g':D->D->NU) (fa fb fc:wp):wp:=λU=>(fa U).bind λx=>(fb U).bind λy=>(g x y).bind λz=>z.asB.bind λk=>if k=true then(fc U).bind λw=>g' y w else some (.bl false)
theorem nS (hr:R2D X.K r g) (hr':R2D X.K r' g') (h:tP X.K O U (cP g g' fa fb fc U) Y H Q):
  sN r r' (tP X.K O U (fa U)) (tP X.K O U (fb U)) (tP X.K O U (fc U)) Y H Q:=by
 obtain⟨E,d,ea,k⟩:=h
 obtain⟨dx,e1,eb⟩:=Op ea
 obtain⟨dy,e2,ec⟩:=Op eb
 obtain⟨dz,e3,ed⟩:=Op ec
 obtain⟨b,e4,e⟩:=Op ed
 clear ea eb ec ed
 cases asB_some e4
 refine⟨E,dx,e1,λx H1 s1 i1=>⟨E.grow s1,dy,e2,λy H2 s2 i2=>?_⟩⟩
 refine hr O H2 x y dx dy _ _ (E.grow (!28)).dom (Is.mono s2.msk dx x i1) i2 e3 λv H3 s3 i3=>⟨b,i3,?_⟩
 cases b with
 |true=>
  obtain⟨dw,e5,e6⟩:=Op e;refine⟨E.grow (s1.trans (s2.trans s3)),dw,e5,λw' H4 s4 i4=>?_⟩;exact hr' O H4 y w' dy dw d Q (E.grow (s1.trans (s2.trans (s3.trans s4)))).dom (Is.mono (s3.trans s4).msk dy y i2) i4 e6 λv' H5 s5 i5=>k v' H5 (s1.trans (s2.trans (s3.trans (s4.trans s5)))) i5
 |false=>
  cases e;exact k _ H3 (s1.trans (s2.trans s3)) rfl
theorem yB (ho:OpR X (compareOp op) r) (ho':OpR X (compareOp op') r') (hr:R2D X.K r g) (hr':R2D X.K r' g') (ha:PP X a fa) (hb:PP X b fb) (hc:PP X c fc) (hm:lastMarks [op,op'] [b,c]=false:=by with_unfolding_all rfl):PP X (.Compare a [op,op'] [b,c] pos) (cP g g' fa fb fc):=λO U=>(xY ho ho' (ha O U) (hb O U) (hc O U) hm).imp λY H Q h=>nS hr hr' h
theorem yC (ho:OpR X (compareOp op) r) (ho':OpR X (compareOp op') r') (hr:R2D X.K r g) (hr':R2D X.K r' g') (ha:PP X a fa) (hb:PP X b fb) (hc:PP X c fc) (hm:lastMarks [op,op'] [b,c]=false:=by with_unfolding_all rfl):PQ X (.Compare a [op,op'] [b,c] pos) (av (cP g g' fa fb fc)):=λO U=>(xZ ho ho' (ha O U) (hb O U) (hc O U) hm).imp λY H Q h=>by
 obtain⟨E,b,e,k⟩:=h;obtain⟨d,e1,e2⟩:=Op e;cases asB_some e2;refine nS hr hr' ⟨E,.bl b,e1,λv H' s i=>?_⟩;cases(i);grind
noncomputable def FM:D->D->NU
 |.int i,.int j=>some (.int (i+j))
 |_,_=>none
noncomputable def bE:D->D->NU
 |.int i,.int j=>some (.int (i-j))
 |_,_=>none
instance (i j:Int):Decidable (CMul i j):=Classical.propDecidable _
def B7 (_ j:Int):Prop:=0<j/\j.natAbs.log2<9000
instance (i j:Int):Decidable (B7 i j):=Classical.propDecidable _
theorem B8:OpR X (binaryOp .FloorDiv) (rI B7 λi j=>.int (i/j)):=opI λi j _ _ _ _ _ hc q=>by
 have h1:=hc.1;exact floordiv_int (!1) (by rw[Int.fdiv_eq_ediv_of_nonneg i (!1)];exact q) (.inl (PyProof.noPylong_of_log2 hc.2))
instance (i j:Int):Decidable (LM i j):=Classical.propDecidable _
noncomputable def aQ:D->D->NU
 |.int i,.int j=>if CMul i j then some (.int (i*j))else none
 |_,_=>none
noncomputable def eZ:D->D->NU
 |.int i,.int j=>if B7 i j then some (.int (i/j))else none
 |_,_=>none
noncomputable def bd:D->D->NU
 |.int i,.int j=>if 0<j then some (.int (i%j))else none
 |_,_=>none
noncomputable def cg:NS->Option (NQ)
 |[]=>some []
 |.int i::ds=>(cg ds).bind λxs=>some (i::xs)
 |_::_=>none
noncomputable def ltI:D->D->NU
 |.int i,.int j=>some (.bl (decide (i<j)))
 |_,_=>none
def ltD (x y:D):NU:=ltI x y
noncomputable def leD:D->D->NU
 |.int i,.int j=>some (.bl (decide (i<=j)))
 |_,_=>none
noncomputable def gtI:D->D->NU
 |.int i,.int j=>some (.bl (decide (j<i)))
 |_,_=>none
def gtD (x y:D):NU:=gtI x y
noncomputable def geD:D->D->NU
 |.int i,.int j=>some (.bl (decide (j<=i)))
 |_,_=>none
theorem uW {K} {g:Int->Int->Int} (hf:∀x y d,f x y=some d->∃i j,x=.int i/\y=.int j/\d=.int (g i j)):R2D K (rI0 λi j=>.int (g i j)) f:=λO H x y dx dy d Q _ ix iy e k=>by
 obtain⟨i,j,rfl,rfl,rfl⟩:=hf dx dy d e;exact⟨i,j,ix,iy,k _ H (Same.refl _) rfl⟩
theorem ig {K} {g:Int->Int->Bool} (hf:∀x y d,f x y=some d->∃i j,x=.int i/\y=.int j/\d=.bl (g i j)):R2D K (rI0 λi j=>.bl (g i j)) f:=λO H x y dx dy d Q _ ix iy e k=>by
 obtain⟨i,j,rfl,rfl,rfl⟩:=hf dx dy d e;exact⟨i,j,ix,iy,k _ H (Same.refl _) rfl⟩
theorem oT {K} {g:Int->Int->Int} (hf:∀x y d,f x y=some d->∃i j,x=.int i/\y=.int j/\C i j/\d=.int (g i j)):R2D K (rI C λi j=>.int (g i j)) f:=λO H x y dx dy d Q _ ix iy e k=>by
 obtain⟨i,j,rfl,rfl,hc,rfl⟩:=hf dx dy d e;exact⟨i,j,ix,iy,hc,k _ H (Same.refl _) rfl⟩
theorem eG {f:Int->Int->NU} {x y d:D} (h:(match x,y with|.int i,.int j=>f i j|_,_=>none)=some d):∃i j,x=.int i/\y=.int j/\f i j=some d:=by grind
theorem Jp {K}:R2D K (rI0 λi j=>.int (i+j)) FM:=uW λx y d e=>by
 obtain⟨i,j,h1,h2,e⟩:=eG e;cases e;exact⟨_,_,h1,h2,rfl⟩
theorem Jq {K}:R2D K (rI0 λi j=>.int (i-j)) bE:=uW λx y d e=>by
 obtain⟨i,j,h1,h2,e⟩:=eG e;cases e;exact⟨_,_,h1,h2,rfl⟩
theorem az {α:Type} [Decidable c] {a b:α} (h:(if c then some a else none)=some b):c/\a=b:=by grind
theorem Jr {K}:R2D K (rI CMul λi j=>.int (i*j)) aQ:=oT λx y d e=>by
 obtain⟨i,j,h1,h2,e⟩:=eG e;obtain⟨c,e⟩:=az e;cases e;exact⟨_,_,h1,h2,c,rfl⟩
theorem Js {K}:R2D K (rI B7 λi j=>.int (i/j)) eZ:=oT λx y d e=>by
 obtain⟨i,j,h1,h2,e⟩:=eG e;obtain⟨c,e⟩:=az e;cases e;exact⟨_,_,h1,h2,c,rfl⟩
theorem Jt {K}:R2D K (rI (λ_ j=>0<j) λi j=>.int (i%j)) bd:=oT λx y d e=>by
 obtain⟨i,j,h1,h2,e⟩:=eG e;obtain⟨c,e⟩:=az e;cases e;exact⟨_,_,h1,h2,c,rfl⟩
theorem Ju {K}:R2D K (rI0 λi j=>.bl (decide (i<j))) ltI:=ig λx y d e=>by
 obtain⟨i,j,h1,h2,e⟩:=eG e;cases e;exact⟨_,_,h1,h2,rfl⟩
theorem wF {K}:R2D K (rI0 λi j=>.bl (decide (i<=j))) leD:=ig λx y d e=>by
 obtain⟨i,j,h1,h2,e⟩:=eG e;cases e;exact⟨_,_,h1,h2,rfl⟩
theorem Jv {K}:R2D K (rI0 λi j=>.bl (decide (j<i))) gtI:=ig λx y d e=>by
 obtain⟨i,j,h1,h2,e⟩:=eG e;cases e;exact⟨_,_,h1,h2,rfl⟩
theorem Jw {K}:R2D K (rI0 λi j=>.bl (decide (j<=i))) geD:=ig λx y d e=>by
 obtain⟨i,j,h1,h2,e⟩:=eG e;cases e;exact⟨_,_,h1,h2,rfl⟩
theorem c6 {K}:∀ {ds:NS} {ns:NQ} {xs:List V},cg ds=some ns->IsL K H ds xs->xs=ns.map V.int
 |[],ns,xs,e,h=>by cases e;exact h
 |.int i::ds,ns,xs,e,⟨x,r,e1,h1,l⟩=>by
  obtain⟨ms,e2,e3⟩:=Op (show(cg ds).bind (λxs=>some (i::xs))=some ns from e);cases e3;cases(show x=.int i from h1);rw[e1,c6 e2 l];rfl
theorem Jx {K}:R2D K (rI0 λi j=>.bl (decide (i<j))) ltD:=Ju
theorem Jy {K}:R2D K (rI0 λi j=>.bl (decide (j<i))) gtD:=Jv
theorem B9 (ha:PP X a fa) (hb:PP X b fb):PP X (.BinOp a .Add b pos) (ab FM fa fb):=qN Ft Jp ha hb
theorem FN (ha:PP X a fa) (hb:PP X b fb):PP X (.BinOp a .Sub b pos) (ab bE fa fb):=qN Fu Jq ha hb
theorem FO (ha:PP X a fa) (hb:PP X b fb):PP X (.BinOp a .Mult b pos) (ab aQ fa fb):=qN Fw Jr ha hb
theorem FP (ha:PP X a fa) (hb:PP X b fb):PP X (.BinOp a .FloorDiv b pos) (ab eZ fa fb):=qN B8 Js ha hb
theorem FQ (ha:PP X a fa) (hb:PP X b fb):PP X (.BinOp a .Mod b pos) (ab bd fa fb):=qN Fy Jt ha hb
theorem Jz (hu:X.A.units<cLine) (ha:PP X a fa) (hb:PP X b fb):PP X (.Compare a [.Lt] [b] pos) (ab ltD fa fb):=pp_cmp Em Jx ha hb (cO _)
theorem JA (ha:PP X a fa) (hb:PP X b fb):PP X (.Compare a [.LtE] [b] pos) (ab leD fa fb):=pp_cmp nI wF ha hb (cO _)
theorem JB (hu:X.A.units<cLine) (ha:PP X a fa) (hb:PP X b fb):PP X (.Compare a [.Gt] [b] pos) (ab gtD fa fb):=pp_cmp Eo Jy ha hb (cO _)
theorem JC (ha:PP X a fa) (hb:PP X b fb):PP X (.Compare a [.GtE] [b] pos) (ab geD fa fb):=pp_cmp Ep Jw ha hb (cO _)
theorem JD (hu:X.A.units<cLine) (ha:PP X a fa) (hb:PP X b fb):PQ X (.Compare a [.Lt] [b] pos) (av (ab ltD fa fb)):=pq_cmp Em Jx ha hb (cO _)
theorem JE (ha:PP X a fa) (hb:PP X b fb):PQ X (.Compare a [.LtE] [b] pos) (av (ab leD fa fb)):=pq_cmp nI wF ha hb (cO _)
theorem JF (hu:X.A.units<cLine) (ha:PP X a fa) (hb:PP X b fb):PQ X (.Compare a [.Gt] [b] pos) (av (ab gtD fa fb)):=pq_cmp Eo Jy ha hb (cO _)
theorem JG (ha:PP X a fa) (hb:PP X b fb):PQ X (.Compare a [.GtE] [b] pos) (av (ab geD fa fb)):=pq_cmp Ep Jw ha hb (cO _)
theorem pp_lele (ha:PP X a fa) (hb:PP X b fb) (hc:PP X c fc) (hm:lastMarks [.LtE,.LtE] [b,c]=false:=by with_unfolding_all rfl):PP X (.Compare a [.LtE,.LtE] [b,c] pos) (cP leD leD fa fb fc):=yB nI nI wF wF ha hb hc hm
theorem pq_lele (ha:PP X a fa) (hb:PP X b fb) (hc:PP X c fc) (hm:lastMarks [.LtE,.LtE] [b,c]=false:=by with_unfolding_all rfl):PQ X (.Compare a [.LtE,.LtE] [b,c] pos) (av (cP leD leD fa fb fc)):=yC nI nI wF wF ha hb hc hm
def ke (fa fb:wp):wp:=λU=>(fa U).bind λx=>x.asB.bind λc=>if c=true then fb U else some (.bl false)
def orF (fa fb:wp):wp:=λU=>(fa U).bind λx=>x.asB.bind λc=>if c=true then some (.bl true)else fb U
def Cc (fa:wp):wp:=λU=>(fa U).bind λx=>x.asB.bind λc=>some (.bl (!c))
noncomputable def mX (fa fb:Fr):Fr:=λU=>(fa U).bind λc=>if c=true then fb U else some false
noncomputable def orQ (fa fb:Fr):Fr:=λU=>(fa U).bind λc=>if c=true then some true else fb U
noncomputable def ci (fa:Fr):Fr:=λU=>(fa U).map (!·)
noncomputable def ifF (fc:Fr) (fa fb:wp):wp:=λU=>(fc U).bind λc=>if c=true then fa U else fb U
variable {a b c:Expr} {rest:NT}
theorem FR (h:PP X a f):PP X (.BoolOp op [a] pos) f:=λO U=>Fj (h O U)
theorem FS (ha:PP X a fa) (hb:PP X (.BoolOp .And (b::rest) pos) fb):PP X (.BoolOp .And (a::b::rest) pos) (ke fa fb):=λO U=>(Fk (ha O U) (hb O U)).imp λY H Q ⟨E,d,e,k⟩=>by
 obtain⟨dx,e1,eb⟩:=Op e;obtain⟨c,e2,ec⟩:=Op eb;clear e eb;have e:=ec;cases asB_some e2;refine⟨E,_,e1,λv H1 s1 i1=>⟨c,i1,?_⟩⟩;cases c with
 |true=>rw[if_pos rfl]at e⊢;exact⟨E.grow s1,d,e,λv' H2 s2 i2=>k v' H2 (!28) i2⟩
 |false=>rw[if_neg Bool.false_ne_true]at e⊢;cases e;exact k _ H1 s1 rfl
theorem FT (ha:PP X a fa):PP X (.UnaryOp .Not a pos) (Cc fa):=λO U=>(Fl (ha O U)).imp λY H Q ⟨E,d,e,k⟩=>by
 obtain⟨dx,e1,eb⟩:=Op e;obtain⟨c,e2,ec⟩:=Op eb;have e:=ec;cases asB_some e2;cases e;exact⟨E,_,e1,λv H1 s1 i1=>⟨c,i1,k _ H1 s1 rfl⟩⟩
def PWQ (X:Cx) (e:Expr) (f:Fr):Prop:=∀O U,PW X e (tPT X.K O U (f U))
theorem PWQ.pq (h:PWQ X a f):PQ X a f:=λO U=>(h O U).pt
theorem PW.imp (h:PW X e t) (k:∀Y H Q,t' Y H Q->t Y H Q):PW X e t':=λwh pins s Y H Q I q=>h wh pins s Y H Q I (k _ _ _ q)
theorem pw_and1D (h:PQ X a f):PWQ X (.BoolOp .And [a] pos) f:=λO U=>pw_and1 (h O U)
theorem pw_or1D (h:PQ X a f):PWQ X (.BoolOp .Or [a] pos) f:=λO U=>pw_or1 (h O U)
theorem pw_andD (ha:PQ X a fa) (hb:PWQ X (.BoolOp .And (b::rest) pos) fb):PWQ X (.BoolOp .And (a::b::rest) pos) (mX fa fb):=λO U=>(pw_and (ha O U) (hb O U)).imp λY H Q ⟨E,d,e,k⟩=>by
 obtain⟨c,e1,eb⟩:=Op e;have e:=eb;refine⟨E,c,e1,λH1 s1=>?_⟩;cases c with
 |true=>rw[if_pos rfl]at e⊢;exact⟨E.grow s1,d,e,λH2 s2=>k H2 (!28)⟩
 |false=>rw[if_neg Bool.false_ne_true]at e⊢;cases e;exact k H1 s1
theorem pw_orD (ha:PQ X a fa) (hb:PWQ X (.BoolOp .Or (b::rest) pos) fb):PWQ X (.BoolOp .Or (a::b::rest) pos) (orQ fa fb):=λO U=>(pw_or (ha O U) (hb O U)).imp λY H Q ⟨E,d,e,k⟩=>by
 obtain⟨c,e1,eb⟩:=Op e;have e:=eb;refine⟨E,c,e1,λH1 s1=>?_⟩;cases c with
 |true=>rw[if_pos rfl]at e⊢;cases e;exact k H1 s1
 |false=>rw[if_neg Bool.false_ne_true]at e⊢;exact⟨E.grow s1,d,e,λH2 s2=>k H2 (!28)⟩
theorem FU (ha:PQ X a fa):PQ X (.UnaryOp .Not a pos) (ci fa):=λO U=>(Fi (ha O U)).imp λY H Q ⟨E,d,e,k⟩=>by
 unfold ci at e;cases q:fa U with
 |none=>rw[q]at e;cases e
 |some c=>rw[q]at e;cases e;exact⟨E,c,rfl,λH1 s1=>k H1 s1⟩
theorem JH (hc:PQ X c fc) (ha:PP X a fa) (hb:PP X b fb):PP X (.IfExp c a b pos) (ifF fc fa fb):=λO U=>(xN (hc O U) (ha O U) (hb O U)).imp λY H Q ⟨E,d,e,k⟩=>by
 obtain⟨c,e1,eb⟩:=Op e;have e:=eb;refine⟨E,c,e1,λH1 s1=>?_⟩;cases c with
 |true=>rw[if_pos rfl]at e⊢;exact⟨E.grow s1,d,e,λv' H2 s2 i2=>k v' H2 (!28) i2⟩
 |false=>rw[if_neg Bool.false_ne_true]at e⊢;exact⟨E.grow s1,d,e,λv' H2 s2 i2=>k v' H2 (!28) i2⟩
noncomputable def wG:D->Option Bool
 |.bl b=>some b
 |.int i=>some (i !=0)
 |.non=>some false
 |.lst ds=>some (!ds.isEmpty)
 |.tup ds=>some (!ds.isEmpty)
 |_=>none
theorem jQ {α β:Type} {a:List α} {b:List β} (h:a.length=b.length):a.isEmpty=b.isEmpty:=by
 cases a<;>cases b<;>first|rfl|simp at h
theorem pq_val (h:PP X a f) (he:∀whole,isTrue a X.env whole=(do let v<-whole;standAt a.pos;holding [v] (truthy v)):=by intro _;rfl):PQ X a (λU=>(f U).bind wG):=λO U=>(x8 (h O U) he).imp λY H Q ⟨E,b,e,k⟩=>by
 obtain⟨d,e1,e⟩:=Op e;refine⟨E,d,e1,λv H1 s1 i1=>⟨b,?_,k H1 s1⟩⟩;cases d with
 |bl c=>cases e;cases(i1);rfl
 |int i=>cases e;cases(i1);rfl
 |non=>cases e;cases(i1);rfl
 |lst ds=>
  cases e;obtain⟨p,xs,rfl,q,l⟩:=i1;exact .inl ⟨xs,msk_le.seq q,by rw[jQ l.len]⟩
 |tup ds=>
  cases e;obtain⟨p,xs,rfl,q,l⟩:=i1;exact .inr (.inl ⟨xs,msk_le.seqT q,by rw[jQ l.len]⟩)
 |_=>cases e
end
noncomputable def big:Nat:=16777216
theorem gN:sizeLine=big:=sizeLine_eq
section
variable {X:Cx} {pos:Pos} {a b c e:Expr} {es:NT}
theorem FV:PX X [] (λ_=>some []):=λO U=>pa_nil.imp λY H Q ⟨E,ds,e,k⟩=>by
 cases e;exact k [] H (Same.refl _) rfl
noncomputable def aa (f:wp) (g:qm):qm:=λU=>(f U).bind λd=>(g U).bind λr=>some (d::r)
theorem px_cons (h:PP X e f) (hr:PX X es g) (hs:starEach (e::es) X.env=(false,eval e X.env)::starEach es X.env:=by rfl):PX X (e::es) (aa f g):=
 λO U=>(dE (h O U) (hr O U) hs).imp λY H Q ⟨E,ds,q,k⟩=>by
 obtain⟨d,e1,q⟩:=Op q
 obtain⟨r,e2,q⟩:=Op q
 cases q
 exact⟨E,d,e1,λv H1 s1 i1=>⟨E.grow s1,r,e2,λvs H2 s2 i2=>k _ H2 (!28) ⟨v,vs,rfl,Is.mono s2.msk d v i1,i2⟩⟩⟩
def bC (o:NI):NI:=o.bind λds=>if ds.length<big then some ds else none
theorem cj (h:bC o=some ds):o=some ds/\ds.length<sizeLine:=by
 obtain⟨d,e1,e2⟩:=Op h;obtain⟨h1,h2⟩:=az e2;subst h2;exact⟨e1,by rw[gN];exact h1⟩
theorem FW {x1} (h:PX X es g):PP X (.Tuple es x1 pos) (λU=>(bC (g U)).bind λds=>some (.tup ds)):=λO U=>(yd (h O U)).imp λY H Q ⟨E,d,q,k⟩=>by
 obtain⟨ds,z,q2⟩:=Op q;cases q2;obtain⟨e1,e2⟩:=cj z;refine⟨E,ds,e1,λvs H1 s1 l=>⟨by rw[<-l.len];exact Oi e2,λp hp=>?_⟩⟩;have hO:=(E.grow s1).fresh hp;have le:Same (msk O H1) (msk O (upd H1 p (.tup vs))):=by rw[oS hO];exact Same.new (by rw[aE hO];exact hp)
 exact k _ _ (s1.trans (Same.new hp)) ⟨p,vs,rfl,.of (by rw[aE hO,ai]),IsL.mono le _ _ l⟩
theorem FX (h:PX X es g):PF X (.List es pos) (λU=>bC (g U)):=λO U=>(ye (h O U)).imp λY H Q ⟨E,ds,q,k⟩=>by
 obtain⟨e1,e2⟩:=cj q;exact⟨E,ds,e1,λvs H1 s1 l=>⟨by rw[<-l.len];exact Oi e2,λp hp=>k p vs H1 s1 hp l⟩⟩
noncomputable def Cd:D->Option Key
 |.int i=>some (.inl i)
 |.str x=>some (.inr x)
 |_=>none
theorem oU {K} (e:Cd d=some k) (h:Is K H d v):v=kV k:=by
 cases d with
 |int i=>cases e;exact h
 |str x=>cases e;exact h
 |_=>cases e
noncomputable def qO:List Key->NS->Key->NU
 |k::ks,d::ds,j=>if k=j then some d else qO ks ds j
 |_,_,_=>none
theorem valD_val {K}:∀ {kvs:List (Key×V)} {ds:NS},IsL K H ds (kvs.map (·.2))->(qO (kvs.map (·.1)) ds j=none/\gJ kvs j=none)\/∃d v,qO (kvs.map (·.1)) ds j=some d/\gJ kvs j=some v/\Is K H d v
 |[],ds,_=>.inl ⟨by cases ds<;>rfl,rfl⟩
 |p::r,[],h=>by cases(show(p::r).map (·.2)=[]from h)
 |p::r,d::ds,⟨x,t,z,h,l⟩=>by
  have z':p.2::r.map (·.2)=x::t:=z;cases z';show((if p.1=j then some d else qO (r.map (·.1)) ds j)=none/\_)\/∃d' v,(if p.1=j then some d else qO (r.map (·.1)) ds j)=some d'/\_;by_cases e:p.1=j
  ·rw[if_pos e,lz e];exact .inr ⟨d,p.2,rfl,rfl,h⟩
  ·rw[if_neg e,lA e];exact valD_val l
def JI:R2:=λx y H Q=>∃p kvs k v,x=.ref p/\y=kV k/\Rd H p (.dK kvs)/\gJ kvs k=some v/\Q v H
theorem Ce:IxR X JI:=by
 intro value slice pins s Y H x y v u Q I rx ry h hs;obtain⟨p,kvs,k,z,rfl,rfl,e,l,q⟩:=h;cases rx;obtain⟨_,hd,vs,rel,dd⟩:=uU I.hok e;obtain⟨w',hw,rw'⟩:=RelO.some_of (by rw[<-l];exact rel.val k);exact tail_any dd.typeIs PySem.F.slot_dict_getitem.lookup (wpAny_getItem_of (qL ry) dd.mapOf hw ⟨z,H,I.tok _,rw',q⟩) hs
def ixD:D->D->NU
 |.lst ds,.int i=>atI ds i
 |.tup ds,.int i=>atI ds i
 |.dct ks ds,e=>(Cd e).bind (qO ks ds)
 |_,_=>none
theorem uX {xs:List β} {d:α} (hl:ds.length=xs.length) (h:atI ds i=some d):∃j:Nat,ds[j]?=some d/\atI xs i=xs[j]?:=by
 obtain⟨j,e1,e2⟩:=Op h;grind [atI]
theorem LZ {K}:R2D K (λx y H Q=>rIx K x y H Q\/JI x y H Q) ixD:=λO H x y dx dy d Q hd ix iy e k=>by
 cases dx with
 |lst ds=>
  cases dy with
  |int i=>
   obtain⟨p,xs,rfl,q,l⟩:=ix;cases(show y=.int i from iy);obtain⟨j,e1,e2⟩:=uX l.len (e);obtain⟨v,e3,iv⟩:=l.get e1;exact .inl (.inl ⟨p,xs,i,v,rfl,rfl,msk_le.seq q,e2.trans e3,k v H (Same.refl _) iv⟩)
  |_=>cases e
 |tup ds=>
  cases dy with
  |int i=>
   obtain⟨p,xs,rfl,q,l⟩:=ix;cases(show y=.int i from iy);obtain⟨j,e1,e2⟩:=uX l.len (e);obtain⟨v,e3,iv⟩:=l.get e1;exact .inl (.inr (.inl ⟨p,xs,i,v,rfl,rfl,msk_le.seqT q,e2.trans e3,k v H (Same.refl _) iv⟩))
  |_=>cases e
 |dct ks ds=>
  obtain⟨p,kvs,rfl,q,rfl,l⟩:=ix;obtain⟨j,e1,e2⟩:=Op (e);rcases valD_val l with⟨z,_⟩|⟨d',v,z,hv,iv⟩
  ·rw[z]at e2;cases e2
  ·rw[z]at e2;cases e2;exact .inr ⟨p,kvs,j,v,rfl,oU e1 iy,msk_le.rd q,hv,k v H (Same.refl _) iv⟩
 |_=>cases e
theorem pp_ix (ha:PP X a fa) (hb:PP X b fb) (hs:kB b:=by exactλ_ _=>rfl):PP X (.Subscript a b pos) (ab ixD fa fb):=λO U=>(Es (ix_seq.or Ce) (ha O U) (hb O U) hs).imp λY H Q h=>kI LZ h
def RnD (K:Frag) (r:List V->Hp->VK->Prop) (g:NS->NU):Prop:=∀ (O:NR) (H:Hp) (xs:List V) (ds:NS) (d:D) (Q:VK),(∀b,O b=true->H b≠none)->IsL K (msk O H) ds xs->g ds=some d->
 (∀v H',Same H H'->Is K (msk O H') d v->Q v H')->r xs H Q
variable {x:Str} {p:Pos} {bid T:String} {r:List V->Hp->VK->Prop} {g:NS->NU} {fa:qm}
theorem pp_callB (hc:dD X (.builtin bid) r) (hr:RnD X.K r g) (hg:Gl X x) (hm:X.mg x=none) (hv:bootBuiltins x=some (.builtin bid)) (ha:PX X (e::es) fa) (hn:x≠"__name__":=by decide) (hdb:(!7)=false:=by decide)
  (he:starEach (e::es) X.env=(false,eval e X.env)::starEach es X.env:=by rfl) (hpl:(!14).any (·.1)=false:=by rfl):PP X (.Call (.Name x p) (e::es) [] pos) (λU=>(fa U).bind g):=
 λO U=>(lg hc hg hm hv (ha O U) hn hdb he hpl).imp λY H Q ⟨E,d,q,k⟩=>by
 obtain⟨ds,e1,q⟩:=Op q
 exact⟨E,ds,e1,λvs H1 s1 l=>hr O H1 vs ds d Q (E.grow s1).dom l q λv H2 s2 i2=>k v H2 (!28) i2⟩
theorem pp_callTy (hc:dD X (.type T) r) (hr:RnD X.K r g) (hg:Gl X x) (hm:X.mg x=none) (hv:bootBuiltins x=some (.type T)) (ha:PX X (e::es) fa) (hn:x≠"__name__":=by decide) (hdb:(!7)=false:=by decide)
  (he:starEach (e::es) X.env=(false,eval e X.env)::starEach es X.env:=by rfl) (hpl:(!14).any (·.1)=false:=by rfl):PP X (.Call (.Name x p) (e::es) [] pos) (λU=>(fa U).bind g):=
 λO U=>(nN hc hg hm hv (ha O U) hn hdb he hpl).imp λY H Q ⟨E,d,q,k⟩=>by
 obtain⟨ds,e1,q⟩:=Op q
 exact⟨E,ds,e1,λvs H1 s1 l=>hr O H1 vs ds d Q (E.grow s1).dom l q λv H2 s2 i2=>k v H2 (!28) i2⟩
noncomputable def un1 {α:Type} (g:D->Option α) (ds:NS):Option α:=match ds with
 |[d]=>g d
 |_=>none
noncomputable def un2 {α:Type} (g:D->D->Option α) (ds:NS):Option α:=match ds with
 |[c,d]=>g c d
 |_=>none
theorem aW {g} {r:α} (h:un1 g ds=some r):∃d,ds=[d]/\g d=some r:=by
 cases ds with
 |nil=>cases h
 |cons d t=>
  cases t with
  |nil=>exact⟨d,rfl,h⟩
  |cons _ _=>cases h
theorem ii {g} {r:α} (h:un2 g ds=some r):∃c d,ds=[c,d]/\g c d=some r:=by
 cases ds with
 |nil=>cases h
 |cons c t=>
  cases t with
  |nil=>cases h
  |cons d u=>
   cases u with
   |nil=>exact⟨c,d,rfl,h⟩
   |cons _ _=>cases h
theorem is1 {K} (l:IsL K H [d] xs):∃v,xs=[v]/\Is K H d v:=by simp_all [Hp,IsL,Is]
theorem is2 {K} {c d} (l:IsL K H [c,d] xs):∃u v,xs=[u,v]/\Is K H c u/\Is K H d v:=by
 obtain⟨u,r,z,h,l2⟩:=l;obtain⟨v,z2,h2⟩:=is1 l2;grind
noncomputable def seqD:D->NI
 |.lst ds=>some ds
 |.tup ds=>some ds
 |_=>none
theorem eH {K} (e:seqD d=some ds) (h:Is K H d v):∃p xs,v=.ref p/\(SqL K H p xs\/SqT K H p xs)/\IsL K H ds xs:=by
 cases d with
 |lst es=>cases e;obtain⟨p,xs,z,q,l⟩:=h;exact⟨p,xs,z,.inl q,l⟩
 |tup es=>cases e;obtain⟨p,xs,z,q,l⟩:=h;exact⟨p,xs,z,.inr q,l⟩
 |_=>cases e
theorem Same.both {K} {a} (s:Same H H') (h:SqL K H a xs\/SqT K H a xs):SqL K H' a xs\/SqT K H' a xs:=by
 rcases h with h|h
 ·exact .inl (s.seq h)
 ·exact .inr (s.seqT h)
def bn:NS->NU:=un1 λd=>(seqD d).bind λds=>some (.int ds.length)
theorem rn_len:RnD X.K (λxs H Q=>∃p ys,xs=[.ref p]/\(SqL X.K H p ys\/SqT X.K H p ys)/\Q (.int ys.length) H) bn:=λO H xs ds d Q hd l e k=>by
 obtain⟨c,rfl,e⟩:=aW e;obtain⟨es,e1,e2⟩:=Op e;cases e2;obtain⟨v,rfl,h⟩:=is1 l;obtain⟨p,ys,rfl,q,l2⟩:=eH e1 h;exact⟨p,ys,rfl,msk_le.both q,k _ H (Same.refl _) (by show V.int ys.length=.int es.length;rw[l2.len])⟩
def nT:NS->NI:=un1 seqD
theorem Cf (hg:Gl X "list") (hm:X.mg "list"=none) (hv:bootBuiltins "list"=some (.type "list")) (ha:PX X [e] fa) (he:starEach [e] X.env=[(false,eval e X.env)]:=by rfl):PF X (.Call (.Name "list" p) [e] [] pos) (λU=>(fa U).bind nT):=
 λO U=>(nN oO hg hm hv (ha O U) (!4) (!4) he rfl).imp λY H Q ⟨E,ds,q,k⟩=>by
 obtain⟨as,e1,q⟩:=Op q
 refine⟨E,as,e1,λvs H1 s1 l=>?_⟩
 obtain⟨c,rfl,q2⟩:=aW q
 obtain⟨v,rfl,h⟩:=is1 l
 obtain⟨p,ys,rfl,t,l2⟩:=eH q2 h
 exact⟨p,ys,rfl,msk_le.both t,λb hb=>k b ys H1 s1 hb l2⟩
def bK:NS->NU:=un1 λd=>(seqD d).bind λds=>some (.tup ds)
theorem rn_tuple:RnD X.K (λxs H Q=>∃p ys,xs=[.ref p]/\((SqL X.K H p ys/\∀l,H l=none->Q (.ref l) (upd H l (.tup ys)))\/(SqT X.K H p ys/\Q (.ref p) H))) bK:=λO H xs ds d Q hd l e k=>by
 obtain⟨c,rfl,e⟩:=aW e;obtain⟨es,e1,e2⟩:=Op e;cases e2;obtain⟨v,rfl,h⟩:=is1 l;obtain⟨p,ys,rfl,q,l2⟩:=eH e1 h;refine⟨p,ys,rfl,?_⟩;rcases q with q|q
 ·refine .inl ⟨msk_le.seq q,λc hc=>?_⟩;have hO:=fq hd hc;have le:Same (msk O H) (msk O (upd H c (.tup ys))):=by rw[oS hO];exact Same.new (by rw[aE hO];exact hc)
  exact k _ _ (Same.new hc) ⟨c,ys,rfl,.of (by rw[aE hO,ai]),IsL.mono le _ _ l2⟩
 ·exact .inr ⟨msk_le.seqT q,k _ H (Same.refl _) ⟨p,ys,rfl,q,l2⟩⟩
theorem lF:∀ {bs:List Bool} {us:NK},Vals (bs.map V.bl) us->us=bs.map Value.bool
 |[],_,.nil=>rfl
 |b::bs,_,.cons r t=>by
  cases(show _=Value.bool b from r);rw[lF t];rfl
theorem nU:∀ (bs:List Bool),((List.range bs.length).all λi=>bs.getD i true)=bs.all (λz=>z)
 |[]=>rfl
 |b::bs=>by
  rw[length_cons,List.range_succ_eq_map,List.all_cons,List.all_map,List.all_cons,<-nU bs];rfl
theorem call_all (hc:X.calm=true):dD X (.builtin "all") (λxs H Q=>∃ (p:Addr) (bs:List Bool),xs=[.ref p]/\SqL X.K H p (bs.map V.bl)/\Q (.bl (bs.all (λz=>z))) H):=by
 intro pins s Y H xs us Q I r h;obtain⟨l,bs,rfl,hl,q⟩:=h;obtain⟨u,rfl,ru⟩:=eW r;cases ru;obtain⟨its,rv,pl,hz⟩:=I.list hl;have eb:=lF rv;subst eb;have hL:=pl.isList;have hlt:l<s.heap.objs.size:=by obtain⟨_,e,_⟩:=hL;exact N1 e
 refine call_all_walk (wpAny_pyIter_list hL ?_);refine⟨s.heap.objs.size,[s.heap.objs.size,l],[s.heap.objs.size],_,_,_,λi=>bs.getD i true,rfl,Walks.list (A:=X.A.in1) (I.ok.hd hc) _ l (Ob hlt) (bs.map Value.bool).toArray,
  ⟨⟨_,N2 _ rfl,rfl,rfl⟩,hL.push _⟩,λi v s' Q' E' hP hQ=>?_,λh' tk hk=>?_⟩
 ·have hP':(bs.map Value.bool)[i]?=some v:=by simpa using hP
  rw[getElem?_map]at hP';cases e:bs[i]? with
  |none=>rw[e]at hP';cases hP'
  |some b=>
   rw[e]at hP';cases hP';have e':bs.getD i true=b:=by rw[List.getD_eq_getElem?_getD,e];rfl
   dsimp only at hQ;rw[e']at hQ;exact wpAny_truthy_bool hQ
 ·have e:((List.range (bs.map Value.bool).toArray.size).all λi=>bs.getD i true)=bs.all (λz=>z):=by
   rw[size_toArray,length_map];exact nU bs
  rw[e];exact⟨.bl _,H,I.kept λb o ho=>hk b o (λhm=>by rw[mem_singleton.mp hm]at ho;exact Oh _ (N1 ho)) (NX _ ho),rfl,q⟩
def wH:NS->Option (List Bool)
 |[]=>some []
 |d::ds=>d.asB.bind λb=>(wH ds).bind λr=>some (b::r)
noncomputable def fu:D->NI
 |.lst ds=>some ds
 |_=>none
theorem cA {K} (e:fu d=some ds) (h:Is K H d v):∃p xs,v=.ref p/\SqL K H p xs/\IsL K H ds xs:=by
 cases d with
 |lst es=>cases e;exact h
 |_=>cases e
def lG:NS->NU:=un1 λd=>(fu d).bind λds=>(wH ds).bind λbs=>some (.bl (bs.all (λz=>z)))
theorem oV {K}:∀ {ds:NS} {bs:List Bool} {xs:List V},wH ds=some bs->IsL K H ds xs->xs=bs.map V.bl
 |[],_,_,e,l=>by cases e;exact l
 |d::ds,_,_,e,⟨x,r,z,h,l⟩=>by
  obtain⟨b,e1,e⟩:=Op e;obtain⟨bs,e2,e⟩:=Op e;cases e;cases asB_some e1;rw[z,oV e2 l,show x=.bl b from h];rfl
theorem rn_all:RnD X.K (λxs H Q=>∃ (p:Addr) (bs:List Bool),xs=[.ref p]/\SqL X.K H p (bs.map V.bl)/\Q (.bl (bs.all (λz=>z))) H) lG:=λO H xs ds d Q hd l e k=>by
 obtain⟨c,rfl,e⟩:=aW e;obtain⟨es,e1,e2⟩:=Op e;obtain⟨bs,e3,e4⟩:=Op e2;cases e4;obtain⟨v,rfl,h⟩:=is1 l;obtain⟨p,ys,rfl,q,l2⟩:=cA e1 h;rw[oV e3 l2]at q;exact⟨p,bs,rfl,msk_le.seq q,k _ H (Same.refl _) rfl⟩
noncomputable def bQ:D->Bool
 |.non=>true
 |.bl _=>true
 |.int _=>true
 |.str _=>true
 |_=>false
noncomputable def toV:D->V
 |.non=>.non
 |.bl b=>.bl b
 |.int i=>.int i
 |.str x=>.str x
 |_=>.non
theorem kJ {K} (f:bQ d=true) (h:Is K H d v):v=toV d/\fj v=true:=by
 cases d<;>first|(cases(h);exact⟨rfl,rfl⟩)|cases f
theorem lH {K}:∀ {ds:NS} {xs:List V},ds.all bQ=true->IsL K H ds xs->xs=ds.map toV/\xs.all fj=true
 |[],_,_,l=>by cases(show _=[]from l);exact⟨rfl,rfl⟩
 |d::ds,_,f,⟨x,r,z,h,l⟩=>by
  rw[List.all_cons,and_eq_true]at f;obtain⟨e1,e2⟩:=kJ f.1 h;obtain⟨e3,e4⟩:=lH f.2 l;rw[z];exact⟨by rw[e1,e3];rfl,by rw[List.all_cons,e2,e4];rfl⟩
def inL (x:D) (ds:NS):Bool:=inV (toV x) (ds.map toV)
def inD:D->D->NU
 |x,.lst ds=>if bQ x&&ds.all bQ then some (.bl (inL x ds))else none
 |x,.tup ds=>if bQ x&&ds.all bQ then some (.bl (inL x ds))else none
 |x,.dct ks _=>(Cd x).bind λk=>some (.bl (ks.any λj=>decide (j=k)))
 |_,_=>none
def L0:R2:=λx y H Q=>∃p kvs k,y=.ref p/\x=kV k/\Rd H p (.dK kvs)/\Q (.bl (kvs.any λkv=>decide (kv.1=k))) H
def JJ (K:Frag):R2:=λx y H Q=>rIn K false x y H Q\/L0 x y H Q
theorem op_inA (hu:X.A.units+1<cLine):OpR X (compareOp .In) (JJ X.K):=λpins s Y H x y v u Q I rx ry h=>by
 rcases h with h|⟨p,kvs,k,rfl,rfl,e,q⟩
 ·exact wz pins s Y H x y v u Q I rx ry h
 ·cases ry;refine LY hu I (.inl ⟨kvs,k,e,rfl,rfl⟩) rx λs' I'=>⟨.bl (gJ kvs k).isSome,H,I',rfl,?_⟩;rw[yx]at q;exact q
theorem r_in {K}:R2D K (JJ K) inD:=λO H x y dx dy d Q hd ix iy e k=>by
 cases dy with
 |lst ds=>
  obtain⟨h1,h2⟩:=az (e);rw[and_eq_true]at h1;subst h2;obtain⟨p,xs,rfl,q,l⟩:=iy;obtain⟨e1,e2⟩:=kJ h1.1 ix;obtain⟨e3,e4⟩:=lH h1.2 l;exact .inl ⟨p,xs,rfl,.inl (msk_le.seq q),e2,e4,k _ H (Same.refl _) (by rw[e1,e3];rfl)⟩
 |dct ks ds=>
  obtain⟨j,e1,e2⟩:=Op (e);cases e2;obtain⟨p,kvs,rfl,q,rfl,_⟩:=iy;exact .inr ⟨p,kvs,j,rfl,oU e1 ix,msk_le.rd q,k _ H (Same.refl _) (by show V.bl _=V.bl _;rw[List.any_map];rfl)⟩
 |tup ds=>
  obtain⟨h1,h2⟩:=az (e);rw[and_eq_true]at h1;subst h2;obtain⟨p,xs,rfl,q,l⟩:=iy;obtain⟨e1,e2⟩:=kJ h1.1 ix;obtain⟨e3,e4⟩:=lH h1.2 l;exact .inl ⟨p,xs,rfl,.inr (msk_le.seqT q),e2,e4,k _ H (Same.refl _) (by rw[e1,e3];rfl)⟩
 |_=>cases e
noncomputable def bR:D->Option String
 |.non=>some "NoneType"
 |.bl _=>some "bool"
 |.int _=>some "int"
 |.str _=>some "str"
 |.tup _=>some "tuple"
 |.lst _=>some "list"
 |_=>none
noncomputable def isI (T n:String):Bool:=T==n||(T=="bool"&&n=="int")
noncomputable def uY (n:String):Bool:=["int","bool","str","list","tuple","dict"].contains n
theorem yD (K:Frag) (hT:bR d=some T) (hn:uY n=true):PySem.W.kitOne K (.type T) (.type n)=some (isI T n):=by
 have hn':n="int"\/n="bool"\/n="str"\/n="list"\/n="tuple"\/n="dict":=by
  simpa [uY] using hn
 cases d<;>first
  |(cases hT;rcases hn' with rfl|rfl|rfl|rfl|rfl|rfl<;>rfl)
  |cases hT
theorem Cg {Y:St} {x} {u c} {b} (I:Inv X pins Y H s) (h:Is X.K H d x) (rx:RelV x u) (hT:bR d=some T) (e:PySem.W.kitOne X.K (.type T) c=some b) (hq:∀tk,Q (.bool b) {s with toks:=tk}):wpAny (!3) A (call (.builtin "isinstance") [u,c]) Q E s:=by
 cases d with
 |non=>cases hT;cases(h);cases(rx);exact PySem.W.kia_one PySem.W.kitx_none I.kIn True.intro e (λz=>nomatch z) hq
 |bl y=>cases hT;cases(h);cases(rx);exact PySem.W.kia_one PySem.W.kitx_bool I.kIn True.intro e (λz=>nomatch z) hq
 |int i=>cases hT;cases(h);obtain⟨t,q⟩:=(rx);cases q;exact PySem.W.kia_one PySem.W.kitx_int I.kIn True.intro e (λz=>nomatch z) hq
 |str i=>cases hT;cases(h);obtain⟨t,q⟩:=(rx);cases q;exact PySem.W.kia_one PySem.W.kitx_str I.kIn True.intro e (λz=>nomatch z) hq
 |tup ds=>
  cases hT;obtain⟨a,xs,rfl,q,l⟩:=h;cases(show u=Value.ref a from rx);obtain⟨its,_,⟨o,h1,h2,_⟩,_⟩:=I.tuple q;exact PySem.W.kia_one PySem.W.kitx_tuple I.kIn ⟨o,h1,h2⟩ e (λz=>nomatch z) hq
 |lst ds=>
  cases hT;obtain⟨a,xs,rfl,q,l⟩:=h;cases(show u=Value.ref a from rx);obtain⟨its,_,⟨o,n,h1,h2,_⟩,_⟩:=I.list q;exact PySem.W.kia_one PySem.W.kitx_list I.kIn ⟨o,h1,h2⟩ e (λz=>nomatch z) hq
 |_=>cases hT
theorem Ch {Y:St} {x} {b} (I:Inv X pins Y H s) (h:Is X.K H d x) (rx:RelV x u) (hT:bR d=some T) (htp:s.heap.get? tp=some ⟨.type "tuple",dd,.seq its.toArray n,sl⟩) (e:PySem.W.kitAny X.K (.type T) its=some b) (hq:∀tk,Q (.bool b) {s with toks:=tk}):wpAny (!3) A (call (.builtin "isinstance") [u,.ref tp]) Q E s:=by
 cases d with
 |non=>cases hT;cases(h);cases(rx);exact PySem.W.kia_tup PySem.W.kitx_none I.kIn True.intro htp e (λz=>nomatch z) hq
 |bl y=>cases hT;cases(h);cases(rx);exact PySem.W.kia_tup PySem.W.kitx_bool I.kIn True.intro htp e (λz=>nomatch z) hq
 |int i=>cases hT;cases(h);obtain⟨t,q⟩:=(rx);cases q;exact PySem.W.kia_tup PySem.W.kitx_int I.kIn True.intro htp e (λz=>nomatch z) hq
 |str i=>cases hT;cases(h);obtain⟨t,q⟩:=(rx);cases q;exact PySem.W.kia_tup PySem.W.kitx_str I.kIn True.intro htp e (λz=>nomatch z) hq
 |tup ds=>
  cases hT;obtain⟨a,xs,rfl,q,l⟩:=h;cases(show u=Value.ref a from rx);obtain⟨its,_,⟨o,h1,h2,_⟩,_⟩:=I.tuple q;exact PySem.W.kia_tup PySem.W.kitx_tuple I.kIn ⟨o,h1,h2⟩ htp e (λz=>nomatch z) hq
 |lst ds=>
  cases hT;obtain⟨a,xs,rfl,q,l⟩:=h;cases(show u=Value.ref a from rx);obtain⟨its,_,⟨o,n,h1,h2,_⟩,_⟩:=I.list q;exact PySem.W.kia_tup PySem.W.kitx_list I.kIn ⟨o,h1,h2⟩ htp e (λz=>nomatch z) hq
 |_=>cases hT
def tyD:D->Option String
 |.ty n=>if uY n then some n else none
 |_=>none
theorem qP (h:tyD d=some n):d=.ty n/\uY n=true:=by
 cases d with
 |ty m=>obtain⟨h1,h2⟩:=az h;subst h2;exact⟨rfl,h1⟩
 |_=>cases h
def yE:NS->Option (List String)
 |[]=>some []
 |d::ds=>(tyD d).bind λn=>(yE ds).bind λr=>some (n::r)
noncomputable def FY:D->NI
 |.tup ds=>some ds
 |_=>none
theorem Ci {K} (e:FY d=some ds) (h:Is K H d v):∃p xs,v=.ref p/\SqT K H p xs/\IsL K H ds xs:=by
 cases d with
 |tup es=>cases e;exact h
 |_=>cases e
def lI (c:D):Option (List String):=match tyD c with
 |some n=>some [n]
 |none=>(FY c).bind yE
def ff:NS->NU:=un2 λd c=>(bR d).bind λT=>(lI c).bind λns=>some (.bl (ns.any (isI T)))
theorem nV {K} (hT:bR d=some T):∀ {cs:NS} {ns:List String} {xs:List V} {us:NK},yE cs=some ns->IsL K H cs xs->Vals xs us->PySem.W.kitAny K (.type T) us=some (ns.any (isI T))
 |[],_,_,_,e,l,r=>by
  cases e;cases(show _=[]from l);cases r;rfl
 |c::cs,ns,_,_,e,⟨x,xr,z,h,l⟩,r=>by
  obtain⟨n,e1,e2⟩:=Op e;obtain⟨ms,e3,e4⟩:=Op e2;cases e4;obtain⟨rfl,hk⟩:=qP e1;subst z;cases r with
  |cons r1 r2=>
   cases(show x=.ty n from h);cases(show _=Value.type n from r1);show(match PySem.W.kitOne K (.type T) (.type n)with|some true=>some true|some false=>PySem.W.kitAny K (.type T) _|none=>none)=_;rw[yD K hT hk,nV hT e3 l r2,List.any_cons];cases isI T n<;>rfl
theorem call_isi:dD X (.builtin "isinstance") (λxs H Q=>∃d c T ns,IsL X.K H [d,c] xs/\bR d=some T/\lI c=some ns/\Q (.bl (ns.any (isI T))) H):=by
 intro pins s Y H xs us Q I r h;obtain⟨d,c,T,ns,l,hT,e,q⟩:=h;obtain⟨x,y,rfl,hx,hy⟩:=is2 l;obtain⟨u,w',rfl,r1,r2⟩:=uP r;unfold lI at e;split at e
 ·rename_i n hn;cases e;obtain⟨rfl,hk⟩:=qP hn;cases(hy);cases(r2);refine Cg I hx r1 hT (yD X.K hT hk) λtk=>⟨.bl _,H,I.tok tk,rfl,?_⟩;have e1:([n].any (isI T))=isI T n:=by simp
  rw[e1]at q;exact q
 ·obtain⟨cs,e1,e2⟩:=Op e;obtain⟨tp,ys,rfl,hq,hl⟩:=Ci e1 hy;cases(r2);obtain⟨its,rv,⟨o,h1,h2,n,h3⟩,_⟩:=I.tuple hq;obtain⟨oc,od,oda,osl⟩:=o;cases(h2);cases(h3);exact Ch I hx r1 hT h1 (nV hT e2 hl rv) λtk=>⟨.bl _,H,I.tok tk,rfl,q⟩
theorem rn_isi:RnD X.K (λxs H Q=>∃d c T ns,IsL X.K H [d,c] xs/\bR d=some T/\lI c=some ns/\Q (.bl (ns.any (isI T))) H) ff:=λO H xs ds d Q hd l e k=>by
 obtain⟨d0,c,rfl,e⟩:=ii e;obtain⟨T,e1,e2⟩:=Op e;obtain⟨ns,e3,e4⟩:=Op e2;cases e4;exact⟨d0,c,T,ns,l.full,e1,e3,k _ H (Same.refl _) rfl⟩
end
theorem PE.ex {ι:Type} {t:ι->TE} (h:∀z,PE X e (t z)):PE X e (λY H Q=>∃z,t z Y H Q):=λpins s Y H Q I ⟨z,q⟩=>h z pins s Y H Q I q
theorem PTs.ex {ι:Type} {t:ι->TT} (h:∀z,PTs X e (t z)):PTs X e (λY H Q=>∃z,t z Y H Q):=λpins s Y H Q I ⟨z,q⟩=>h z pins s Y H Q I q
theorem PG.ex {ι:Type} {t:ι->TG} (h:∀z,PG X e (t z)):PG X e (λv Y H Q=>∃z,t z v Y H Q):=λpins s Y H v u Q I r ⟨z,q⟩=>h z pins s Y H v u Q I r q
theorem PSs.ex {ι:Type} {t:ι->TS} (h:∀z,PSs X e (t z)):PSs X e (λD Y H=>∃z,t z D Y H):=λpins s Y H D I ⟨z,q⟩=>h z pins s Y H D I q
def jS (K:Frag) (Hm:Hp) (J:It) (ds:NS):Prop:=∀ (i:Nat) (H:Hp) (O:NR),Same Hm (msk O H)->(∀b,O b=true->H b≠none)->
 (∀d,ds[i]?=some d->J.go i H/\∀x H3,J.yld i H x H3->Same H H3/\Is K (msk O H3) d x)/\(ds.length<=i->J.stop i H)
def tJ (K:Frag) (O:NR) (U:Vv) (o:NI):TI:=λY H R=>VE K O Y H U/\∃ds,o=some ds/\∀J H',Same H H'->jS K (msk O H') J ds->R J H'
def PJ (X:Cx) (tg iter:Expr) (f:qm):Prop:=∀O U,PI X tg iter (tJ X.K O U (f U))
section
variable {X:Cx} {tg l e:Expr} {pos:Pos}
noncomputable def L3 (K:Frag) (tl:TE):TI:=λY H R=>tl Y H λx H1=>∃a,x=.ref a/\(((∃xs,SqL K H1 a xs)/\R (Itl K a) H1)\/((∃xs,SqT K H1 a xs)/\R (Itt K a) H1))
theorem FZ (hl:PE X l tl):PI X tg l (L3 X.K tl):=by
 intro pins s Y H R I h;refine thn (hl pins s Y H _ I h) λv s1 ⟨x,H1,I1,r1,q1⟩=>?_;obtain⟨a,e,q⟩:=q1;subst e;cases r1;have fin:∀b∈[s1.heap.objs.size],gG X pins H1 b:=λb hb=>by
  have e:b=s1.heap.objs.size:=by simpa using hb
  subst e;exact I1.fpOk (Om _) (I1.hok.fresh (Om _))
 rcases q with⟨⟨xs,hq⟩,q⟩|⟨⟨xs,hq⟩,q⟩
 ·obtain⟨its,rv,p,hz⟩:=I1.list hq;refine wpAny_pyIter_list p.isList ?_;exact⟨s1.heap.objs.size,[s1.heap.objs.size],_,_,H1,rfl,I1.kept λb o e=>NX _ e,wq a _,⟨_,N2 _ rfl,rfl,rfl⟩,fin,q⟩
 ·obtain⟨its,rv,p,hz⟩:=I1.tuple hq;refine wpAny_pyIter_tuple (p) ?_;exact⟨s1.heap.objs.size,[s1.heap.objs.size],_,_,H1,rfl,I1.kept λb o e=>NX _ e,sJ a _,⟨_,N2 _ rfl,rfl,rfl⟩,fin,q⟩
theorem wI {K} (q:SqL K Hm a xs) (il:IsL K Hm ds xs):jS K Hm (Itl K a) ds:=λi H O s hd=>by
 have q':=(s.trans msk_le).seq q;refine⟨λd hi=>?_,λhi=>⟨xs,q',by rw[<-il.len];exact hi⟩⟩;obtain⟨x,hx,ix⟩:=il.get hi;refine⟨⟨xs,x,q',hx⟩,λy H3 ⟨e,hy⟩=>?_⟩;subst e;have:=hy xs q';rw[hx]at this;cases this;exact⟨Same.refl _,Is.mono s d x ix⟩
theorem yF {K} (q:SqT K Hm a xs) (il:IsL K Hm ds xs):jS K Hm (Itt K a) ds:=λi H O s hd=>by
 have q':=(s.trans msk_le).seqT q;refine⟨λd hi=>?_,λhi=>⟨xs,q',by rw[<-il.len];exact hi⟩⟩;obtain⟨x,hx,ix⟩:=il.get hi;refine⟨⟨xs,x,q',hx⟩,λy H3 ⟨e,hy⟩=>?_⟩;subst e;have:=hy xs q';rw[hx]at this;cases this;exact⟨Same.refl _,Is.mono s d x ix⟩
theorem F3 (h:PP X l f):PJ X tg l (λU=>(f U).bind seqD):=λO U=>(FZ (h O U)).imp λY H R ⟨E,ds,q,k⟩=>by
 obtain⟨d,e1,q⟩:=Op q;refine⟨E,d,e1,λv H1 s1 i1=>?_⟩;obtain⟨a,xs,rfl,t,il⟩:=eH q i1;rcases t with t|t
 ·exact⟨a,rfl,.inl ⟨⟨xs,msk_le.seq t⟩,k _ H1 s1 (wI t il)⟩⟩
 ·exact⟨a,rfl,.inr ⟨⟨xs,msk_le.seqT t⟩,k _ H1 s1 (yF t il)⟩⟩
noncomputable def kf (lo:Int) (n:Nat):NS:=(!6).map λ(i:Nat)=>D.int (lo+(i:Int))
theorem tu {K} {lo}:jS K Hm (Itr lo n) (kf lo n):=λi H O s hd=>by
 have hl:(kf lo n).length=n:=by simp[kf]
 refine⟨λd hi=>?_,λhi=>by rw[hl]at hi;exact hi⟩;have hin:i<n:=by
  have:=(N4.mp hi).1;rw[hl]at this;exact this
 refine⟨hin,λx H3 ⟨e,hx⟩=>?_⟩;subst e hx;have:d=.int (lo+(i:Int)):=by
  simp[kf,hin]at hi;exact hi.symm
 subst this;exact⟨Same.refl _,rfl⟩
noncomputable def lJ:D->NV
 |.int i=>some i
 |_=>none
theorem intD_some (h:lJ d=some i):d=.int i:=by
 cases d<;>first|(cases h;rfl)|cases h
def inR (j:Int):Prop:=-(2^62)<=j/\j<2^62
instance (j:Int):Decidable (inR j):=Classical.propDecidable _
def lK:NS->NI:=un1 λd=>(lJ d).bind λj=>if inR j then some (kf 0 j.toNat)else none
theorem wJ (hg:Gl X "range") (hm:X.mg "range"=none) (ha:PX X [e] fa) (hs:starEach [e] X.env=[(false,eval e X.env)]:=by rfl):PJ X tg (.Call (.Name "range" p) [e] [] pos) (λU=>(fa U).bind lK):=
 λO U=>(wr hg hm (ha O U) hs).imp λY H R ⟨E,ds,q,k⟩=>by
 obtain⟨as,e1,q⟩:=Op q
 refine⟨E,as,e1,λvs H1 s1 il=>?_⟩
 obtain⟨c,rfl,q1⟩:=aW q
 obtain⟨j,q2,q3⟩:=Op q1
 obtain⟨h1,h2⟩:=az q3
 subst h2
 obtain⟨v,rfl,iv⟩:=is1 il
 cases intD_some q2
 have h1':=h1
 exact⟨j,by rw[show v=.int j from iv],h1'.1,h1'.2,k _ H1 s1 tu⟩
def tG (K:Frag) (O:NR) (U:Vv) (d:D) (ks:NO) (o:Option Vv):TG:=λv Y H Q=>VE K O Y H U/\Is K (msk O H) d v/\∃U',o=some U'/\
 ∀Y',VE K O Y' H U'->Y'.length=Y.length->(∀ (j:Nat) (w:V),j ∉ ks->Y[j]?=some (some w)->Y'[j]?=some (some w))->Q Y' H
def PGD (X:Cx) (ks:NO) (tg:Expr) (g:D->Vv->Option Vv):Prop:=∀O U d,PG X tg (tG X.K O U d ks (g d U))
def tGs (K:Frag) (O:NR) (U:Vv) (ds:NS) (ks:NO) (o:Option Vv):TGs:=λvs Y H Q=>VE K O Y H U/\IsL K (msk O H) ds vs/\∃U',o=some U'/\
 ∀Y',VE K O Y' H U'->Y'.length=Y.length->(∀ (j:Nat) (w:V),j ∉ ks->Y[j]?=some (some w)->Y'[j]?=some (some w))->Q Y' H
def wK (X:Cx) (ks:NO) (ts:NT) (g:NS->Vv->Option Vv):Prop:=∀O U ds,PGs X ts (tGs X.K O U ds ks (g ds U))
noncomputable def gNm (i:Nat):D->Vv->Option Vv:=λd U=>some (U.set i (some d))
theorem Cj (hN:X.N.Nodup) (hi:X.N[i]?=some x) (hx:Loc X.env.scope x) (hk:i∈ks) (hf:X.fn x=true\/X.env.scope.names.lookup x=some .local:=by exact !33):PGD X ks (.Name x pos) (gNm i):=
 λO U d=>(uL hN hi hx hf).imp λv Y H Q ⟨E,iv,U',e,k⟩=>by
 cases e
 refine k _ (E.set iv) (by simp) λj w hj hw=>?_
 rw[List.getElem?_set_ne (λ(z:i=j)=>hj (by rw[<-z];exact hk))];exact hw
theorem PGs.imp (h:PGs X ts t) (k:∀v Y H Q,t' v Y H Q->t v Y H Q):PGs X ts t':=λpins s Y H vs us Q I r q=>h pins s Y H vs us Q I r (k _ _ _ _ q)
noncomputable def aX:NS->Vv->Option Vv:=λds U=>match ds with|[]=>some U|_=>none
def ao (g:D->Vv->Option Vv) (gs:NS->Vv->Option Vv):NS->Vv->Option Vv:=λds U=>match ds with|d::r=>(g d U).bind λU1=>gs r U1|_=>none
theorem Ck:wK X ks [] aX:=λO U ds=>pgs_nil.imp λvs Y H Q ⟨E,il,U',e,k⟩=>by
 cases ds with
 |nil=>cases e;exact⟨il,k Y E rfl λ_ _ _ h=>h⟩
 |cons _ _=>cases e
theorem PGs.ex {e} {ι:Type} {t:ι->TGs} (h:∀z,PGs X e (t z)):PGs X e (λv Y H Q=>∃z,t z v Y H Q):=λpins s Y H v u Q I r ⟨z,q⟩=>h z pins s Y H v u Q I r q
theorem gsd_cons (h1:PGD X ks e g) (h2:wK X ks ts gs) (hs:(assignEach (e::ts) X.env).map (·.2)=assign e X.env::(assignEach ts X.env).map (·.2):=by rfl):wK X ks (e::ts) (ao g gs):=λO U ds=>by
 cases ds with
 |nil=>exactλpins s Y H vs us Q I r ⟨_,_,U',e,_⟩=>by cases e
 |cons d r=>
  refine(qE (h1 O U d) (PGs.ex λz:Vv=>h2 O z r) hs).imp λvs Y H Q ⟨E,⟨x,xr,z,ix,il⟩,U',e,k⟩=>?_;obtain⟨U1,e1,e2⟩:=Op (e);refine⟨x,xr,z,E,ix,U1,e1,λY1 E1 l1 k1=>⟨U1,E1,il,U',e2,λY2 E2 l2 k2=>?_⟩⟩;exact k Y2 E2 (l2.trans l1) λj w hj hw=>k2 j w hj (k1 j w hj hw)
def gTp (n:Nat) (gs:NS->Vv->Option Vv):D->Vv->Option Vv:=λd U=>match d with|.tup ds=>if ds.length=n then gs ds U else none|_=>none
theorem F4 {k n} (hc:X.calm=true) (h:wK X ks ts gs) (hn:(assignEach ts X.env).length=n:=by rfl) (hst:(assignEach ts X.env).findIdx? (·.1)=none:=by rfl):PGD X ks (.Tuple ts k pos) (gTp n gs):=λO U d=>by
 refine(xQ hc (PGs.ex λz:NS=>h O U z) hn hst).imp λv Y H Q ⟨E,iv,U',e,k⟩=>?_;cases d with
 |tup ds=>
  obtain⟨a,xs,rfl,t,il⟩:=iv;have e':(if ds.length=n then gs ds U else none)=some U':=e;split at e'
  ·exact⟨a,xs,rfl,msk_le.seqT t,by rw[<-il.len];assumption,ds,E,il,U',e',k⟩
  ·cases e'
 |_=>cases e
end
noncomputable def gu (step:D->Option (NU)):NS->NI
 |[]=>some []
 |d::ds=>(step d).bind λo=>(gu step ds).bind λr=>some (match o with|some y=>y::r|none=>r)
noncomputable def jT (g:D->Vv->Option Vv) (ft:Fr) (fe:wp) (U:Vv) (d:D):Option (NU):=(g d U).bind λU1=>(ft U1).bind λc=>if c=true then(fe U1).bind λy=>some (some y)else some none
def aj (ks:NO) (fi:qm) (g:D->Vv->Option Vv) (ft:Fr) (fe:wp):qm:=λU=>(fi U).bind λds=>bC (gu (jT g ft fe (d4 ks U)) ds)
def PQs (X:Cx) (ifs:NT) (f:Fr):Prop:=∀O U,PTs X ifs (tPT X.K O U (f U))
theorem PTs.imp (h:PTs X ifs t) (k:∀Y H Q,t' Y H Q->t Y H Q):PTs X ifs t':=λpins s Y H Q I q=>h pins s Y H Q I (k _ _ _ q)
theorem Cm:PQs X [] (λ_=>some true):=λO U=>pts_nil.imp λY H Q ⟨E,b,e,k⟩=>by cases e;exact k H (Same.refl _)
theorem Co (h:PQ X c f):PQs X [c] f:=λO U=>BZ (h O U)
section
variable {X:Cx} {tg iter elt:Expr} {pos:Pos}
abbrev xG (K:Frag) (ks:NO) (g:D->Vv->Option Vv):TG:=λv Y H Q=>∃z:(NR)×Vv×D,tG K z.1 z.2.1 z.2.2 ks (g z.2.2 z.2.1) v Y H Q
abbrev xT (K:Frag) (f:Fr):TT:=λY H Q=>∃z:(NR)×Vv,tPT K z.1 z.2 (f z.2) Y H Q
abbrev xE (K:Frag) (f:wp):TE:=λY H Q=>∃z:(NR)×Vv,tP K z.1 z.2 (f z.2) Y H Q
theorem yG {K} (h:tPF K O U (aj ks fi g ft fe U) Y H Q):
  qK (tJ K O U (fi U)) ks (xG K ks g) (xT K ft) (xE K fe) Y H Q:=by
 obtain⟨E,tot,e,k⟩:=h
 obtain⟨ds,e1,e⟩:=Op e
 obtain⟨e2,hz⟩:=cj e
 refine⟨E,ds,e1,λJ H1 s1 it=>⟨λi m ys H2=>i<=ds.length/\m=ds.length-i/\Same H1 H2/\∃rs rest,IsL K (msk O H2) rs ys/\gu (jT g ft fe _) (ds.drop i)=some rest/\tot=rs++rest,
  ⟨ds.length,Nat.zero_le _,by simp,Same.refl _,[],tot,rfl,by simpa using e2,rfl⟩,?_⟩⟩
 rintro i m ys H2 ⟨hi,rfl,s2,rs,rest,il,er,et⟩
 have E2:=E.grow (!28)
 have hit:=it i H2 O s2.msk E2.dom
 have hlen:ys.length<sizeLine:=by
  rw[<-il.len];have:rs.length<=tot.length:=by rw[et,length_append];omega
  omega
 by_cases hlt:i<ds.length
 ·refine .inr ?_;have hd:=getElem?_eq_getElem hlt;obtain⟨go,yl⟩:=hit.1 _ hd;refine⟨go,hlen,λx H3 hy=>?_⟩;obtain⟨s3,ix⟩:=yl x H3 hy;rw[List.drop_eq_getElem_cons hlt]at er;obtain⟨o,eo,er⟩:=Op (er);obtain⟨rest',er',er⟩:=Op er;obtain⟨U1,g1,eo⟩:=Op eo;obtain⟨c,c1,eo⟩:=Op eo;refine⟨⟨O,d4 ks U,ds[i]⟩,(E2.grow s3).wiped ks,ix,U1,g1,λY4 E4 l4 k4=>⟨⟨l4,λj w hw=>?_⟩,⟨O,U1⟩,E4,c,c1,λH5 s5=>?_⟩⟩
  ·exact k4 j w (wipe_iff.mp hw).2 hw
  ·have hm:ds.length-(i+1)<ds.length-i:=by omega
   cases c with
   |true=>
    refine FJ ?_;obtain⟨y,y1,eo⟩:=Op eo;cases eo;refine⟨⟨O,U1⟩,E4.grow s5,y,y1,λv H6 s6 iv=>⟨_,hm,hlt,rfl,s2.trans (s3.trans (s5.trans s6)),rs++[y],rest',?_,er',?_⟩⟩
    ·exact(IsL.mono (s3.trans (s5.trans s6)).msk _ _ il).app ⟨v,[],rfl,iv,rfl⟩
    ·rw[et,<-Option.some.inj er,List.append_assoc];rfl
   |false=>
    refine FI ?_;cases eo;refine⟨_,hm,hlt,rfl,s2.trans (s3.trans s5),rs,rest',IsL.mono (s3.trans s5).msk _ _ il,er',?_⟩;rw[et,<-Option.some.inj er]
 ·have hie:i=ds.length:=by omega
  subst hie;refine .inl ⟨hit.2 (Om _),Oi hlen,λp hp=>?_⟩;rw[List.drop_of_length_le (le_refl _)]at er;cases er;rw[List.append_nil]at et;subst et;exact k p ys H2 (!28) hp il
end
mutual
def eqD:D->D->Bool
 |.non,.non=>true
 |.bl a,.bl b=>a==b
 |.bl a,.int b=>(if a then 1 else 0)==b
 |.int a,.bl b=>a==(if b then 1 else 0)
 |.int a,.int b=>a==b
 |.str a,.str b=>a==b
 |.tup a,.tup b=>eqL a b
 |.lst a,.lst b=>eqL a b
 |_,_=>false
def eqL:NS->NS->Bool
 |[],[]=>true
 |a::as,b::bs=>eqD a b&&eqL as bs
 |_,_=>false
end
mutual
def dep:D->Nat
 |.tup ds=>de ds+1
 |.lst ds=>de ds+1
 |_=>0
def de:NS->Nat
 |[]=>0
 |d::ds=>max (dep d) (de ds)
end
mutual
def okE:D->Bool
 |.non=>true
 |.bl _=>true
 |.int _=>true
 |.str _=>true
 |.ty _=>false
 |.adr _=>false
 |.tup ds=>okL ds
 |.lst ds=>okL ds
 |.obj _ _ _=>false
 |.dct _ _=>false
def okL:NS->Bool
 |[]=>true
 |d::ds=>okE d&&okL ds
end
mutual
theorem qQ:∀d:D,okE d=true->eqD d d=true
 |.non,_=>rfl
 |.bl a,_=>by show(a==a)=true;simp
 |.int a,_=>by show(a==a)=true;simp
 |.str a,_=>by show(a==a)=true;simp
 |.ty _,h=>by cases h
 |.adr _,h=>by cases h
 |.tup ds,h=>fw ds h
 |.lst ds,h=>fw ds h
 |.obj _ _ _,h=>by cases h
 |.dct _ _,h=>by cases h
theorem fw:∀ds:NS,okL ds=true->eqL ds ds=true
 |[],_=>rfl
 |d::ds,h=>by
  have h':(okE d&&okL ds)=true:=h;rw[and_eq_true]at h';show(eqD d d&&eqL ds ds)=true;rw[qQ d h'.1,fw ds h'.2];rfl
end
section
variable {X:Cx} {pins:NG} {Y:St} {H:Hp} {s:Shared}
theorem Inv.notBoth (I:Inv X pins Y H s) (h:SqT X.K H a xs) (h':SqL X.K H a ys):False:=by
 obtain⟨_,_,⟨o,e,c,_⟩,_⟩:=I.tuple h;obtain⟨_,_,⟨o',n,e',c',_⟩,_⟩:=I.list h';grind
mutual
theorem Is.inj (I:Inv X pins Y H s):∀ (d e:D) (v:V),okE d=true->okE e=true->Is X.K H d v->Is X.K H e v->d=e
 |d,e,v,hd,he,h,h'=>by
  cases d with
  |non=>cases(show v=_ from h);cases e<;>first|exact(N3 he).elim|rfl|(exact absurd (show V.non=_ from h') (by intro z;cases z))|(obtain⟨_,_,z,_⟩:=h';cases z)|cases he
  |bl b=>cases(show v=_ from h);cases e<;>first|exact(N3 he).elim|(cases(show V.bl b=_ from h');rfl)|(exact absurd (show V.bl b=_ from h') (by intro z;cases z))|(obtain⟨_,_,z,_⟩:=h';cases z)|cases he
  |int b=>cases(show v=_ from h);cases e<;>first|exact(N3 he).elim|(cases(show V.int b=_ from h');rfl)|(exact absurd (show V.int b=_ from h') (by intro z;cases z))|(obtain⟨_,_,z,_⟩:=h';cases z)|cases he
  |str b=>cases(show v=_ from h);cases e<;>first|exact(N3 he).elim|(cases(show V.str b=_ from h');rfl)|(exact absurd (show V.str b=_ from h') (by intro z;cases z))|(obtain⟨_,_,z,_⟩:=h';cases z)|cases he
  |ty _=>cases hd
  |adr _=>cases hd
  |obj _ _ _=>cases hd
  |dct _ _=>cases hd
  |tup ds=>
   obtain⟨a,xs,rfl,q,l⟩:=h;cases e with
   |tup es=>
    obtain⟨a',ys,z,q',l'⟩:=h';cases z;cases I.tuple_inj q q';rw[IsL.inj I ds es xs hd he l l']
   |lst es=>
    obtain⟨a',ys,z,q',l'⟩:=h';cases z;exact(I.notBoth q q').elim
   |non=>exact absurd (show V.ref a=_ from h') (by intro z;cases z)
   |bl _=>exact absurd (show V.ref a=_ from h') (by intro z;cases z)
   |int _=>exact absurd (show V.ref a=_ from h') (by intro z;cases z)
   |str _=>exact absurd (show V.ref a=_ from h') (by intro z;cases z)
   |ty _=>cases he
   |adr _=>cases he
   |obj _ _ _=>cases he
   |dct _ _=>cases he
  |lst ds=>
   obtain⟨a,xs,rfl,q,l⟩:=h;cases e with
   |lst es=>
    obtain⟨a',ys,z,q',l'⟩:=h';cases z;cases I.list_inj q q';rw[IsL.inj I ds es xs hd he l l']
   |tup es=>
    obtain⟨a',ys,z,q',l'⟩:=h';cases z;exact(I.notBoth q' q).elim
   |non=>exact absurd (show V.ref a=_ from h') (by intro z;cases z)
   |bl _=>exact absurd (show V.ref a=_ from h') (by intro z;cases z)
   |int _=>exact absurd (show V.ref a=_ from h') (by intro z;cases z)
   |str _=>exact absurd (show V.ref a=_ from h') (by intro z;cases z)
   |ty _=>cases he
   |adr _=>cases he
   |obj _ _ _=>cases he
   |dct _ _=>cases he
theorem IsL.inj (I:Inv X pins Y H s):∀ (ds es:NS) (vs:List V),okL ds=true->okL es=true->IsL X.K H ds vs->IsL X.K H es vs->ds=es
 |[],[],_,_,_,_,_=>rfl
 |[],e::es,vs,_,_,h,⟨x,r,z,_⟩=>by cases(show vs=[]from h);cases z
 |d::ds,[],vs,_,_,⟨x,r,z,_⟩,h=>by cases(show vs=[]from h);cases z
 |d::ds,e::es,vs,hd,he,⟨x,r,z,h1,h2⟩,⟨x',r',z',h1',h2'⟩=>by
  cases z;cases z';have hd':(okE d&&okL ds)=true:=hd;have he':(okE e&&okL es)=true:=he;rw[and_eq_true]at hd' he';rw[Is.inj I d e x hd'.1 he'.1 h1 h1',IsL.inj I ds es r hd'.2 he'.2 h2 h2']
end
theorem bh:∀ (ds es:NS),(((List.range (min ds.length es.length)).all λj=>eqD (ds.getD j .non) (es.getD j .non))&&ds.length==es.length)=eqL ds es
 |[],[]=>rfl
 |[],e::es=>by simp[eqL]
 |d::ds,[]=>by simp[eqL]
 |d::ds,e::es=>by
  have ih:=bh ds es;show(((List.range (min (ds.length+1) (es.length+1))).all _)&&_)=(eqD d e&&eqL ds es);rw[<-ih,show min (ds.length+1) (es.length+1)=min ds.length es.length+1 by omega,List.range_succ_eq_map,List.all_cons,List.all_map];have e1:((d::ds).length==(e::es).length)=(ds.length==es.length):=by simp
  rw[e1,Bool.and_assoc];rfl
end
section
variable {X:Cx} {pins:NG} {Y:St} {H:Hp} {s:Shared}
theorem i6 (A:Around):A.in1.units=A.units+1:=rfl
theorem kK:∀ {ds:NS} {i:Nat} {d:D},ds[i]?=some d->dep d<=de ds
 |[],_,_,h=>by simp at h
 |c::ds,0,d,h=>by
  simp at h;subst h;show dep c<=max (dep c) (de ds);omega
 |c::ds,i+1,d,h=>by
  have:=kK (ds:=ds) (i:=i) (by simpa using h);show dep d<=max (dep c) (de ds);omega
theorem gO:∀ {ds:NS} {i:Nat} {d:D},okL ds=true->ds[i]?=some d->okE d=true
 |[],_,_,_,h=>by simp at h
 |c::ds,0,d,ho,h=>by
  simp at h;subst h;have ho':(okE c&&okL ds)=true:=ho;rw[and_eq_true]at ho';exact ho'.1
 |c::ds,i+1,d,ho,h=>by
  have ho':(okE c&&okL ds)=true:=ho;rw[and_eq_true]at ho';exact gO (ds:=ds) (i:=i) ho'.2 (by simpa using h)
theorem getD_some {ds:NS} (h:ds[i]?=some d):ds.getD i .non=d:=by rw[List.getD_eq_getElem?_getD,h];rfl
theorem d5 (go:∀ (i:Nat) (d e:D) (x y:V) (u w:Value),ds[i]?=some d->es[i]?=some e->Is X.K H d x->Is X.K H e y->RelV x u->RelV y w->SeqAt.EqAt A s u w (eqD d e)) (il:IsL X.K H ds xs) (jl:IsL X.K H es ys) (r:Vals xs us) (q:Vals ys ws) (j:Nat) (h1:j<us.toArray.size) (h2:j<ws.toArray.size):SeqAt.EqAt A s us.toArray[j] ws.toArray[j] (eqD (ds.getD j .non) (es.getD j .non)):=by
 have hx:us[j]?=some us.toArray[j]:=by simp at h1⊢
 have hy:ws[j]?=some ws.toArray[j]:=by simp at h2⊢
 obtain⟨x,e1,r1⟩:=paired_get' r hx;obtain⟨y,e2,r2⟩:=paired_get' q hy;obtain⟨d,e3,i3⟩:=il.get' e1;obtain⟨e,e4,i4⟩:=jl.get' e2;grind
theorem i7 (h:Is X.K H d x) (f:bQ d=true):fj x=true/\x=toV d:=let⟨a,b⟩:=kJ f h;⟨b,a⟩
theorem Cp (f:bQ d=true) (g:bQ e=true):eqV (toV d) (toV e)=eqD d e:=by
 cases d<;>cases e<;>first|exact(N3 f).elim|exact(N3 g).elim|rfl
theorem i8 (ds es:NS) (h:ds.length=es.length):((List.range ds.length).all λj=>eqD (ds.getD j .non) (es.getD j .non))=eqL ds es:=by
 have:=bh ds es;rw[<-this,h];simp
theorem oW (h:ds.length≠es.length):eqL ds es=false:=by
 rw[<-bh];grind
theorem yH (I:Inv X pins Y H s):∀ (n:Nat) (A:Around) (d e:D) (x y:V) (u w:Value),dep d<=n->A.units+n<cLine->okE d=true->okE e=true->Is X.K H d x->Is X.K H e y->RelV x u->RelV y w->SeqAt.EqAt A s u w (eqD d e):=by
 intro n;induction n with
 |zero=>
  intro A d e x y u w hn hu od oe hx hy rx ry;have fd:bQ d=true:=by
   cases d with
   |tup ds=>exact absurd (show de ds+1<=0 from hn) (!1)
   |lst ds=>exact absurd (show de ds+1<=0 from hn) (!1)
   |ty _=>cases od
   |adr _=>cases od
   |obj _ _ _=>cases od
   |dct _ _=>cases od
   |_=>rfl
  have hu':A.units<cLine:=by omega
  cases fe:bQ e with
  |true=>
   obtain⟨f1,e1⟩:=i7 hx fd;obtain⟨f2,e2⟩:=i7 hy fe;rw[<-Cp fd fe,<-e1,<-e2];exact yo rx ry f1 f2
  |false=>
   cases e with
   |tup es=>
    obtain⟨b,ys,rfl,q,l⟩:=hy;cases ry;obtain⟨its,rv,p,_⟩:=I.tuple q;cases d with
    |non=>cases(hx);cases rx;exact SeqAt.EqAt.none_tuple p hu'
    |bl c=>cases(hx);cases rx;exact SeqAt.EqAt.bool_tuple c p hu'
    |int c=>cases(hx);obtain⟨t,rfl⟩:=rx;exact SeqAt.EqAt.int_tuple c t p hu'
    |str c=>cases(hx);obtain⟨t,rfl⟩:=rx;exact SeqAt.EqAt.str_tuple c t p hu'
    |_=>cases fd
   |lst es=>
    obtain⟨b,ys,rfl,q,l⟩:=hy;cases ry;obtain⟨its,rv,p,_⟩:=I.list q;cases d with
    |non=>cases(hx);cases rx;exact SeqAt.EqAt.none_list p.isList hu'
    |bl c=>cases(hx);cases rx;exact SeqAt.EqAt.bool_list c p.isList hu'
    |int c=>cases(hx);obtain⟨t,rfl⟩:=rx;exact SeqAt.EqAt.int_list c t p.isList hu'
    |str c=>cases(hx);obtain⟨t,rfl⟩:=rx;exact SeqAt.EqAt.str_list c t p.isList hu'
    |_=>cases fd
   |ty _=>cases oe
   |adr _=>cases oe
   |obj _ _ _=>cases oe
   |dct _ _=>cases oe
   |_=>cases fe
 |succ n ih=>
  intro A d e x y u w hn hu od oe hx hy rx ry;have hu':A.units<cLine:=by omega
  cases fd:bQ d with
  |true=>
   have h0:dep d<=n:=by
    cases d<;>first|exact Nat.zero_le _|cases fd
   exact ih A d e x y u w h0 (!1) od oe hx hy rx ry
  |false=>
   cases d with
   |tup ds=>
    have hdn:=Nat.le_of_succ_le_succ (hn);obtain⟨a,xs,rfl,q,l⟩:=hx;cases rx;obtain⟨its,rv,p,_⟩:=I.tuple q;cases e with
    |tup es=>
     obtain⟨b,ys,rfl,q',l'⟩:=hy;cases ry;obtain⟨its',rv',p',_⟩:=I.tuple q';by_cases hab:a=b
     ·subst hab;cases I.tuple_inj q q';cases IsL.inj I ds es xs od oe l l';rw[show eqD (.tup ds) (.tup ds)=true from fw ds od];exact SeqAt.EqAt.same _
     ·refine SeqAt.EqAt.of_refs hab ?_;have h:=SeqAt.RcAt.tuples p p' hu' λj h1 h2=>d5 (λi d e x y u w e1 e2 i1 i2 r1 r2=>ih A.in1 d e x y u w (Oa (kK e1) hdn) (by rw[i6];omega) (gO od e1) (gO oe e2) i1 i2 r1 r2) l l' rv rv' j h1 h2;have e1:its.toArray.size=ds.length:=by rw[size_toArray,<-rv.length,l.len]
      have e2:its'.toArray.size=es.length:=by rw[size_toArray,<-rv'.length,l'.len]
      rw[e1,e2,bh]at h;exact h
    |lst es=>
     obtain⟨b,ys,rfl,q',l'⟩:=hy;cases ry;obtain⟨its',rv',p',_⟩:=I.list q';exact SeqAt.EqAt.tuple_list p p'.isList hu'
    |non=>cases(hy);cases ry;exact SeqAt.EqAt.tuple_none p hu'
    |bl c=>cases(hy);cases ry;exact SeqAt.EqAt.tuple_bool c p hu'
    |int c=>cases(hy);obtain⟨t,rfl⟩:=ry;exact SeqAt.EqAt.tuple_int c t p hu'
    |str c=>cases(hy);obtain⟨t,rfl⟩:=ry;exact SeqAt.EqAt.tuple_str c t p hu'
    |ty _=>cases oe
    |adr _=>cases oe
    |obj _ _ _=>cases oe
    |dct _ _=>cases oe
   |lst ds=>
    have hdn:=Nat.le_of_succ_le_succ (hn);obtain⟨a,xs,rfl,q,l⟩:=hx;cases rx;obtain⟨its,rv,p,_⟩:=I.list q;cases e with
    |lst es=>
     obtain⟨b,ys,rfl,q',l'⟩:=hy;cases ry;obtain⟨its',rv',p',_⟩:=I.list q';have e1:its.toArray.size=ds.length:=by rw[size_toArray,<-rv.length,l.len]
     have e2:its'.toArray.size=es.length:=by rw[size_toArray,<-rv'.length,l'.len]
     by_cases hab:a=b
     ·subst hab;cases I.list_inj q q';cases IsL.inj I ds es xs od oe l l';rw[show eqD (.lst ds) (.lst ds)=true from fw ds od];exact SeqAt.EqAt.same _
     ·refine SeqAt.EqAt.of_refs hab ?_;by_cases hl:ds.length=es.length
      ·have h:=SeqAt.RcAt.lists p.isList p'.isList (by rw[e1,e2,hl]) hu' λj h1 h2=>d5 (λi d e x y u w e1 e2 i1 i2 r1 r2=>ih A.in1 d e x y u w (Oa (kK e1) hdn) (by rw[i6];omega) (gO od e1) (gO oe e2) i1 i2 r1 r2) l l' rv rv' j h1 h2;rw[e1,i8 ds es hl]at h;exact h
      ·rw[show eqD (.lst ds) (.lst es)=false from oW hl];exact SeqAt.RcAt.lists_lengths p.isList p'.isList (by rw[e1,e2];simpa using hl) hu'
    |tup es=>
     obtain⟨b,ys,rfl,q',l'⟩:=hy;cases ry;obtain⟨its',rv',p',_⟩:=I.tuple q';exact SeqAt.EqAt.list_tuple p.isList p' hu'
    |non=>cases(hy);cases ry;exact SeqAt.EqAt.list_none p.isList hu'
    |bl c=>cases(hy);cases ry;exact SeqAt.EqAt.list_bool c p.isList hu'
    |int c=>cases(hy);obtain⟨t,rfl⟩:=ry;exact SeqAt.EqAt.list_int c t p.isList hu'
    |str c=>cases(hy);obtain⟨t,rfl⟩:=ry;exact SeqAt.EqAt.list_str c t p.isList hu'
    |ty _=>cases oe
    |adr _=>cases oe
    |obj _ _ _=>cases oe
    |dct _ _=>cases oe
   |ty _=>cases od
   |adr _=>cases od
   |obj _ _ _=>cases od
   |dct _ _=>cases od
   |_=>cases fd
noncomputable def F5:D->D->Bool
 |.tup _,.tup _=>true
 |.lst _,.lst _=>true
 |_,_=>false
def jU (d e:D):Option Bool:=if(bQ d&&bQ e&&xX (toV d) (toV e))=true then some (decide (toV d=toV e))else if(F5 d e&&okE d&&okE e&&decide (dep d<=50))=true then some (eqD d e)else none
def F6 (K:Frag) (neg:Bool):R2:=λx y H Q=>∃d e b,Is K H d x/\Is K H e y/\jU d e=some b/\Q (.bl (if neg then !b else b)) H
theorem cmpEq_cases (h:jU d e=some b):(bQ d=true/\bQ e=true/\xX (toV d) (toV e)=true/\b=decide (toV d=toV e))\/(F5 d e=true/\okE d=true/\okE e=true/\dep d<=50/\b=eqD d e):=by
 unfold jU at h;split at h;simp_all;simp_all
theorem f6 (I:Inv X pins Y H s) (hu:X.A.units+60<cLine) (od:okL ds=true) (oe:okL es=true) (hd:de ds<=50):∀ (i:Nat) (d e:D) (x y:V) (u w:Value),ds[i]?=some d->es[i]?=some e->Is X.K H d x->Is X.K H e y->RelV x u->RelV y w->SeqAt.EqAt X.A.in1 s u w (eqD d e):=
 λi d e x y u w e1 e2 i1 i2 r1 r2=>yH I 50 X.A.in1 d e x y u w (Oa (kK e1) hd) (by rw[i6];omega) (gO od e1) (gO oe e2) i1 i2 r1 r2
theorem yI (hu:X.A.units+60<cLine):OpR X (compareOp .Eq) (F6 X.K false):=by
 intro pins s Y H x y v u Q I rx ry h;obtain⟨d,e,b,hx,hy,hb,q⟩:=h;have hu':X.A.units<cLine:=by omega
 rcases cmpEq_cases hb with⟨f1,f2,sc,rfl⟩|⟨sq,od,oe,hd,rfl⟩
 ·obtain⟨_,e1⟩:=i7 hx f1;obtain⟨_,e2⟩:=i7 hy f2;exact IZ pins s Y H x y v u Q I rx ry ⟨by rw[e1,e2];exact sc,by rw[e1,e2];exact q⟩
 ·cases d with
  |tup ds=>
   cases e with
   |tup es=>
    obtain⟨a,xs,rfl,q1,l⟩:=hx;obtain⟨c,ys,rfl,q2,l'⟩:=hy;cases rx;cases ry;obtain⟨its,rv,p,_⟩:=I.tuple q1;obtain⟨its',rv',p',_⟩:=I.tuple q2;have hd':de ds<=50:=by have:de ds+1<=50:=hd;omega
    have e1:its.toArray.size=ds.length:=by rw[size_toArray,<-rv.length,l.len]
    have e2:its'.toArray.size=es.length:=by rw[size_toArray,<-rv'.length,l'.len]
    have hh:=SeqAt.RcAt.tuples p p' hu' λj h1 h2=>d5 (f6 I hu od oe hd') l l' rv rv' j h1 h2;rw[e1,e2,bh]at hh;exact hh X.prog X.w X.xe _ ⟨.bl _,H,I,rfl,q⟩
   |_=>cases sq
  |lst ds=>
   cases e with
   |lst es=>
    obtain⟨a,xs,rfl,q1,l⟩:=hx;obtain⟨c,ys,rfl,q2,l'⟩:=hy;cases rx;cases ry;obtain⟨its,rv,p,_⟩:=I.list q1;obtain⟨its',rv',p',_⟩:=I.list q2;have hd':de ds<=50:=by have:de ds+1<=50:=hd;omega
    have e1:its.toArray.size=ds.length:=by rw[size_toArray,<-rv.length,l.len]
    have e2:its'.toArray.size=es.length:=by rw[size_toArray,<-rv'.length,l'.len]
    by_cases hl:ds.length=es.length
    ·have hh:=SeqAt.RcAt.lists p.isList p'.isList (by rw[e1,e2,hl]) hu' λj h1 h2=>d5 (f6 I hu od oe hd') l l' rv rv' j h1 h2;rw[e1,i8 ds es hl]at hh;exact hh X.prog X.w X.xe _ ⟨.bl _,H,I,rfl,q⟩
    ·have hh:SeqAt.RcAt X.A s (.ref a) (.ref c) false:=SeqAt.RcAt.lists_lengths p.isList p'.isList (by rw[e1,e2];simpa using hl) hu';rw[show eqD (.lst ds) (.lst es)=false from oW hl]at q;exact hh X.prog X.w X.xe _ ⟨.bl _,H,I,rfl,q⟩
   |_=>cases sq
  |_=>cases sq
theorem yJ (hu:X.A.units+60<cLine):OpR X (compareOp .NotEq) (F6 X.K true):=by
 intro pins s Y H x y v u Q I rx ry h;obtain⟨d,e,b,hx,hy,hb,q⟩:=h;have hu':X.A.units<cLine:=by omega
 rcases cmpEq_cases hb with⟨f1,f2,sc,rfl⟩|⟨sq,od,oe,hd,rfl⟩
 ·obtain⟨_,e1⟩:=i7 hx f1;obtain⟨_,e2⟩:=i7 hy f2;exact I0 pins s Y H x y v u Q I rx ry ⟨by rw[e1,e2];exact sc,by rw[e1,e2];exact q⟩
 ·cases d with
  |tup ds=>
   cases e with
   |tup es=>
    obtain⟨a,xs,rfl,q1,l⟩:=hx;obtain⟨c,ys,rfl,q2,l'⟩:=hy;cases rx;cases ry;obtain⟨its,rv,p,_⟩:=I.tuple q1;obtain⟨its',rv',p',_⟩:=I.tuple q2;have hd':de ds<=50:=by have:de ds+1<=50:=hd;omega
    have e1:its.toArray.size=ds.length:=by rw[size_toArray,<-rv.length,l.len]
    have e2:its'.toArray.size=es.length:=by rw[size_toArray,<-rv'.length,l'.len]
    have hh:=SeqAt.RcNeAt.tuples p p' hu' λj h1 h2=>d5 (f6 I hu od oe hd') l l' rv rv' j h1 h2;rw[e1,e2,bh]at hh;exact hh X.prog X.w X.xe _ ⟨.bl _,H,I,rfl,q⟩
   |_=>cases sq
  |lst ds=>
   cases e with
   |lst es=>
    obtain⟨a,xs,rfl,q1,l⟩:=hx;obtain⟨c,ys,rfl,q2,l'⟩:=hy;cases rx;cases ry;obtain⟨its,rv,p,_⟩:=I.list q1;obtain⟨its',rv',p',_⟩:=I.list q2;have hd':de ds<=50:=by have:de ds+1<=50:=hd;omega
    have e1:its.toArray.size=ds.length:=by rw[size_toArray,<-rv.length,l.len]
    have e2:its'.toArray.size=es.length:=by rw[size_toArray,<-rv'.length,l'.len]
    by_cases hl:ds.length=es.length
    ·have hh:=SeqAt.RcNeAt.lists p.isList p'.isList (by rw[e1,e2,hl]) hu' λj h1 h2=>d5 (f6 I hu od oe hd') l l' rv rv' j h1 h2;rw[e1,i8 ds es hl]at hh;exact hh X.prog X.w X.xe _ ⟨.bl _,H,I,rfl,q⟩
    ·have hh:SeqAt.RcNeAt X.A s (.ref a) (.ref c) true:=SeqAt.RcNeAt.lists_lengths p.isList p'.isList (by rw[e1,e2];simpa using hl) hu';rw[show eqD (.lst ds) (.lst es)=false from oW hl]at q;exact hh X.prog X.w X.xe _ ⟨.bl _,H,I,rfl,q⟩
   |_=>cases sq
  |_=>cases sq
end
def aK (neg:Bool) (d e:D):NU:=(jU d e).bind λb=>some (.bl (if neg then !b else b))
theorem uZ {K}:R2D K (F6 K neg) (aK neg):=λO H x y dx dy d Q hd ix iy e k=>by
 obtain⟨b,e1,e2⟩:=Op e;cases e2;exact⟨dx,dy,b,ix.full,iy.full,e1,k _ H (Same.refl _) rfl⟩
section
variable {X:Cx} {pos:Pos} {a b e:Expr}
theorem room60 (r:Room k A):A.units+60<cLine:=by have:=r.un;omega
theorem JK (r:Room k X.A) (ha:PP X a fa) (hb:PP X b fb):PP X (.Compare a [.Eq] [b] pos) (ab (!29) fa fb):=pp_cmp (yI (room60 r)) uZ ha hb (cO _)
theorem JL (r:Room k X.A) (ha:PP X a fa) (hb:PP X b fb):PP X (.Compare a [.NotEq] [b] pos) (ab (aK true) fa fb):=pp_cmp (yJ (room60 r)) uZ ha hb (cO _)
theorem JM (r:Room k X.A) (ha:PP X a fa) (hb:PP X b fb):PQ X (.Compare a [.Eq] [b] pos) (av (ab (!29) fa fb)):=pq_cmp (yI (room60 r)) uZ ha hb (cO _)
theorem JN (r:Room k X.A) (ha:PP X a fa) (hb:PP X b fb):PQ X (.Compare a [.NotEq] [b] pos) (av (ab (aK true) fa fb)):=pq_cmp (yJ (room60 r)) uZ ha hb (cO _)
structure Cn (K:Frag) (mg:Str->NM) (x:Str) (d:D):Prop where
 ex:∃v u,mg x=some u/\RelV v u/\∀H,Is K H d v
theorem yK (c:Cn X.K X.mg x d) (hg:Gl X x) (hd:(!7)=false:=by decide):PP X (.Name x pos) (λ_=>some d):=by
 obtain⟨v,u,h1,h2,h3⟩:=c.ex;exact B6 hg h1 h2 h3 hd
end
def ItK:Bool->Heap->Addr->Addr->Nat->Prop
 |true,h,it,l,k=>h.IsListIter it l k
 |false,h,it,l,k=>h.IsTupleIter it l k
def CoK:Bool->Heap->Addr->Array Value->Prop
 |true,h,l,its=>h.IsList l its
 |false,h,l,its=>h.IsTuple l its
theorem ItK.at (x:ItK b h it l k) (e:∀o,h.get? it=some o->h'.get? it=some o):ItK b h' it l k:=by
 cases b
 ·exact Heap.IsTupleIter.at x e
 ·exact Heap.IsListIter.at x e
theorem CoK.at (x:CoK b h l its) (e:∀o,h.get? l=some o->h'.get? l=some o):CoK b h' l its:=by
 cases b
 ·obtain⟨o,a,r⟩:=x;exact⟨o,e o a,r⟩
 ·exact Heap.IsList.at x e
theorem ItK.live (x:ItK b h it l k):∃o n vs,h.get? it=some o/\o.cls=.type n/\o.data=.fields vs/\(n="list_iterator"\/n="tuple_iterator"):=by
 cases b
 ·obtain⟨o,e,c,d⟩:=x;exact⟨o,_,_,e,c,d,.inr rfl⟩
 ·obtain⟨o,e,c,d⟩:=x;exact⟨o,_,_,e,c,d,.inl rfl⟩
section
variable {prog:Program} {w:World} {A:Around} {E:NJ} {s:Shared}
theorem yL (hit:s.heap.IsTupleIter it t i) (ht:s.heap.IsTuple t its) (hx:its[i]?=some x) (hQ:∀h',h'.IsTupleIter it t (i+1)->Heap.SameBut it s.heap h'->Q x {s with heap:=h'}):wpAny (!2) A (Builtin.SmallTypes.nextOf (.ref it)) Q E s:=by
 obtain⟨o,ho,hc,hd⟩:=id hit;obtain⟨ol,hol,_,nl,hdl⟩:=ht;have go:wpAny (!2) A.in1 (Builtin.«tuple_iterator.__next__» ⟨[.ref it],[]⟩) (λfin s'=>∃v,fin=.done (.ret v)/\wpAny (!2) A (pure v) Q E s') E s:=by
  show wpAny _ _ (field (.ref it) 0>>=_) _ _ s;refine NW (wpAny_field ho hd rfl ?_);refine NW (wpAny_field ho hd rfl ?_);refine NW (wpAny_seqItems hol hdl ?_);simp only[Int.toNat_natCast,hx];refine NW (wpAny_setField ho hd (by simp) (NY ⟨x,rfl,NY (hQ _ ⟨_,Heap.get?_update_self _ ho (Obj.isFreed_of_fields (Obj.data_mapFields hd _)),(Obj.cls_mapFields ..).trans hc,?_⟩ (Heap.SameBut.update ..))⟩));rw[Obj.data_mapFields hd];simp[rawInt]
 exact NW (wpAny_callSpecial?_slot hit.typeIs F.slot_tuple_iterator_next (wpAny_call_entry F.slot_tuple_iterator_next hit.typeIs F.entry_tuple_iterator_next go (F.args_tuple_iterator_next_1 _)))
theorem oX (hh:A.handled=none) (hit:s.heap.IsTupleIter it t i) (ht:s.heap.IsTuple t its) (hx:its[i]?=none) (hE:∀h' e,Heap.ExtBut it s.heap h'->(∃o,h'.get? e=some o/\o.cls=.type "StopIteration")->E (.ref e) {s with heap:=h'}):wpAny (!2) A (Builtin.SmallTypes.nextOf (.ref it)) Q E s:=by
 obtain⟨o,ho,hc,hd⟩:=id hit;obtain⟨ol,hol,_,nl,hdl⟩:=ht;refine NW (wpAny_callSpecial?_slot hit.typeIs F.slot_tuple_iterator_next (wpAny_call_entry F.slot_tuple_iterator_next hit.typeIs F.entry_tuple_iterator_next ?_ (F.args_tuple_iterator_next_1 _)));show wpAny _ _ (field (.ref it) 0>>=_) _ _ s;refine NW (wpAny_field ho hd rfl ?_);refine NW (wpAny_field ho hd rfl ?_);refine NW (wpAny_seqItems hol hdl ?_);simp only[Int.toNat_natCast,hx];refine NW (wpAny_rule (NW (wpAny_setField ho hd (by simp) ?_)));refine NW ?_;refine NW (wpAny_newObj_type ?_ (by size_fits));refine NW (Od (by first|rfl|(simp only[firstArgMember];rfl)) ?_);refine wpAny_newObj_type ?_ (by size_fits);refine NW (wpAny_handled ?_);first|rw[show A.in1.handled=none from hh]|rw[hh]
 refine NW (NY (wpAny_throw ?_));exact hE _ _ (((Heap.SameBut.update ..).extBut.push _).push _) ⟨_,N2 _ rfl,rfl⟩
theorem u5 (hit:ItK b s.heap it l i) (ht:CoK b s.heap l its) (hx:its[i]?=some x) (hQ:∀h',ItK b h' it l (i+1)->Heap.SameBut it s.heap h'->Q x {s with heap:=h'}):wpAny (!2) A (Builtin.SmallTypes.nextOf (.ref it)) Q E s:=by
 cases b
 ·exact yL hit ht hx hQ
 ·exact wpAny_nextOf_list_item hit ht hx hQ
theorem jc (hh:A.handled=none) (hit:ItK b s.heap it l i) (ht:CoK b s.heap l its) (hx:its[i]?=none) (hE:∀h' e,Heap.ExtBut it s.heap h'->(∃o,h'.get? e=some o/\o.cls=.type "StopIteration")->E (.ref e) {s with heap:=h'}):wpAny (!2) A (Builtin.SmallTypes.nextOf (.ref it)) Q E s:=by
 cases b
 ·exact oX hh hit ht hx hE
 ·exact wpAny_nextOf_list_end hh hit ht hx hE
structure ZA (z TI TO i1 i2:Addr):Prop where
 TIz:TI≠z
 TOz:TO≠z
 i1z:i1≠z
 i2z:i2≠z
 TITO:TI≠TO
 TIi1:TI≠i1
 TIi2:TI≠i2
 TOi1:TO≠i1
 TOi2:TO≠i2
 i12:i1≠i2
structure ZL (z TO i1 i2 l:Addr):Prop where
 z:l≠z
 TO:l≠TO
 i1:l≠i1
 i2:l≠i2
structure ZSt (b c:Bool) (z TI TO i1 i2 l1 l2:Addr) (f0:Value) (k:Nat) (h:Heap):Prop where
 ap:ZA z TI TO i1 i2
 hz:IsZip h z TI TO f0
 hI:IsPair h TI (.ref i1) (.ref i2)
 hO:∃a d,IsPair h TO a d
 h1:ItK b h i1 l1 k
 h2:ItK c h i2 l2 k
theorem ItK.ext (x:ItK b h it l k) (e:Heap.SameBut c h h') (hc:it≠c):ItK b h' it l k:=x.at λo q=>e.extBut _ _ hc q
theorem CoK.ext (x:CoK b h l its) (e:Heap.SameBut c h h') (hc:l≠c):CoK b h' l its:=x.at λo q=>e.extBut _ _ hc q
theorem yM {z TI TO i1 i2 l1 l2} (Z:ZSt b c z TI TO i1 i2 l1 l2 .none k s.heap) (L1:ZL z TO i1 i2 l1) (L2:ZL z TO i1 i2 l2) (c1:CoK b s.heap l1 xs) (c2:CoK c s.heap l2 ys) (hx:xs[k]?=some x) (hy:ys[k]?=some y) (hQ:∀h',ZSt b c z TI TO i1 i2 l1 l2 (rawInt s.heap.objs.size) (k+1) h'->IsPair h' s.heap.objs.size x y->h'.objs.size=s.heap.objs.size+1->
   (∀d o,d≠z->d≠TO->d≠i1->d≠i2->s.heap.get? d=some o->h'.get? d=some o)->Q (some (!32)) {s with heap:=h'}):wpAny (!2) A (pyNext (.ref z)) Q E s:=by
 obtain⟨D,hz,hI,⟨a0,d0,hO⟩,h1,h2⟩:=Z
 have hT:s.TypeIs (.ref z) "zip":=⟨_,hz,rfl⟩
 have go:wpAny (!2) A.in1 (Builtin.«zip.__next__» ⟨[.ref z],[]⟩) (λfin s'=>∃v,fin=.done (.ret v)/\Q (some v) s') (λe s'=>False) s:=by
  show wpAny _ _ (field (.ref z) 2>>=_) _ _ _;refine NW (wpAny_field hz rfl (x:=.bool false) rfl ?_);refine NW (wpAny_field hz rfl rfl (NW (wpAny_seqItems hI rfl ?_)));refine NW ?_;refine NW (wpAny_field hz rfl rfl (NY ?_));refine NW (wpAny_rule (NW (wpAny_field hz rfl rfl (NW (wpAny_setField_rec hz (by simp) λg1 z1 s1=>?_)))));replace z1:IsZip g1 z TI TO .ellipsis:=z1;refine NW ?_;simp only[List.zipIdx_cons,List.zipIdx_nil,List.forIn_cons,List.forIn_nil];refine NW (NW (wpAny_onRaise ?_));refine NW (u5 (h1.ext s1 D.i1z) (c1.ext s1 L1.z) hx λg2 k2 s2=>NY ?_);have O2:=s2.extBut _ _ D.TOi1 (s1.extBut _ _ D.TOz hO);refine NW (wpAny_seqItems O2 rfl (NW (wpAny_updateSeq_pair O2 λg3 O3 s3=>NW (wpAny_letGo (NY ?_)))));replace O3:IsPair g3 TO x d0:=O3;refine NW (NW (wpAny_onRaise ?_));refine NW (u5 (((h2.ext s1 D.i2z).ext s2 D.i12.symm).ext s3 D.TOi2.symm) (((c2.ext s1 L2.z).ext s2 L2.i1).ext s3 L2.TO) hy λg4 k4 s4=>NY ?_);have O4:=s4.extBut _ _ D.TOi2 O3;refine NW (wpAny_seqItems O4 rfl (NW (wpAny_updateSeq_pair O4 λg5 O5 s5=>NW (wpAny_letGo (NY (NY ?_))))));replace O5:IsPair g5 TO x y:=O5;refine NW (wpAny_seqItems O5 rfl (NW (wpAny_newTuple ?_)));have sz:g5.objs.size=s.heap.objs.size:=by rw[s5.1,s4.1,s3.1,s2.1,s1.1]
  have z5:=s5.extBut _ _ D.TOz.symm (s4.extBut _ _ D.i2z.symm (s3.extBut _ _ D.TOz.symm (s2.extBut _ _ D.i1z.symm z1)));have up5:∀d o,d≠z->d≠TO->d≠i1->d≠i2->s.heap.get? d=some o->g5.get? d=some o:=λd o n1 n2 n3 n4 e=>
   s5.extBut _ _ n2 (s4.extBut _ _ n4 (s3.extBut _ _ n2 (s2.extBut _ _ n3 (s1.extBut _ _ n1 e))))
  have a5:=((k2.ext s3 D.TOi1.symm).ext s4 D.i12).ext s5 D.TOi1.symm;have b5:=k4.ext s5 D.TOi2.symm;have zlt:=N1 z5;refine NW ?_;have z6:IsZip (g5.push {cls:=.type "tuple",data:=.seq #[x,y]}) z TI TO .ellipsis:=NX _ z5;refine NW (wpAny_setField_rec z6 (by simp) λg7 z7 s7=>?_);replace z7:IsZip g7 z TI TO (rawInt g5.objs.size):=z7;refine wpAny_setField_rec z7 (by simp) λg8 z8 s8=>?_;replace z8:IsZip g8 z TI TO _:=z8;have up:∀d o,d≠z->g5.get? d=some o->g8.get? d=some o:=λd o n1 e=>s8.extBut _ _ n1 (s7.extBut _ _ n1 (NX _ e));have T8:=s8.extBut _ _ (Nat.ne_of_gt zlt) (s7.extBut _ _ (Nat.ne_of_gt zlt) (N2 _ rfl));have sz8:g8.objs.size=g5.objs.size+1:=by rw[s8.1,s7.1,Heap.size_push]
  rw[sz]at z8 T8 sz8;refine NY ⟨_,rfl,?_⟩;rw[sz];exact hQ g8 ⟨D,z8,up _ _ D.TIz (up5 _ _ D.TIz D.TITO D.TIi1 D.TIi2 hI),⟨_,_,up _ _ D.TOz O5⟩,a5.at λo e=>up _ o D.i1z e,b5.at λo e=>up _ o D.i2z e⟩ T8 sz8 λd o n1 n2 n3 n4 e=>up d o n1 (up5 d o n1 n2 n3 n4 e)
 refine NW (wpAny_attempt (wpAny_callSpecial?_slot hT F.slot_zip_next (wpAny_call_entry F.slot_zip_next hT F.entry_zip_next (On go (λfin s' ⟨v,e,q⟩=>⟨v,e,NY q⟩) λ_ _ q=>q.elim) (F.args_zip_next_1 _))))
end
section
variable {prog:Program} {w:World} {A:Around} {E:NJ} {s:Shared}
theorem yN {z TI TO i1 i2 l1 l2} (hh:A.handled=none) (Z:ZSt b c z TI TO i1 i2 l1 l2 .none k s.heap) (L1:ZL z TO i1 i2 l1) (L2:ZL z TO i1 i2 l2) (c1:CoK b s.heap l1 xs) (c2:CoK c s.heap l2 ys) (hend:xs[k]?=none\/ys[k]?=none) (hQ:∀h',(∀d o,d≠z->d≠TO->d≠i1->d≠i2->s.heap.get? d=some o->h'.get? d=some o)->Q none {s with heap:=h'}):wpAny (!2) A (pyNext (.ref z)) Q E s:=by
 obtain⟨D,hz,hI,⟨a0,d0,hO⟩,h1,h2⟩:=Z;have hT:s.TypeIs (.ref z) "zip":=⟨_,hz,rfl⟩;let EE:NJ:=λe s'=>∃h' a,e=.ref a/\s'={s with heap:=h'}/\(∀d o,d≠z->d≠TO->d≠i1->d≠i2->s.heap.get? d=some o->h'.get? d=some o)/\∃o,h'.get? a=some o/\o.cls=.type "StopIteration";have go:wpAny (!2) A.in1 (Builtin.«zip.__next__» ⟨[.ref z],[]⟩) (λfin s'=>False) EE s:=by
  show wpAny _ _ (field (.ref z) 2>>=_) _ _ _;refine NW (wpAny_field hz rfl (x:=.bool false) rfl ?_);refine NW (wpAny_field hz rfl rfl (NW (wpAny_seqItems hI rfl ?_)));refine NW ?_;refine NW (wpAny_field hz rfl rfl (NY ?_));refine NW (wpAny_rule (NW (wpAny_field hz rfl rfl (NW (wpAny_setField_rec hz (by simp) λg1 z1 s1=>?_)))));replace z1:IsZip g1 z TI TO .ellipsis:=z1;refine NW ?_;simp only[List.zipIdx_cons,List.zipIdx_nil,List.forIn_cons,List.forIn_nil];refine NW (NW (wpAny_onRaise ?_));cases hx:xs[k]? with
  |none=>
   refine NW (jc hh (h1.ext s1 D.i1z) (c1.ext s1 L1.z) hx λg2 e s2 he=>?_);obtain⟨oe,hoe,hce⟩:=he;have z2:=s2 _ _ D.i1z.symm z1;have hez:e≠z:=λq=>by subst q;rw[z2]at hoe;cases hoe;simp at hce
   refine wpAny_setField_rec z2 (by simp) λg3 _ s3=>?_;exact⟨g3,e,rfl,rfl,λd o n1 _ n3 _ q=>s3.extBut _ _ n1 (s2 _ _ n3 (s1.extBut _ _ n1 q)),oe,s3.extBut _ _ hez hoe,hce⟩
  |some x=>
   have hy:ys[k]?=none:=by
    rcases hend with h|h
    ·rw[hx]at h;cases h
    ·exact h
   refine NW (u5 (h1.ext s1 D.i1z) (c1.ext s1 L1.z) hx λg2 k2 s2=>NY ?_);have O2:=s2.extBut _ _ D.TOi1 (s1.extBut _ _ D.TOz hO);refine NW (wpAny_seqItems O2 rfl (NW (wpAny_updateSeq_pair O2 λg3 O3 s3=>NW (wpAny_letGo (NY ?_)))));refine NW (NW (wpAny_onRaise ?_));refine NW (jc hh (((h2.ext s1 D.i2z).ext s2 D.i12.symm).ext s3 D.TOi2.symm) (((c2.ext s1 L2.z).ext s2 L2.i1).ext s3 L2.TO) hy λg4 e s4 he=>?_);obtain⟨oe,hoe,hce⟩:=he;have z4:=s4 _ _ D.i2z.symm (s3.extBut _ _ D.TOz.symm (s2.extBut _ _ D.i1z.symm z1));have hez:e≠z:=λq=>by subst q;rw[z4]at hoe;cases hoe;simp at hce
   refine wpAny_setField_rec z4 (by simp) λg5 _ s5=>?_;exact⟨g5,e,rfl,rfl,λd o n1 n2 n3 n4 q=>s5.extBut _ _ n1 (s4 _ _ n4 (s3.extBut _ _ n2 (s2.extBut _ _ n3 (s1.extBut _ _ n1 q)))),oe,s5.extBut _ _ hez hoe,hce⟩
 refine NW (wpAny_attempt (wpAny_callSpecial?_slot hT F.slot_zip_next (wpAny_call_entry F.slot_zip_next hT F.entry_zip_next (On go (λ_ _ q=>q.elim) λe s' q=>?_) (F.args_zip_next_1 _))));obtain⟨h',a,rfl,rfl,hk,o,ho,hc⟩:=q;exact NW (wpAny_isInstance ⟨o,ho,hc⟩ isSubtype_stop (NY (hQ _ hk)))
noncomputable def aD:Bool->Addr->Obj
 |true,l=>{cls:=.type "list_iterator",data:=.fields #[.ref l,.int 0 0]}
 |false,l=>{cls:=.type "tuple_iterator",data:=.fields #[.ref l,.int 0 0]}
theorem qR (h:CoK b s.heap l its) (hQ:Q (!32) {s with heap:=s.heap.push (aD b l)}):wpAny (!2) A (pyIter (.ref l)) Q E s:=by
 cases b
 ·exact wpAny_pyIter_tuple h hQ
 ·exact wpAny_pyIter_list h hQ
abbrev zG (h:Heap) (b c:Bool) (l1 l2:Addr):Heap:=((((h.push (aD b l1)).push (aD c l2)).push {cls:=.type "tuple",data:=.seq #[.ref h.objs.size,.ref (h.push (aD b l1)).objs.size]}).push {cls:=.type "tuple",data:=.seq #[.none,.none]}).push
 {cls:=.type "zip",data:=.fields #[.none,.bool false,.bool false,.ref ((h.push (aD b l1)).push (aD c l2)).objs.size,.ref (((h.push (aD b l1)).push (aD c l2)).push {cls:=.type "tuple",data:=.seq #[.ref h.objs.size,.ref (h.push (aD b l1)).objs.size]}).objs.size]}
theorem yO (b c:Bool) (l1 l2:Addr) (xs ys:Array Value):
  Meets (Builtin.«zip.__new__» ⟨[.type "zip",.ref l1,.ref l2],[]⟩) (λ_ R s=>CoK b s.heap l1 xs/\CoK c s.heap l2 ys/\
   R (.ok (.ret (.ref (s.heap.objs.size+4)))) {s with heap:=zG s.heap b c l1 l2}):=
 .of_wp λprog w A R s h=>by
  obtain⟨hp,g,d,tk,os⟩:=s;obtain⟨hl1,hl2,h⟩:=h;have hsub:=sub_zip;have hL1:CoK b (Shared.heap ⟨hp,g,d,tk,os⟩) l1 xs:=hl1;have hL2:CoK c (Shared.heap ⟨hp.push (aD b l1),g,d,tk,os⟩) l2 ys:=CoK.at hl2 λo e=>NX _ e;wp_walk using qR hL1,qR hL2;refine⟨_,rfl,?_⟩;have z4:((((hp.push (aD b l1)).push (aD c l2)).push {cls:=.type "tuple",data:=.seq #[.ref hp.objs.size,.ref (hp.push (aD b l1)).objs.size]}).push {cls:=.type "tuple",data:=.seq #[.none,.none]}).objs.size=hp.objs.size+4:=by
   rw[Heap.size_push,Heap.size_push,Heap.size_push,Heap.size_push]
  rw[<-z4]at h;exact h
theorem wL (hl1:CoK b s.heap l1 xs) (hl2:CoK c s.heap l2 ys) (h:∀h',ZSt b c (s.heap.objs.size+4) (s.heap.objs.size+2) (s.heap.objs.size+3) s.heap.objs.size (!16) l1 l2 .none 0 h'->h'.objs.size=s.heap.objs.size+5->
   (∀d o,s.heap.get? d=some o->h'.get? d=some o)->Q (.ref (s.heap.objs.size+4)) {s with heap:=h'}):
  wpAny (!2) A (call (.type "zip") [.ref l1,.ref l2]) Q E s:=by
 refine callType_new F.called_zip (!4) (F.typeCall_zip_2 _ _) (F.newCall_zip_2 _ _) (λobj=>F.args_object_init_3 obj _ _) F.entry_zip_new (yO b c l1 l2 xs ys) ⟨hl1,hl2,?_⟩
 have z1:(!19).objs.size=s.heap.objs.size+1:=Heap.size_push ..
 have z2:((!19).push (aD c l2)).objs.size=s.heap.objs.size+2:=by rw[Heap.size_push,z1]
 have z3:(((!19).push (aD c l2)).push {cls:=.type "tuple",data:=.seq #[.ref s.heap.objs.size,.ref (!19).objs.size]}).objs.size=s.heap.objs.size+3:=by rw[Heap.size_push,z2]
 have z4:((((!19).push (aD c l2)).push {cls:=.type "tuple",data:=.seq #[.ref s.heap.objs.size,.ref (!19).objs.size]}).push {cls:=.type "tuple",data:=.seq #[.none,.none]}).objs.size=s.heap.objs.size+4:=by rw[Heap.size_push,z3]
 have z5:(zG s.heap b c l1 l2).objs.size=s.heap.objs.size+5:=by rw[Heap.size_push,z4]
 have g5:IsZip (zG s.heap b c l1 l2) (s.heap.objs.size+4) (s.heap.objs.size+2) (s.heap.objs.size+3) .none:=by
  have:=N2 ((((!19).push (aD c l2)).push {cls:=.type "tuple",data:=.seq #[.ref s.heap.objs.size,.ref (!19).objs.size]}).push {cls:=.type "tuple",data:=.seq #[.none,.none]})
   (o:={cls:=.type "zip",data:=.fields #[.none,.bool false,.bool false,.ref ((!19).push (aD c l2)).objs.size,.ref (((!19).push (aD c l2)).push {cls:=.type "tuple",data:=.seq #[.ref s.heap.objs.size,.ref (!19).objs.size]}).objs.size]}) rfl
  rw[z4]at this;rw[<-z2,<-z3];exact this
 have g4:IsPair (zG s.heap b c l1 l2) (s.heap.objs.size+3) .none .none:=by
  have:=N2 (((!19).push (aD c l2)).push {cls:=.type "tuple",data:=.seq #[.ref s.heap.objs.size,.ref (!19).objs.size]}) (o:={cls:=.type "tuple",data:=.seq #[.none,.none]}) rfl;rw[z3]at this;exact NX _ this
 have g3:IsPair (zG s.heap b c l1 l2) (s.heap.objs.size+2) (!32) (.ref (!16)):=by
  have:=N2 ((!19).push (aD c l2)) (o:={cls:=.type "tuple",data:=.seq #[.ref s.heap.objs.size,.ref (!19).objs.size]}) rfl;rw[z2]at this;rw[<-z1];exact NX _ (NX _ this)
 have fr:∀o,o.isFreed=false->∀ (hh:Heap),(hh.push o).get? hh.objs.size=some o:=λo ho hh=>N2 _ ho
 have fb:∀ (b:Bool) (l:Addr),(aD b l).isFreed=false:=λb l=>by cases b<;>rfl
 have g2:(zG s.heap b c l1 l2).get? (!16)=some (aD c l2):=by rw[<-z1];exact NX _ (NX _ (NX _ (fr _ (fb c l2) _)))
 have g1:(zG s.heap b c l1 l2).get? s.heap.objs.size=some _:=NX _ (NX _ (NX _ (NX _ (fr _ (fb b l1) _))))
 have toIt':∀ (d:Bool) (a l:Addr) (G:Heap),G.get? a=some (aD d l)->ItK d G a l 0:=λd a l G e=>by cases d<;>exact⟨_,e,rfl,rfl⟩
 refine⟨⟨_,g5,rfl⟩,h _ ⟨⟨?_,?_,?_,?_,?_,?_,?_,?_,?_,?_⟩,g5,g3,⟨_,_,g4⟩,toIt' b _ _ _ g1,toIt' c _ _ _ g2⟩ z5 λd o x=>NX _ (NX _ (NX _ (NX _ (NX _ x))))⟩
 all_goals (show(_:Nat)≠_;omega)
end
section
variable {X:Cx} {pins:NG} {Y:List (Option V)} {H:Hp} {s:Shared} {h':Heap}
theorem lL {ch:List Addr} (I:Inv X pins Y H s) (hf:∀b∈ch,H b=none) (k:∀b o,b ∉ ch->s.heap.get? b=some o->h'.get? b=some o):HOk X.prog X.w H h':=λb u e=>by
 have nit:∀b u,H b=some u->b ∉ ch:=λb u e z=>by rw[hf b z]at e;cases e
 refine(I.hok b u e).stay (λc v hc q=>k c v ?_ q) (λ_ q=>q) λ_ _ q=>q;grind
theorem Ex {ch:List Addr} (hf:∀b∈ch,gG X pins H b):∀b∈ch,(b∈X.ex\/X.s₀.heap.objs.size<=b)/\b≠X.env.locals/\(∀x c,X.env.cells.lookup x=some c->c≠b)/\∀p∈X.pn++pins,p.1≠b:=λb hb=>by
 obtain⟨f0,f1,f2,f3,f4,f5⟩:=hf b hb;grind
theorem Inv.turnedL {ch:List Addr} (I:Inv X pins Y H s) (hf:∀b∈ch,gG X pins H b) (k:∀b o,b ∉ ch->s.heap.get? b=some o->h'.get? b=some o):Inv X pins Y H {s with heap:=h',toks:=t'}:=by
 refine I.step (Ex hf) (λb o _ _ hc e _=>k b o hc e) (λb o _ _ hc e _=>⟨o.slots,k b o hc e⟩) (λ_ _ _ _ n=>n)
  (λb o hc e=>⟨o,k b o hc e⟩) (λ_ _ e=>e) (λ_ _ _ e=>e) (λb ps e=>⟨#[],by rw[e];simp⟩) (λm hm=>?_) (lL I (λb hb=>(hf b hb).1) k) I.bare
 obtain⟨o,es,ep,ho,r⟩:=hm;exact⟨o,es,ep,k _ o (λz=>(hf _ z).2.1 rfl) ho,r⟩
theorem Inv.turnedNew {ch:List Addr} {p:Addr} (I:Inv X pins Y H s) (hf:∀b∈ch,gG X pins H b) (k:∀b o,b ∉ ch->s.heap.get? b=some o->h'.get? b=some o) (hp:s.heap.objs.size<=p) (new:ObjOk X.prog X.w (upd H p o) h' p o):Inv X pins Y (upd H p o) {s with heap:=h',toks:=t'}:=by
 have hn:=I.hok.fresh hp;have lt:∀b o,s.heap.get? b=some o->b≠p:=λb o e=>Ob (N8 (N1 e) hp);have keep:∀b u,H b=some u->upd H p o b=some u:=λb u e=>by rw[ag (au e hn)];exact e
 refine I.step (Ex hf) (λb o _ _ hc e _=>k b o hc e) (λb o _ _ hc e _=>⟨o.slots,k b o hc e⟩) (λb o _ e n=>by rw[ag (lt b o e)];exact n)
  (λb o hc e=>⟨o,k b o hc e⟩) (λb xs e=>keep b _ e) (λb o u e=>keep b _ e) (λb ps e=>⟨#[],by rw[keep b _ e];simp⟩) (λm hm=>?_) ((lL I (λb hb=>(hf b hb).1) k).adopt hn new) I.bare
 obtain⟨o,es,ep,ho,r⟩:=hm;exact⟨o,es,ep,k _ o (λz=>(hf _ z).2.1 rfl) ho,r⟩
def SqK (b:Bool) (K:Frag) (H:Hp) (a:Addr) (xs:List V):Prop:=if b=true then SqL K H a xs else SqT K H a xs
theorem Inv.coK (I:Inv X pins Y H s) (h:SqK b X.K H a xs):∃its:NK,Vals xs its/\CoK b s.heap a its.toArray/\xs.length<=sizeLine:=by
 cases b
 ·obtain⟨its,r,t,z⟩:=I.tuple (h);exact⟨its,r,t,z⟩
 ·obtain⟨its,r,t,z⟩:=I.list (h);exact⟨its,r,t.isList,z⟩
theorem Inv.coK_inj (I:Inv X pins Y H s) (h:SqK b X.K H a xs) (h':SqK b X.K H a ys):xs=ys:=by
 cases b
 ·exact I.tuple_inj h h'
 ·exact I.list_inj h h'
end
noncomputable def Itz (K:Frag) (b c:Bool) (l1 l2:Addr):It:=
 ⟨λi H=>∃xs ys x y,SqK b K H l1 xs/\SqK c K H l2 ys/\xs[i]?=some x/\ys[i]?=some y,
  λi H v H'=>∃p x y,v=.ref p/\H p=none/\H'=upd H p (.tup [x,y])/\(∀xs,SqK b K H l1 xs->xs[i]?=some x)/\∀ys,SqK c K H l2 ys->ys[i]?=some y,
  λi H=>∃xs ys,SqK b K H l1 xs/\SqK c K H l2 ys/\(xs.length<=i\/ys.length<=i)⟩
theorem CoK.get (x:CoK b h l its):∃o,h.get? l=some o/\∃n,o.data=.seq its n:=by
 cases b
 ·obtain⟨o,e,_,n,d⟩:=x;exact⟨o,e,n,d⟩
 ·obtain⟨o,e,_,n,d⟩:=x;exact⟨o,e,n,d⟩
theorem u6 {z TI TO i1 i2 l1 l2 l} (Z:ZSt b c z TI TO i1 i2 l1 l2 f0 k h) (C:CoK d h l its) (hO:l≠TO):ZL z TO i1 i2 l:=by
 obtain⟨o,e,n,q⟩:=C.get;refine⟨λy=>?_,hO,λy=>?_,λy=>?_⟩
 ·subst y;rw[Z.hz]at e;cases e;cases q
 ·subst y;obtain⟨o',_,vs,e',_,d',_⟩:=Z.h1.live;rw[e']at e;cases e;rw[d']at q;cases q
 ·subst y;obtain⟨o',_,vs,e',_,d',_⟩:=Z.h2.live;rw[e']at e;cases e;rw[d']at q;cases q
theorem yP {P:Program} {w:World} {K:Frag} {elts:NT} {x1:Nat} {tpos:Pos} (b c:Bool) (l1 l2 z TI TO i1 i2:Addr) (n1:l1≠TO) (n2:l2≠TO):
  Turn P w K (.Tuple elts x1 tpos) (Itz K b c l1 l2) [z,TI,TO,i1,i2] z (λi h=>ZSt b c z TI TO i1 i2 l1 l2 .none i h) where
 mem:=by simp
 obj:=λi h Z d hd=>by
  simp at hd;rcases hd with rfl|rfl|rfl|rfl|rfl
  ·exact⟨_,Z.hz,λv q=>by cases q⟩
  ·exact⟨_,Z.hI,λv q=>by cases q⟩
  ·obtain⟨a,d,e⟩:=Z.hO;exact⟨_,e,λv q=>by cases q⟩
  ·obtain⟨o,n,vs,e,_,dd,_⟩:=Z.h1.live;exact⟨o,e,λv q=>by rw[dd]at q;cases q⟩
  ·obtain⟨o,n,vs,e,_,dd,_⟩:=Z.h2.live;exact⟨o,e,λv q=>by rw[dd]at q;cases q⟩
 keep:=λi h h' Z k=>by
  obtain⟨a,d,e⟩:=Z.hO;exact⟨Z.ap,k z (by simp) _ Z.hz,k TI (by simp) _ Z.hI,⟨a,d,k TO (by simp) _ e⟩,Z.h1.at λo q=>k i1 (by simp) o q,Z.h2.at λo q=>k i2 (by simp) o q⟩
 item:=by
  intro X hP hw hK hc i pins s Y H E I hf Z hg;subst hP hw hK;obtain⟨xs,ys,x,y,hx,hy,ex,ey⟩:=hg;obtain⟨its,rv,p1,hz1⟩:=I.coK hx;obtain⟨jts,rw',p2,hz2⟩:=I.coK hy;obtain⟨u,hu,ru⟩:=rv.get ex;obtain⟨v,hv,rv'⟩:=rw'.get ey;have L1:=u6 Z p1 n1;have L2:=u6 Z p2 n2;refine yM Z L1 L2 p1 p2 (by simpa using hu) (by simpa using hv) λh' Z' T' sz k'=>⟨_,rfl,?_⟩;refine wpAny_letOwnedTupleGo_zip Z'.hz λh2 hz2' sb=>?_;have zlt:=N1 Z.hz;have hne:=Nat.ne_of_gt zlt;have Z2:ZSt b c z TI TO i1 i2 l1 l2 .none (i+1) h2:=by
   obtain⟨a,d,e⟩:=Z'.hO;exact⟨Z.ap,hz2',sb.extBut _ _ Z.ap.TIz Z'.hI,⟨a,d,sb.extBut _ _ Z.ap.TOz e⟩,Z'.h1.at λo q=>sb.extBut _ _ Z.ap.i1z q,Z'.h2.at λo q=>sb.extBut _ _ Z.ap.i2z q⟩
  have T2:=sb.extBut _ _ hne T';have kk:∀d o,d ∉ [z,TI,TO,i1,i2]->s.heap.get? d=some o->h2.get? d=some o:=λd o hd e=>by
   simp at hd;exact sb.extBut _ _ hd.1 (k' d o hd.1 hd.2.2.1 hd.2.2.2.1 hd.2.2.2.2 e)
  have fr:=I.hok.fresh (Om _);refine⟨.ref s.heap.objs.size,_,I.turnedNew hf kk (Om _) ?_,rfl,⟨s.heap.objs.size,x,y,rfl,fr,rfl,λzs hzs=>by rw[I.coK_inj hzs hx];exact ex,λzs hzs=>by rw[I.coK_inj hzs hy];exact ey⟩,Z2,λd hd=>?_⟩
  ·exact⟨by show 2<=sizeLine;decide,[u,v],.cons ru (.cons rv' .nil),⟨_,T2,rfl,_,rfl⟩⟩
  ·obtain⟨o,eo,_⟩:∃o,s.heap.get? d=some o/\True:=by
    simp at hd;rcases hd with rfl|rfl|rfl|rfl|rfl
    ·exact⟨_,Z.hz,trivial⟩
    ·exact⟨_,Z.hI,trivial⟩
    ·obtain⟨a,d,e⟩:=Z.hO;exact⟨_,e,trivial⟩
    ·obtain⟨o,n,vs,e,_⟩:=Z.h1.live;exact⟨_,e,trivial⟩
    ·obtain⟨o,n,vs,e,_⟩:=Z.h2.live;exact⟨_,e,trivial⟩
   rw[ag (Nat.ne_of_lt (Heap.lt_size eo))];exact(hf d hd).1
 done:=by
  intro X hP hw hK hc i pins s Y H E I hf Z hg;subst hP hw hK;obtain⟨xs,ys,hx,hy,hl⟩:=hg;obtain⟨its,rv,p1,hz1⟩:=I.coK hx;obtain⟨jts,rw',p2,hz2⟩:=I.coK hy;have e1:=rv.length;have e2:=rw'.length;refine yN (I.ok.hd hc) Z (u6 Z p1 n1) (u6 Z p2 n2) p1 p2 ?_ λh' k'=>⟨rfl,I.turnedL hf λd o hd e=>?_⟩
  ·rcases hl with hl|hl
   ·exact .inl (by simp;omega)
   ·exact .inr (by simp;omega)
  ·simp at hd;exact k' d o hd.1 hd.2.2.1 hd.2.2.2.1 hd.2.2.2.2 e
 self:=λ_ _ _ _ _ Z h=>wpAny_pyIter_zip Z.hz h
section
variable {X:Cx} {tg a b e:Expr} {es:NT} {p pos:Pos}
theorem JO:bootBuiltins "zip"=some (.type "zip"):=by decide+kernel
def L4 (K:Frag) (ta:TA):TI:=λY H R=>ta Y H λvs H1=>∃b c l1 l2 xs ys,vs=[.ref l1,.ref l2]/\SqK b K H1 l1 xs/\SqK c K H1 l2 ys/\R (Itz K b c l1 l2) H1
theorem F7 {x1} (hg:Gl X "zip") (hm:X.mg "zip"=none) (ha:PA X [a,b] ta) (hs:starEach [a,b] X.env=[(false,eval a X.env),(false,eval b X.env)]) (hs2:starEach [b] X.env=[(false,eval b X.env)]):
  PI X (.Tuple elts x1 tpos) (.Call (.Name "zip" p) [a,b] [] pos) (L4 X.K ta):=by
 intro pins s Y H R I h
 refine Call_ (ce I hg hm JO (PyProof.Rows.callWith_type1 (thn (ha pos pins s Y H _ I h) λus s1 ⟨vs,H1,I1,r1,q1⟩=>?_) (by rw[hs,hs2]) (by rw[hs2];rfl)))
 obtain⟨b,c,l1,l2,xs,ys,e,hx,hy,q⟩:=q1
 subst e
 obtain⟨u,v,rfl,ru,rv⟩:=uP r1
 cases ru
 cases rv
 obtain⟨its,rx,p1,_⟩:=I1.coK hx
 obtain⟨jts,ry,p2,_⟩:=I1.coK hy
 have lt:∀ {d:Bool} {l:Addr} {its:Array Value},CoK d s1.heap l its->l<s1.heap.objs.size:=λC=>by obtain⟨o,e,_⟩:=C.get;exact N1 e
 refine wL p1 p2 λh' Z sz k=>wpAny_pyIter_zip Z.hz ?_
 have I2:Inv X pins Y H1 {s1 with heap:=h'}:=I1.kept k
 refine⟨s1.heap.objs.size+4,[s1.heap.objs.size+4,s1.heap.objs.size+2,s1.heap.objs.size+3,s1.heap.objs.size,s1.heap.objs.size+1],_,_,H1,rfl,I2,yP b c l1 l2 _ _ _ _ _ ?_ ?_,Z,λd hd=>?_,q⟩
 ·exact Ob (N8 (lt p1) (Nat.le_add_right _ _))
 ·exact Ob (N8 (lt p2) (Nat.le_add_right _ _))
 ·have hge:s1.heap.objs.size<=d:=by
   simp at hd;rcases hd with rfl|rfl|rfl|rfl|rfl<;>first|exact Nat.le_add_right _ _|exact Om _
  exact I1.fpOk hge (I1.hok.fresh hge)
noncomputable def fz (xs ys:NS):NS:=(xs.zip ys).map λp=>.tup [p.1,p.2]
theorem SqK.mono {b} {K} (s:Same H H') (h:SqK b K H l xs):SqK b K H' l xs:=by
 cases b
 ·exact s.seqT h
 ·exact s.seq h
theorem yQ {K} {b c} {ds es} (hx:SqK b K Hm l1 xs) (hy:SqK c K Hm l2 ys) (il:IsL K Hm ds xs) (jl:IsL K Hm es ys):jS K Hm (Itz K b c l1 l2) (fz ds es):=λi H O s hd=>by
 have hx':=hx.mono (s.trans msk_le);have hy':=hy.mono (s.trans msk_le);refine⟨λd hi=>?_,λhi=>⟨xs,ys,hx',hy',?_⟩⟩
 ·unfold fz at hi;rw[getElem?_map]at hi;cases e:(ds.zip es)[i]? with
  |none=>rw[e]at hi;cases hi
  |some pr=>
   rw[e]at hi;cases hi;obtain⟨e1,e2⟩:=List.getElem?_zip_eq_some.mp e;obtain⟨x,ex,ix⟩:=il.get e1;obtain⟨y,ey,iy⟩:=jl.get e2;refine⟨⟨xs,ys,x,y,hx',hy',ex,ey⟩,?_⟩;rintro v H3 ⟨q,x',y',rfl,hq,rfl,kx,ky⟩;have z1:=kx xs hx';have z2:=ky ys hy';rw[ex]at z1;cases z1;rw[ey]at z2;cases z2;have hO:=fq hd hq;refine⟨Same.new hq,q,[x,y],rfl,.of (by rw[aE hO,ai]),?_⟩;have le:Same (msk O H) (msk O (upd H q (.tup [x,y]))):=(Same.new hq).msk;exact⟨x,[y],rfl,Is.mono (s.trans le) _ _ ix,y,[],rfl,Is.mono (s.trans le) _ _ iy,rfl⟩
 ·have h1:=il.len;have h2:=jl.len;unfold fz at hi;rw[length_map,List.length_zip]at hi;omega
def wM:NS->NI:=un2 λc d=>(seqD c).bind λxs=>(seqD d).bind λys=>some (fz xs ys)
theorem tw {K} (h:SqL K H l xs\/SqT K H l xs):∃b,SqK b K H l xs:=by
 rcases h with h|h
 ·exact⟨true,h⟩
 ·exact⟨false,h⟩
theorem F8 {x1} (hg:Gl X "zip") (hm:X.mg "zip"=none) (ha:PX X [a,b] fa) (hs:starEach [a,b] X.env=[(false,eval a X.env),(false,eval b X.env)]) (hs2:starEach [b] X.env=[(false,eval b X.env)]):
  PJ X (.Tuple elts x1 tpos) (.Call (.Name "zip" p) [a,b] [] pos) (λU=>(fa U).bind wM):=λO U=>(F7 hg hm (ha O U) hs hs2).imp λY H R ⟨E,ds,q,k⟩=>by
 obtain⟨as,e1,q⟩:=Op q
 refine⟨E,as,e1,λvs H1 s1 il=>?_⟩
 obtain⟨c,d,rfl,q1⟩:=ii q
 obtain⟨xs,q2,q3⟩:=Op q1
 obtain⟨ys,q4,q5⟩:=Op q3
 cases q5
 obtain⟨u,v,rfl,iu,iv⟩:=is2 il
 obtain⟨l1,us,rfl,t1,m1⟩:=eH q2 iu
 obtain⟨l2,ws,rfl,t2,m2⟩:=eH q4 iv
 obtain⟨b1,t1⟩:=tw t1
 obtain⟨b2,t2⟩:=tw t2
 exact⟨b1,b2,l1,l2,us,ws,rfl,t1.mono msk_le,t2.mono msk_le,k _ H1 s1 (yQ t1 t2 m1 m2)⟩
noncomputable def yR:D->NU
 |.int i=>some (.int (-i))
 |_=>none
theorem F9 (ha:PP X a fa):PP X (.UnaryOp .USub a pos) (λU=>(fa U).bind yR):=λO U=>(IX Fz (ha O U)).imp λY H Q ⟨E,d,q,k⟩=>by
 obtain⟨c,e1,e2⟩:=Op q;refine⟨E,c,e1,λv H1 s1 i1=>?_⟩;cases c with
 |int i=>cases e2;exact⟨i,i1,k _ H1 s1 rfl⟩
 |_=>cases e2
theorem b_max:bootBuiltins "max"=some (.builtin "max"):=by decide+kernel
theorem b_min:bootBuiltins "min"=some (.builtin "min"):=by decide+kernel
def Cq:NS->NU:=un2 λc d=>(lJ c).bind λi=>(lJ d).bind λj=>some (.int (if j>i then j else i))
def yS:NS->NU:=un2 λc d=>(lJ c).bind λi=>(lJ d).bind λj=>some (.int (if j<i then j else i))
theorem rn_max:RnD X.K (λxs H Q=>∃i j,xs=[.int i,.int j]/\Q (.int (if j>i then j else i)) H) Cq:=λO H xs ds d Q hd l e k=>by
 obtain⟨c,c',rfl,e⟩:=ii e;obtain⟨i,e1,e⟩:=Op e;obtain⟨j,e2,e⟩:=Op e;cases e;obtain⟨u,v,rfl,iu,iv⟩:=is2 l;cases intD_some e1;cases intD_some e2;exact⟨i,j,by rw[show u=.int i from iu,show v=.int j from iv],k _ H (Same.refl _) rfl⟩
theorem rn_min:RnD X.K (λxs H Q=>∃i j,xs=[.int i,.int j]/\Q (.int (if j<i then j else i)) H) yS:=λO H xs ds d Q hd l e k=>by
 obtain⟨c,c',rfl,e⟩:=ii e;obtain⟨i,e1,e⟩:=Op e;obtain⟨j,e2,e⟩:=Op e;cases e;obtain⟨u,v,rfl,iu,iv⟩:=is2 l;cases intD_some e1;cases intD_some e2;exact⟨i,j,by rw[show u=.int i from iu,show v=.int j from iv],k _ H (Same.refl _) rfl⟩
noncomputable def Ga:D->Bool
 |.non=>true
 |_=>false
theorem u7 {K} (h:Is K H d v):decide (v=.non)=Ga d:=by
 cases d with
 |non=>cases(h);rfl
 |bl _=>cases(h);rfl
 |int _=>cases(h);rfl
 |str _=>cases(h);rfl
 |ty _=>cases(h);rfl
 |adr _=>cases(h);rfl
 |tup _=>obtain⟨a,xs,rfl,_⟩:=h;rfl
 |lst _=>obtain⟨a,xs,rfl,_⟩:=h;rfl
 |obj _ _ _=>obtain⟨a,Ca,dx,fs,rfl,_⟩:=h;rfl
 |dct _ _=>obtain⟨a,kvs,rfl,_⟩:=h;rfl
def oY (neg:Bool):D->D->NU
 |d,.non=>some (.bl (if neg then !Ga d else Ga d))
 |_,_=>none
theorem r_isN {K}:R2D K (λx y H Q=>y=.non/\Q (.bl (decide (x=.non))) H) (oY false):=λO H x y dx dy d Q _ ix iy e k=>by
 cases dy with
 |non=>cases e;exact⟨iy,k _ H (Same.refl _) (by rw[u7 ix];rfl)⟩
 |_=>cases e
theorem r_notN {K}:R2D K (λx y H Q=>y=.non/\Q (.bl (!decide (x=.non))) H) (oY true):=λO H x y dx dy d Q _ ix iy e k=>by
 cases dy with
 |non=>cases e;exact⟨iy,k _ H (Same.refl _) (by rw[u7 ix];rfl)⟩
 |_=>cases e
noncomputable def mY (ds:NS) (lo hi:NV):NS:=(ds.drop (HT.sIx ds.length 0 lo)).take (HT.sIx ds.length ds.length hi-HT.sIx ds.length 0 lo)
theorem yT {K} (l:IsL K H ds xs) (lo hi:NV):IsL K H (mY ds lo hi) (wy xs lo hi):=by
 unfold mY wy;rw[<-l.len];exact .of (jO _ (jP _ l.paired))
theorem Cr:SlR X (λx lo hi H Q=>∃a xs,x=.ref a/\SqT X.K H a xs/\(HT.sIx xs.length 0 lo=0/\HT.sIx xs.length xs.length hi=xs.length)/\Q (.ref a) H):=by
 intro pins s Y H x v vl vu lo hi sl Q I rx hs pl pu h;obtain⟨a,xs,rfl,hx,hw,q⟩:=h;cases rx;obtain⟨its,r,ht,hz⟩:=I.tuple hx;have hlen:its.toArray.size=xs.length:=by rw[size_toArray];exact r.length.symm
 refine⟨"tuple",_,PyProof.Rows.slot_tuple_getitem.lookup,ht.typeIs,?_⟩;obtain⟨os,hos,hcs,hds⟩:=id hs;have hTs:s.TypeIs (.ref sl) "slice":=⟨os,hos,hcs⟩;unfold getItem;try with_reducible refine wpAny_holding ?_
 first|refine NW (NY ?_)|skip
 refine NW (wpAny_sequenceKey ht.typeIs (!4) ?_);refine NW (wpAny_callSpecial?_slot ht.typeIs PyProof.Rows.slot_tuple_getitem (wpAny_call_entry PyProof.Rows.slot_tuple_getitem ht.typeIs entry_tuple_getitem ?_ (args_tuple_getitem _ _)));show wpAny _ _ (Builtin.Tuple.tupleItemsOf (.ref a)>>=_) _ _ s;refine NW (tupleItemsOf_ ht (NW (wpAny_typeOf hTs ?_)));refine NW (HT.sliceApplied_gen hs pl pu ?_);have hyes:(((HT.sIx its.toArray.size 0 lo:Nat):Int)==0&&(1:Int)==1&&(HT.sIx its.toArray.size its.toArray.size hi-HT.sIx its.toArray.size 0 lo)==its.toArray.size)=true:=by
  rw[hlen,hw.1,hw.2];simp
 show wpAny _ _ (if(((HT.sIx its.toArray.size 0 lo:Nat):Int)==0&&(1:Int)==1&&(HT.sIx its.toArray.size its.toArray.size hi-HT.sIx its.toArray.size 0 lo)==its.toArray.size)=true then _ else _) _ _ s;rw[if_pos hyes];refine NW (NW (wpAny_typeOf ht.typeIs (NY ?_)));exact NW (wpAny_rule (NY ⟨_,rfl,NY ⟨.ref a,H,I,rfl,q⟩⟩))
def PPo (X:Cx) (e:Option Expr) (f:Vv->Option (NV)):Prop:=∀O U,PO X e (λY H Q=>VE X.K O Y H U/\∃i,f U=some i/\∀H',Same H H'->Q i H')
theorem PO.imp {e} (h:PO X e t) (k:∀Y H Q,t' Y H Q->t Y H Q):PO X e t':=λpins s Y H Q I q=>h pins s Y H Q I (k _ _ _ q)
theorem yU:PPo X none (λ_=>some none):=λO U=>po_none.imp λY H Q ⟨E,i,q,k⟩=>by
 cases q;exact k H (Same.refl _)
def aH (f:wp):Vv->Option (NV):=λU=>(f U).bind λd=>(lJ d).bind λi=>some (some i)
theorem yV (h:PP X e f):PPo X (some e) (aH f):=λO U=>(BV (h O U)).imp λY H Q ⟨E,i,q,k⟩=>by
 obtain⟨d,q1,q2⟩:=Op q;obtain⟨j,q3,q4⟩:=Op q2;cases q4;refine⟨E,d,q1,λv H1 s1 iv=>?_⟩;cases intD_some q3;exact⟨j,iv,k H1 s1⟩
def mZ (f:wp) (fl fh:Vv->Option (NV)):wp:=λU=>(f U).bind λd=>(fl U).bind λlo=>(fh U).bind λhi=>match d with
 |.tup ds=>some (.tup (mY ds lo hi))
 |_=>none
def kg (f:wp) (fl fh:Vv->Option (NV)):qm:=λU=>(f U).bind λd=>(fl U).bind λlo=>(fh U).bind λhi=>match d with
 |.lst ds=>some (mY ds lo hi)
 |_=>none
theorem wN {lo hi} (h:HT.sIx ds.length 0 lo=0/\HT.sIx ds.length ds.length hi=ds.length):mY ds lo hi=ds:=by
 unfold mY;rw[h.1,h.2];simp
theorem Gc {lo hi} (h:PP X e f) (hl:PPo X lo fl) (hh:PPo X hi fh):PP X (.Subscript e (.Slice lo hi none p2) pos) (mZ f fl fh):=λO U=>
 (qH (sl_tup.or Cr) (h O U) (hl O U) (hh O U)).imp λY H Q ⟨E,d,q,k⟩=>by
 obtain⟨c,q1,q⟩:=Op q;obtain⟨l,q2,q⟩:=Op q;obtain⟨u,q3,q⟩:=Op q;refine⟨E,c,q1,λv H1 s1 iv=>⟨E.grow s1,l,q2,λH2 s2=>⟨E.grow (!28),u,q3,λH3 s3=>?_⟩⟩⟩;cases c with
 |tup ds=>
  cases q;have iv':=Is.mono (s2.trans s3).msk _ _ iv;obtain⟨a,xs,rfl,t,il⟩:=iv';have s13:=s1.trans (s2.trans s3);by_cases hw:HT.sIx xs.length 0 l=0/\HT.sIx xs.length xs.length u=xs.length
  ·refine .inr ⟨a,xs,rfl,msk_le.seqT t,hw,k _ H3 s13 ?_⟩;rw[wN (by rw[il.len];exact hw)];exact⟨a,xs,rfl,t,il⟩
  ·refine .inl ⟨a,xs,rfl,msk_le.seqT t,hw,λp hp=>?_⟩;have hO:=(E.grow s13).fresh hp;exact k _ _ (s13.trans (Same.new hp)) ⟨p,_,rfl,.of (by rw[aE hO,ai]),IsL.mono (Same.new hp).msk _ _ (yT il l u)⟩
 |_=>cases q
theorem yW {lo hi} (h:PP X e f) (hl:PPo X lo fl) (hh:PPo X hi fh):PF X (.Subscript e (.Slice lo hi none p2) pos) (kg f fl fh):=λO U=>
 (qH BW (h O U) (hl O U) (hh O U)).imp λY H Q ⟨E,d,q,k⟩=>by
 obtain⟨c,q1,q⟩:=Op q;obtain⟨l,q2,q⟩:=Op q;obtain⟨u,q3,q⟩:=Op q;refine⟨E,c,q1,λv H1 s1 iv=>⟨E.grow s1,l,q2,λH2 s2=>⟨E.grow (!28),u,q3,λH3 s3=>?_⟩⟩⟩;cases c with
 |lst ds=>
  cases q;have iv':=Is.mono (s2.trans s3).msk _ _ iv;obtain⟨a,xs,rfl,t,il⟩:=iv';exact⟨a,xs,rfl,msk_le.seq t,λp hp=>k p _ H3 (s1.trans (s2.trans s3)) hp (yT il l u)⟩
 |_=>cases q
end
inductive Cat where
 |sh
 |top
 |deep
 deriving DecidableEq
mutual
def lfD:D->Bool
 |.tup ds=>lfL ds
 |.lst _=>false
 |.obj _ _ _=>false
 |.dct _ _=>false
 |_=>true
def lfL:NS->Bool
 |[]=>true
 |d::ds=>lfD d&&lfL ds
end
mutual
def Deep (K:Frag) (M H:Hp):D->V->List Addr->Prop
 |.non,v,A=>v=.non/\A=[]
 |.bl b,v,A=>v=.bl b/\A=[]
 |.int i,v,A=>v=.int i/\A=[]
 |.str x,v,A=>v=.str x/\A=[]
 |.ty n,v,A=>v=.ty n/\A=[]
 |.adr a,v,A=>v=.ref a/\A=[]
 |.tup ds,v,A=>∃a xs,v=.ref a/\(M a=some (.tup xs)\/(lfL ds=true/\SqT K M a xs))/\DeepL K M H ds xs A
 |.lst ds,v,A=>∃a xs A',v=.ref a/\H a=some (.lst xs)/\A=a::A'/\DeepL K M H ds xs A'
 |.obj _ _ _,_,_=>False
 |.dct ks ds,v,A=>∃a kvs A',v=.ref a/\H a=some (.dK kvs)/\kvs.map (·.1)=ks/\A=a::A'/\DeepL K M H ds (kvs.map (·.2)) A'
def DeepL (K:Frag) (M H:Hp):NS->List V->List Addr->Prop
 |[],xs,A=>xs=[]/\A=[]
 |d::ds,xs,A=>∃x r A1 A2,xs=x::r/\A=A1++A2/\Deep K M H d x A1/\DeepL K M H ds r A2
end
def NL (M M':Hp):Prop:=∀b o,M b=some o->¬Hid (some o)->M' b=some o
theorem NL.of (s:Same M M'):NL M M':=λb o h _=>s b o h
theorem NL.trans (s:NL M M') (t:NL M' M''):NL M M'':=λb o h q=>t b o (s b o h q) q
theorem u8:¬Hid (some (.tup xs)):=by rintro(⟨_,z⟩|⟨_,_,_,z⟩|⟨_,z⟩)<;>cases z
theorem Cs:¬Hid (some (.frz o u)):=by rintro(⟨_,z⟩|⟨_,_,_,z⟩|⟨_,z⟩)<;>cases z
theorem NL.seqT {K} (e:NL H H') (h:SqT K H a xs):SqT K H' a xs:=by
 rcases h with(h|⟨o,h⟩)|h
 ·exact .inl (.inl (e _ _ h u8))
 ·exact .inl (.inr ⟨o,e _ _ h Cs⟩)
 ·exact .inr h
theorem tupAt {K} (s:NL M M') (h:M a=some (.tup xs)\/(lfL ds=true/\SqT K M a xs)):M' a=some (.tup xs)\/(lfL ds=true/\SqT K M' a xs):=by
 rcases h with h|⟨f,h⟩
 ·exact .inl (s _ _ h u8)
 ·exact .inr ⟨f,s.seqT h⟩
theorem JP {K} (s:NL M M') (h:M a=some (.tup xs)\/(lfL ds=true/\SqT K M a xs)):SqT K M' a xs:=by
 rcases tupAt s h with h|⟨_,h⟩
 ·exact .of h
 ·exact h
mutual
theorem Deep.frame {K:Frag} {M M' H H':Hp} (s:NL M M'):∀ (d:D) (v:V) (A:List Addr),(∀a∈A,∀o,H a=some o->H' a=some o)->Deep K M H d v A->Deep K M' H' d v A
 |.non,_,_,_,h=>h
 |.bl _,_,_,_,h=>h
 |.int _,_,_,_,h=>h
 |.str _,_,_,_,h=>h
 |.ty _,_,_,_,h=>h
 |.adr _,_,_,_,h=>h
 |.tup ds,_,A,k,⟨a,xs,e,q,l⟩=>⟨a,xs,e,tupAt s q,DeepL.frame s ds xs A k l⟩
 |.lst ds,_,A,k,⟨a,xs,A',e,q,z,l⟩=>⟨a,xs,A',e,k a (by rw[z];exact N5) _ q,z,DeepL.frame s ds xs A' (λb hb=>k b (by rw[z];exact N6 _ hb)) l⟩
 |.obj _ _ _,_,_,_,h=>h.elim
 |.dct ks ds,_,A,k,⟨a,kvs,A',e,q,y,z,l⟩=>⟨a,kvs,A',e,k a (by rw[z];exact N5) _ q,y,z,DeepL.frame s ds _ A' (λb hb=>k b (by rw[z];exact N6 _ hb)) l⟩
theorem DeepL.frame {K:Frag} {M M' H H':Hp} (s:NL M M'):∀ (ds:NS) (xs:List V) (A:List Addr),(∀a∈A,∀o,H a=some o->H' a=some o)->DeepL K M H ds xs A->DeepL K M' H' ds xs A
 |[],_,_,_,h=>h
 |d::ds,_,A,k,⟨x,r,A1,A2,e,z,h,l⟩=>⟨x,r,A1,A2,e,z,Deep.frame s d x A1 (λb hb=>k b (by rw[z];exact Of _ hb)) h,DeepL.frame s ds r A2 (λb hb=>k b (by rw[z];exact Og _ hb)) l⟩
end
mutual
theorem Deep.is {K:Frag} {M M' H:Hp} (s:NL M M'):∀ (d:D) (v:V) (A:List Addr),(∀a∈A,∀o,H a=some o->M' a=some o)->Deep K M H d v A->Is K M' d v
 |.non,_,_,_,h=>h.1
 |.bl _,_,_,_,h=>h.1
 |.int _,_,_,_,h=>h.1
 |.str _,_,_,_,h=>h.1
 |.ty _,_,_,_,h=>h.1
 |.adr _,_,_,_,h=>h.1
 |.tup ds,_,A,k,⟨a,xs,e,q,l⟩=>⟨a,xs,e,JP s q,DeepL.is s ds xs A k l⟩
 |.lst ds,_,A,k,⟨a,xs,A',e,q,z,l⟩=>⟨a,xs,e,.of (k a (by rw[z];exact N5) _ q),DeepL.is s ds xs A' (λb hb=>k b (by rw[z];exact N6 _ hb)) l⟩
 |.obj _ _ _,_,_,_,h=>h.elim
 |.dct ks ds,_,A,k,⟨a,kvs,A',e,q,y,z,l⟩=>⟨a,kvs,e,.inl (k a (by rw[z];exact N5) _ q),y,DeepL.is s ds _ A' (λb hb=>k b (by rw[z];exact N6 _ hb)) l⟩
theorem DeepL.is {K:Frag} {M M' H:Hp} (s:NL M M'):∀ (ds:NS) (xs:List V) (A:List Addr),(∀a∈A,∀o,H a=some o->M' a=some o)->DeepL K M H ds xs A->IsL K M' ds xs
 |[],_,_,_,h=>h.1
 |d::ds,_,A,k,⟨x,r,A1,A2,e,z,h,l⟩=>⟨x,r,e,Deep.is s d x A1 (λb hb=>k b (by rw[z];exact Of _ hb)) h,DeepL.is s ds r A2 (λb hb=>k b (by rw[z];exact Og _ hb)) l⟩
end
mutual
theorem Is.deep {K:Frag} {M H:Hp}:∀ (d:D) (v:V),lfD d=true->Is K M d v->Deep K M H d v []
 |.non,_,_,h=>⟨h,rfl⟩
 |.bl _,_,_,h=>⟨h,rfl⟩
 |.int _,_,_,h=>⟨h,rfl⟩
 |.str _,_,_,h=>⟨h,rfl⟩
 |.ty _,_,_,h=>⟨h,rfl⟩
 |.adr _,_,_,h=>⟨h,rfl⟩
 |.tup ds,_,f,⟨a,xs,e,q,l⟩=>⟨a,xs,e,.inr ⟨f,q⟩,IsL.deep ds xs f l⟩
 |.lst _,_,f,_=>by cases f
 |.obj _ _ _,_,f,_=>by cases f
 |.dct _ _,_,f,_=>by cases f
theorem IsL.deep {K:Frag} {M H:Hp}:∀ (ds:NS) (xs:List V),lfL ds=true->IsL K M ds xs->DeepL K M H ds xs []
 |[],_,_,h=>⟨h,rfl⟩
 |d::ds,_,f,⟨x,r,e,h,l⟩=>by
  have f':(lfD d&&lfL ds)=true:=f;rw[and_eq_true]at f';exact⟨x,r,[],[],e,rfl,Is.deep d x f'.1 h,IsL.deep ds r f'.2 l⟩
end
mutual
theorem Deep.lf {K:Frag} {M H:Hp}:∀ (d:D) (v:V) (A:List Addr),lfD d=true->Deep K M H d v A->A=[]
 |.non,_,_,_,h=>h.2
 |.bl _,_,_,_,h=>h.2
 |.int _,_,_,_,h=>h.2
 |.str _,_,_,_,h=>h.2
 |.ty _,_,_,_,h=>h.2
 |.adr _,_,_,_,h=>h.2
 |.tup ds,_,A,f,⟨a,xs,e,q,l⟩=>DeepL.lf ds xs A f l
 |.lst _,_,_,f,_=>by cases f
 |.obj _ _ _,_,_,f,_=>by cases f
 |.dct _ _,_,_,f,_=>by cases f
theorem DeepL.lf {K:Frag} {M H:Hp}:∀ (ds:NS) (xs:List V) (A:List Addr),lfL ds=true->DeepL K M H ds xs A->A=[]
 |[],_,_,_,h=>h.2
 |d::ds,_,A,f,⟨x,r,A1,A2,e,z,h,l⟩=>by
  have f':(lfD d&&lfL ds)=true:=f;rw[and_eq_true]at f';rw[z,Deep.lf d x A1 f'.1 h,DeepL.lf ds r A2 f'.2 l];rfl
end
mutual
theorem Is.nl {K:Frag} {M M':Hp} (s:NL M M'):∀ (d:D) (v:V),lfD d=true->Is K M d v->Is K M' d v
 |.non,_,_,h=>h
 |.bl _,_,_,h=>h
 |.int _,_,_,h=>h
 |.str _,_,_,h=>h
 |.ty _,_,_,h=>h
 |.adr _,_,_,h=>h
 |.tup ds,_,f,⟨a,xs,e,q,l⟩=>⟨a,xs,e,s.seqT q,IsL.nl s ds xs f l⟩
 |.lst _,_,f,_=>by cases f
 |.obj _ _ _,_,f,_=>by cases f
 |.dct _ _,_,f,_=>by cases f
theorem IsL.nl {K:Frag} {M M':Hp} (s:NL M M'):∀ (ds:NS) (xs:List V),lfL ds=true->IsL K M ds xs->IsL K M' ds xs
 |[],_,_,h=>h
 |d::ds,_,f,⟨x,r,e,h,l⟩=>by
  have f':(lfD d&&lfL ds)=true:=f;rw[and_eq_true]at f';exact⟨x,r,e,Is.nl s d x f'.1 h,IsL.nl s ds r f'.2 l⟩
end
def OwnC (K:Frag) (O:NR) (H:Hp):Cat->D->V->List Addr->Prop
 |.sh,d,v,A=>A=[]/\Is K (msk O H) d v
 |.top,d,v,A=>∃a ds xs,d=.lst ds/\v=.ref a/\A=[a]/\H a=some (.lst xs)/\IsL K (msk O H) ds xs
 |.deep,d,v,A=>Deep K (msk O H) H d v A
theorem OwnC.frame {K} (s:Same (msk O H) (msk O' H')) (k:∀a∈A,∀o,H a=some o->H' a=some o) (h:OwnC K O H c d v A):OwnC K O' H' c d v A:=by
 cases c with
 |sh=>exact⟨h.1,Is.mono s d v h.2⟩
 |top=>
  obtain⟨a,ds,xs,e1,e2,e3,e4,l⟩:=h;exact⟨a,ds,xs,e1,e2,e3,k a (by rw[e3];exact N5) _ e4,IsL.mono s ds xs l⟩
 |deep=>exact Deep.frame (NL.of s) d v A k h
theorem OwnC.is {K} (s:Same (msk O H) (msk O' H)) (k:∀a∈A,O' a=false) (h:OwnC K O H c d v A):Is K (msk O' H) d v:=by
 cases c with
 |sh=>exact Is.mono s d v h.2
 |top=>
  obtain⟨a,ds,xs,e1,e2,e3,e4,l⟩:=h;subst e1;exact⟨a,xs,e2,.of (by rw[aE (k a (by rw[e3];exact N5))];exact e4),IsL.mono s ds xs l⟩
 |deep=>exact Deep.is (NL.of s) d v A (λa ha o e=>by rw[aE (k a ha)];exact e) h
abbrev Sl:=Cat×D
abbrev Ev:=List (Option Sl)
abbrev _root_.NH:=Option Sl
abbrev _root_.NE:=Ev->Option (Sl×Ev)
abbrev _root_.ad:=List D->Option Sl
structure Bs where
 H:Hp
 O:NR
structure EnvOk (K:Frag) (B:Bs) (O:NR) (Y:St) (H:Hp) (U:Ev):Prop where
 same:Same B.H H
 bdom:∀b,B.O b=true->B.H b≠none
 sub:∀b,B.O b=true->O b=true
 lis:∀b,O b=true->Hid (H b)
 len:Y.length=U.length
 fp:∃F:Nat->List Addr,(∀ (i:Nat) (s:Sl),U[i]?=some (some s)->∃v,Y[i]?=some (some v)/\OwnC K O H s.1 s.2 v (F i))/\
  (∀i,(F i).Nodup)/\(∀i j a,a∈F i->a∈F j->i=j)/\∀i a,a∈F i->O a=true/\B.H a=none
noncomputable def noO:NR:=λ_=>false
theorem oZ:msk noO H=H:=by constructor<;>grind
noncomputable def vw (U:Ev):Vv:=U.map λs=>s.map (·.2)
noncomputable def Ge:NH->NU
 |some (.sh,d)=>some d
 |some (_,d)=>if lfD d then some d else none
 |none=>none
def shv (U:Ev):Vv:=U.map Ge
noncomputable def eI (U:Ev):Ev:=U.map λs=>s.map λx=>(Cat.sh,x.2)
section
variable {K:Frag} {B:Bs} {O:NR} {Y:St} {H H':Hp} {U:Ev}
theorem EnvOk.dom (E:EnvOk K B O Y H U):∀b,O b=true->H b≠none:=λb h=>(E.lis b h).ne
theorem EnvOk.nl (E:EnvOk K B O Y H U):NL H (msk O H):=λb o h q=>by
 cases e:O b with
 |false=>rw[aE e];exact h
 |true=>
  have h':=E.lis b e;rw[h]at h';exact(q h').elim
theorem EnvOk.grow (E:EnvOk K B O Y H U) (s:Same H H'):EnvOk K B O Y H' U where
 same:=E.same.trans s
 bdom:=E.bdom
 sub:=E.sub
 lis:=λb h=>(E.lis b h).same s
 len:=E.len
 fp:=by
  obtain⟨F,h1,h2,h3,h4⟩:=E.fp;refine⟨F,λi x q=>?_,h2,h3,h4⟩;obtain⟨v,e,o⟩:=h1 i x q;exact⟨v,e,o.frame s.msk λa _ u hu=>s _ _ hu⟩
theorem EnvOk.fresh (E:EnvOk K B O Y H U) (h:H p=none):O p=false:=fq E.dom h
theorem pe {α β:Type} {f} {l:List (Option α)} {i:Nat} {y:β} (h:(l.map f)[i]?=some (some y)):∃x,l[i]?=some x/\f x=some y:=by grind
theorem EnvOk.view (E:EnvOk K B O Y H U):VE K noO Y H (vw U) where
 lis:=λb h=>by cases h
 len:=by unfold vw;rw[length_map];exact E.len
 sh:=λi d q=>by
  obtain⟨F,h1,h2,h3,h4⟩:=E.fp;obtain⟨x,e,z⟩:=pe q;cases x with
  |none=>cases z
  |some s=>
   cases z;obtain⟨v,e1,o⟩:=h1 i s e;exact⟨v,e1,o.is (by rw[oZ];exact msk_le) λ_ _=>rfl⟩
theorem EnvOk.viewS (E:EnvOk K B O Y H U):VE K O Y H (shv U) where
 lis:=E.lis
 len:=by unfold shv;rw[length_map];exact E.len
 sh:=λi d q=>by
  obtain⟨F,h1,h2,h3,h4⟩:=E.fp;obtain⟨x,e,z⟩:=pe q;cases x with
  |none=>cases z
  |some s=>
   obtain⟨c,d'⟩:=s;obtain⟨v,e1,o⟩:=h1 i _ e;refine⟨v,e1,?_⟩;cases c with
   |sh=>cases z;exact o.2
   |top=>
    obtain⟨a,ds,xs,z1,_⟩:=o;have z':=z;rw[show d'=.lst ds from z1]at z';cases z'
   |deep=>
    obtain⟨f,z'⟩:=az (z);subst z';have hA:=Deep.lf d' v (F i) f o;exact Deep.is (NL.of (Same.refl _)) d' v (F i) (λa ha=>by rw[hA]at ha;cases ha) o
theorem EnvOk.frozen (E:EnvOk K B O Y H U):EnvOk K B B.O Y H (eI U)/\Same (msk O H) (msk B.O H):=by
 have le:Same (msk O H) (msk B.O H):=λb o h=>by
  obtain⟨h1,h2⟩:=aJ h;rw[aE];exact h2;cases e:B.O b with
  |false=>rfl
  |true=>rw[E.sub b e]at h1;cases h1
 refine⟨⟨E.same,E.bdom,λ_ h=>h,λb h=>E.lis b (E.sub b h),by unfold eI;rw[length_map];exact E.len,λ_=>[],λi s q=>?_,λ_=>List.nodup_nil,λ_ _ _ h=>(nomatch h),λ_ _ h=>(nomatch h)⟩,le⟩;obtain⟨F,h1,h2,h3,h4⟩:=E.fp;obtain⟨x,e,z⟩:=pe q;cases x with
 |none=>cases z
 |some s'=>
  cases z;obtain⟨v,e1,o⟩:=h1 i _ e;refine⟨v,e1,rfl,o.is le λa ha=>?_⟩;cases e:B.O a with
  |false=>rfl
  |true=>exact absurd (h4 i a ha).2 (E.bdom a e)
theorem EnvOk.viewF (E:EnvOk K B O Y H U):VE K B.O Y H (vw U):=by
 have h:=E.frozen.1.viewS;have e:shv (eI U)=vw U:=by
  unfold shv eI vw;rw[List.map_map];apply List.map_congr_left;intro x _;cases x<;>rfl
 rw[e]at h;exact h
theorem EnvOk.more (E:EnvOk K B O Y H U) {c:Cat} {d:D} {v:V} {A:List Addr} {O':NR} (s:Same H H') (le:Same (msk O H) (msk O' H')) (hO:∀b,O' b=true->O b=true\/b∈A) (hO2:∀b,O b=true->O' b=true) (hO3:∀b∈A,O' b=true)
  (hl:∀a∈A,Hid (H' a)) (nd:A.Nodup) (fr:∀a∈A,H a=none) (h:OwnC K O' H' c d v A):EnvOk K B O' (Y++[some v]) H' (U++[some (c,d)]) where
 same:=E.same.trans s
 bdom:=E.bdom
 sub:=λb q=>hO2 b (E.sub b q)
 lis:=λb q=>by
  rcases hO b q with q|q
  ·exact(E.lis b q).same s
  ·exact hl b q
 len:=by rw[length_append,length_append,E.len];rfl
 fp:=by
  obtain⟨F,h1,h2,h3,h4⟩:=E.fp;have no:∀i a,a∈F i->a ∉ A:=λi a ha hA=>E.dom a (h4 i a ha).1 (fr a hA);refine⟨λi=>if i=U.length then A else F i,λi x q=>?_,λi=>?_,λi j a hi hj=>?_,λi a hi=>?_⟩
  ·by_cases hi:i=U.length
   ·subst hi;rw[getElem?_append_right (le_refl _)]at q;simp at q;subst q;refine⟨v,?_,by simp only[if_true];exact h⟩;rw[getElem?_append_right (Nat.le_of_eq E.len),E.len];simp
   ·have hi2:i<U.length:=by
     by_cases h:i<U.length
     ·exact h
     ·rw[getElem?_append_right (!1)]at q;cases hk:i-U.length with
      |zero=>omega
      |succ m=>rw[hk]at q;simp at q
    rw[getElem?_append_left hi2]at q;obtain⟨w,e,o⟩:=h1 i x q;refine⟨w,?_,?_⟩
    ·rw[getElem?_append_left (by rw[E.len];exact hi2)];exact e
    ·simp only[if_neg hi];exact o.frame le λa ha u hu=>s _ _ hu
  ·dsimp only;split
   ·exact nd
   ·exact h2 i
  ·dsimp only at hi hj;split at hi<;>split at hj
   ·omega
   ·exact absurd hi (no j a hj)
   ·exact absurd hj (no i a hi)
   ·exact h3 i j a hi hj
  ·dsimp only at hi;split at hi
   ·exact⟨hO3 a hi,E.same.free (fr a hi)⟩
   ·exact⟨hO2 a (h4 i a hi).1,(h4 i a hi).2⟩
theorem getElem?_last {α:Type} (l:List α) (x:α):(l++[x])[l.length]?=some x:=by simp
theorem ck {α:Type} {l} {x} (h:i≠l.length) {y:α} (e:(l++[x])[i]?=some y):l[i]?=some y:=by
 by_cases hi:i<l.length
 ·rw[getElem?_append_left hi]at e;exact e
 ·rw[getElem?_append_right (!1)]at e;cases hk:i-l.length with
  |zero=>omega
  |succ m=>rw[hk]at e;simp at e
theorem EnvOk.put {v:V} {s:Sl} (E:EnvOk K B O (Y++[some v]) H (U++[some s])) (i:Nat):EnvOk K B O (Y.set i (some v)) H (U.set i (some s)) where
 same:=E.same
 bdom:=E.bdom
 sub:=E.sub
 lis:=E.lis
 len:=by have:=E.len;simp at this⊢;exact this
 fp:=by
  obtain⟨F,h1,h2,h3,h4⟩:=E.fp;have len:Y.length=U.length:=by have:=E.len;simp at this;exact this
  obtain⟨v',e1,o1⟩:=h1 U.length s (getElem?_last _ _);rw[<-len,getElem?_last]at e1;cases e1;refine⟨λj=>if j=i then F U.length else if j=U.length then[]else F j,λj x q=>?_,λj=>?_,λj k a hj hk=>?_,λj a hj=>?_⟩
  ·rcases get_set_some q with⟨e,q'⟩|⟨e,q'⟩
   ·cases q';subst e;have hi:j<Y.length:=by rw[len];exact nR q
    exact⟨v,by simp[hi],by simp only[if_true];exact o1⟩
   ·have hj:j≠U.length:=by
     have:=(N4.mp q').1;omega
    obtain⟨w,e2,o2⟩:=h1 j x (by rw[getElem?_append_left (List.getElem?_eq_some_iff.mp q').1];exact q');refine⟨w,?_,by simp only[if_neg e,if_neg hj];exact o2⟩;rw[List.getElem?_set_ne (Ne.symm e)];exact ck (by rw[len];exact hj) e2
  ·dsimp only;split
   ·exact h2 _
   ·split
    ·exact List.nodup_nil
    ·exact h2 _
  ·dsimp only at hj hk;split at hj
   ·split at hk
    ·omega
    ·split at hk
     ·cases hk
     ·have:=h3 _ _ a hj hk;omega
   ·split at hj
    ·cases hj
    ·split at hk
     ·have:=h3 _ _ a hj hk;omega
     ·split at hk
      ·cases hk
      ·exact h3 _ _ a hj hk
  ·dsimp only at hj;split at hj
   ·exact h4 _ a hj
   ·split at hj
    ·cases hj
    ·exact h4 _ a hj
theorem EnvOk.drop {v:V} {s:Sl} (E:EnvOk K B O (Y++[some v]) H (U++[some s])):EnvOk K B O Y H U where
 same:=E.same
 bdom:=E.bdom
 sub:=E.sub
 lis:=E.lis
 len:=by have:=E.len;simp at this;exact this
 fp:=by
  obtain⟨F,h1,h2,h3,h4⟩:=E.fp;have len:Y.length=U.length:=by have:=E.len;simp at this;exact this
  refine⟨F,λj x q=>?_,h2,h3,h4⟩;have hj:=(N4.mp q).1;obtain⟨w,e2,o2⟩:=h1 j x (by rw[getElem?_append_left hj];exact q);exact⟨w,ck (!1) e2,o2⟩
theorem EnvOk.setSh (E:EnvOk K B O Y H U) (h:Is K (msk O H) d v):EnvOk K B O (Y.set i (some v)) H (U.set i (some (.sh,d))):=
 (E.more (c:=.sh) (A:=[]) (Same.refl _) (Same.refl _) (λ_ h=>.inl h) (λ_ h=>h) (λ_ h=>(nomatch h)) (λ_ h=>(nomatch h)) List.nodup_nil (λ_ h=>(nomatch h)) ⟨rfl,h⟩).put i
end
mutual
theorem Deep.lists {K:Frag} {M H:Hp}:∀ (d:D) (v:V) (A:List Addr),Deep K M H d v A->∀a∈A,Hid (H a)
 |.non,_,_,h,_,q=>by rw[h.2]at q;cases q
 |.bl _,_,_,h,_,q=>by rw[h.2]at q;cases q
 |.int _,_,_,h,_,q=>by rw[h.2]at q;cases q
 |.str _,_,_,h,_,q=>by rw[h.2]at q;cases q
 |.ty _,_,_,h,_,q=>by rw[h.2]at q;cases q
 |.adr _,_,_,h,_,q=>by rw[h.2]at q;cases q
 |.tup ds,_,A,⟨a,xs,e,_,l⟩,b,q=>DeepL.lists ds xs A l b q
 |.lst ds,_,A,⟨a,xs,A',e,h,z,l⟩,b,q=>by
  rw[z]at q;rcases mem_cons.mp q with rfl|q
  ·exact .inl ⟨xs,h⟩
  ·exact DeepL.lists ds xs A' l b q
 |.obj _ _ _,_,_,h,_,_=>h.elim
 |.dct ks ds,_,A,⟨a,kvs,A',e,h,y,z,l⟩,b,q=>by
  rw[z]at q;rcases mem_cons.mp q with rfl|q
  ·exact .inr (.inr ⟨kvs,h⟩)
  ·exact DeepL.lists ds _ A' l b q
theorem DeepL.lists {K:Frag} {M H:Hp}:∀ (ds:NS) (xs:List V) (A:List Addr),DeepL K M H ds xs A->∀a∈A,Hid (H a)
 |[],_,_,h,_,q=>by rw[h.2]at q;cases q
 |d::ds,_,A,⟨x,r,A1,A2,e,z,h,l⟩,b,q=>by
  rw[z]at q;rcases mem_append.mp q with q|q
  ·exact Deep.lists d x A1 h b q
  ·exact DeepL.lists ds r A2 l b q
end
theorem DeepL.len {K}:∀ {ds:NS} {xs:List V} {A:List Addr},DeepL K M H ds xs A->ds.length=xs.length
 |[],_,_,h=>by rw[h.1];rfl
 |_::_,_,_,⟨x,r,A1,A2,e,z,h,l⟩=>by rw[e,length_cons,length_cons,DeepL.len l]
theorem DeepL.snoc {K} (h:Deep K M H y v A'):∀ {ds:NS} {xs:List V} {A:List Addr},DeepL K M H ds xs A->DeepL K M H (ds++[y]) (xs++[v]) (A++A')
 |[],_,_,l=>by
  rw[l.1,l.2];exact⟨v,[],A',[],rfl,by simp,h,rfl,rfl⟩
 |d::ds,_,_,⟨x,r,A1,A2,e,z,q,l⟩=>by
  rw[e,z];exact⟨x,r++[v],A1,A2++A',rfl,by rw[List.append_assoc],q,DeepL.snoc h l⟩
def PU (X:Cx) (e:Expr) (t:TE):Prop:=PE X e t/\∀ (i:Nat) (x:Str) (px spos:Pos),X.N.Nodup->X.N[i]?=some x->X.env.scope.names.lookup x=some .local->
 swapsWith e (some (!17)) spos.line X.env=pure true->PS X (.Assign [.Name x px] e spos) (xS t (qD i))
theorem PU.imp (h:PU X e t) (k:∀Y H Q,t' Y H Q->t Y H Q):PU X e t':=
 ⟨h.1.imp k,λi x px spos a b c d=>(h.2 i x px spos a b c d).imp λEn Y H q=>k Y H _ q⟩
theorem PE.by2 (h1:PE X e t1) (h2:PE X e t2) (k:∀Y H Q,t Y H Q->t1 Y H Q\/t2 Y H Q):PE X e t:=λpins s Y H Q I q=>(k Y H Q q).elim (h1 pins s Y H Q I) (h2 pins s Y H Q I)
theorem PS.by2 (h1:PS X e t1) (h2:PS X e t2) (k:∀En Y H,t En Y H->t1 En Y H\/t2 En Y H):PS X e t:=λpins s Y H Q I q=>(k Q Y H q).elim (h1 pins s Y H Q I) (h2 pins s Y H Q I)
theorem PU.by2 (h1:PU X e t1) (h2:PU X e t2) (k:∀Y H Q,t Y H Q->t1 Y H Q\/t2 Y H Q):PU X e t:=
 ⟨h1.1.by2 h2.1 k,λi x px spos a b c d=>(h1.2 i x px spos a b c d).by2 (h2.2 i x px spos a b c d) λEn Y H q=>k Y H _ q⟩
theorem PU.ex {ι:Type} {t:ι->TE} (h:∀z,PU X e (t z)):PU X e (λY H Q=>∃z,t z Y H Q):=
 ⟨PE.ex λz=>(h z).1,λi x px spos a b c d pins s Y H D I ⟨z,q⟩=>(h z).2 i x px spos a b c d pins s Y H D I q⟩
noncomputable def fA:Expr->Bool
 |.ListComp _ _ _ _=>true
 |.SetComp _ _ _ _=>true
 |.DictComp _ _ _ _ _=>true
 |_=>false
theorem ij (h:fA e=false) (t:Option Expr) (l:Nat) (env:Env):swapsWith e t l env=pure false:=by
 cases e<;>first|rfl|cases h
theorem PE.pu (h:PE X e t) (hc:fA e=false):PU X e t:=⟨h,λi x px spos _ _ _ q=>by
 rw[ij hc]at q;have q':=q;cases q'⟩
theorem u9 (hc:X.calm=true) (S:CSc X scope ks) (hi:PI X tg iter wi) (hg:∀C s H fp,PG (!11) tg g) (htt:∀C s H fp,PTs (!11) ifs tt) (he:∀C s H fp,PE (!11) elt te) (hs:∀x,foldedSetIterable iter X.env x=pure x):PU X (.ListComp elt [⟨tg,iter,ifs,0⟩] scope pos) (qK wi ks g tt te):=
 ⟨B0 hc S hi hg htt he hs,λi x px spos hN hx hl hsw=>B3 hN hx hl hc S hi hg htt he hsw hs⟩
def tFr (K:Frag) (U:Vv) (o:NU):TE:=λY H Q=>VE K noO Y H U/\∃d,o=some d/\∀v H' A,Same H H'->Deep K H' H' d v A->A.Nodup->(∀a∈A,H a=none)->Q v H'
def L5 (K:Frag) (U:Vv) (o:NI):TA:=λY H Q=>VE K noO Y H U/\∃ds,o=some ds/\∀vs H' A,Same H H'->DeepL K H' H' ds vs A->A.Nodup->(∀a∈A,H a=none)->Q vs H'
def PFr (X:Cx) (e:Expr) (f:wp):Prop:=∀U,PU X e (tFr X.K U (f U))
def tz (X:Cx) (es:NT) (f:qm):Prop:=∀U,PA X es (L5 X.K U (f U))
def PPu (X:Cx) (e:Expr) (f:wp):Prop:=∀O U,PU X e (tP X.K O U (f U))
def PFu (X:Cx) (e:Expr) (f:qm):Prop:=∀O U,PU X e (tPF X.K O U (f U))
section
variable {X:Cx} {e:Expr} {es:NT} {pos:Pos}
noncomputable def lfO (o:NU):NU:=o.bind λd=>if lfD d then some d else none
noncomputable def jd (o:NI):NU:=o.bind λds=>if lfL ds then some (.lst ds)else none
theorem Gf {K} (h:tFr K U (lfO o) Y H Q):tP K noO U o Y H Q:=by
 obtain⟨E,d,e,k⟩:=h;obtain⟨d',e1,e2⟩:=Op e;obtain⟨f,e3⟩:=az e2;subst e3;refine⟨E,d',e1,λv H' s i=>k v H' [] s ?_ List.nodup_nil λ_ q=>(nomatch q)⟩;exact Is.deep d' v f i
theorem Ct {K} (h:tFr K U (jd o) Y H Q):tPF K noO U o Y H Q:=by
 obtain⟨E,d,e,k⟩:=h;obtain⟨ds,e1,e2⟩:=Op e;obtain⟨f,e3⟩:=az e2;subst e3;refine⟨E,ds,e1,λp xs H' s hp l=>?_⟩;refine k _ _ [p] (s.trans (Same.new hp)) ⟨p,xs,[],rfl,ai,rfl,?_⟩ (by simp) λa ha=>?_
 ·exact DeepL.frame (NL.of (Same.new hp)) ds xs [] (λ_ q=>(nomatch q)) (IsL.deep (H:=H') ds xs f l)
 ·rw[mem_singleton.mp ha];exact s.free hp
theorem JQ (h:PPu X e f):PFr X e (λU=>lfO (f U)):=λU=>(h noO U).imp λY H Q q=>Gf q
theorem Gg (h:PFu X e f):PFr X e (λU=>jd (f U)):=λU=>(h noO U).imp λY H Q q=>Ct q
noncomputable def orO {α β:Type} (f g:α->Option β):α->Option β:=λx=>match f x with|some y=>some y|none=>g x
theorem or_some {x:α} {y:β} (h:orO f g x=some y):f x=some y\/g x=some y:=by grind [orO]
theorem Ey (h1:PFr X e f) (h2:PFr X e g):PFr X e (orO f g):=λU=>(h1 U).by2 (h2 U) λY H Q ⟨E,d,q,k⟩=>by
 rcases or_some q with q|q;all_goals grind
theorem im:PFr X e (λ_=>none):=λU=>⟨λ_ _ _ _ _ _ ⟨_,_,q,_⟩=>(by cases q),λ_ _ _ _ _ _ _ _ _ _ _ _ _ _ ⟨_,_,q,_⟩=>(by cases q)⟩
theorem pf:PPu X e (λ_=>none):=λO U=>⟨λ_ _ _ _ _ _ ⟨_,_,q,_⟩=>(by cases q),λ_ _ _ _ _ _ _ _ _ _ _ _ _ _ ⟨_,_,q,_⟩=>(by cases q)⟩
theorem cm:PFu X e (λ_=>none):=λO U=>⟨λ_ _ _ _ _ _ ⟨_,_,q,_⟩=>(by cases q),λ_ _ _ _ _ _ _ _ _ _ _ _ _ _ ⟨_,_,q,_⟩=>(by cases q)⟩
theorem tB (h1:PPu X e f) (h2:PPu X e g):PPu X e (orO f g):=λO U=>(h1 O U).by2 (h2 O U) λY H Q ⟨E,d,q,k⟩=>by
 rcases or_some q with q|q;all_goals grind
theorem Cu:tz X [] (λ_=>some []):=λU=>pa_nil.imp λY H Q ⟨E,ds,e,k⟩=>by
 cases e;exact k [] H [] (Same.refl _) ⟨rfl,rfl⟩ List.nodup_nil λ_ q=>(nomatch q)
theorem Deep.have {K} (h:Deep K M H d v A) (q:a∈A):H a≠none:=by
 exact(Deep.lists d v A h a q).ne
theorem frs_cons (h:PFr X e f) (hr:tz X es g) (hs:starEach (e::es) X.env=(false,eval e X.env)::starEach es X.env):tz X (e::es) (aa f g):=
 λU=>(dE (h U).1 (hr U) hs).imp λY H Q ⟨E,ds,q,k⟩=>by
 obtain⟨d,e1,q⟩:=Op q
 obtain⟨r,e2,q⟩:=Op q
 cases q
 refine⟨E,d,e1,λv H1 A1 s1 i1 n1 f1=>⟨E.grow s1,r,e2,λvs H2 A2 s2 i2 n2 f2=>k _ H2 _ (!28) ⟨v,vs,A1,A2,rfl,rfl,Deep.frame (NL.of s2) d v A1 (λa _ o h=>s2 _ _ h) i1,i2⟩ ?_ ?_⟩⟩
 ·refine List.nodup_append.mpr ⟨n1,n2,λa ha b hb z=>?_⟩;subst z;exact i1.have ha (f2 a hb)
 ·intro a ha;rcases mem_append.mp ha with ha|ha
  ·exact f1 a ha
  ·exact s1.free (f2 a ha)
theorem Gh (h:tz X es g):PFr X (.List es pos) (λU=>(bC (g U)).bind λds=>some (.lst ds)):=λU=>PE.pu ((ye (h U)).imp λY H Q ⟨E,d,q,k⟩=>by
 obtain⟨ds,z,q2⟩:=Op q;cases q2;obtain⟨e1,e2⟩:=cj z;refine⟨E,ds,e1,λvs H1 A s1 l n f=>⟨by rw[<-l.len];exact Oi e2,λp hp=>?_⟩⟩;have hpA:p ∉ A:=λz=>by
  exact(DeepL.lists ds vs A l p z).ne (hp)
 refine k _ _ _ (s1.trans (Same.new hp)) ⟨p,vs,A,rfl,ai,rfl,DeepL.frame (NL.of (Same.new hp)) ds vs A (λa _ o h=>Same.new hp _ _ h) l⟩ (List.nodup_cons.mpr ⟨hpA,n⟩) λa ha=>?_;rcases mem_cons.mp ha with rfl|ha
 ·exact s1.free hp
 ·exact f a ha) rfl
theorem Gi {x1} (h:tz X es g):PFr X (.Tuple es x1 pos) (λU=>(bC (g U)).bind λds=>some (.tup ds)):=λU=>PE.pu ((yd (h U)).imp λY H Q ⟨E,d,q,k⟩=>by
 obtain⟨ds,z,q2⟩:=Op q;cases q2;obtain⟨e1,e2⟩:=cj z;refine⟨E,ds,e1,λvs H1 A s1 l n f=>⟨by rw[<-l.len];exact Oi e2,λp hp=>?_⟩⟩;exact k _ _ A (s1.trans (Same.new hp)) ⟨p,vs,rfl,.inl ai,DeepL.frame (NL.of (Same.new hp)) ds vs A (λa _ o h=>Same.new hp _ _ h) l⟩ n f) rfl
abbrev xFr (K:Frag) (f:wp):TE:=λY H Q=>∃z:Vv,tFr K z (f z) Y H Q
theorem tD {K} (h:tFr K U ((aj ks fi g ft fe U).bind λds=>some (.lst ds)) Y H Q):
  qK (tJ K noO U (fi U)) ks (xG K ks g) (xT K ft) (xFr K fe) Y H Q:=by
 obtain⟨E,d,ee,k⟩:=h
 obtain⟨tot,ef,ed⟩:=Op ee
 cases ed
 obtain⟨ds,e1,e⟩:=Op ef
 obtain⟨e2,hz⟩:=cj e
 refine⟨E,ds,e1,λJ H1 s1 it=>⟨λi m ys H2=>i<=ds.length/\m=ds.length-i/\Same H1 H2/\∃rs rest A,DeepL K H2 H2 rs ys A/\A.Nodup/\(∀a∈A,H a=none)/\gu (jT g ft fe _) (ds.drop i)=some rest/\tot=rs++rest,
  ⟨ds.length,Nat.zero_le _,by simp,Same.refl _,[],tot,[],⟨rfl,rfl⟩,List.nodup_nil,λ_ q=>(nomatch q),by simpa using e2,rfl⟩,?_⟩⟩
 rintro i m ys H2 ⟨hi,rfl,s2,rs,rest,A,il,nd,fr,er,et⟩
 have E2:=E.grow (!28)
 have hit:=it i H2 noO s2.msk E2.dom
 have hlen:ys.length<sizeLine:=by
  rw[<-il.len];have:rs.length<=tot.length:=by rw[et,length_append];omega
  omega
 by_cases hlt:i<ds.length
 ·refine .inr ?_;have hd:=getElem?_eq_getElem hlt;obtain⟨go,yl⟩:=hit.1 _ hd;refine⟨go,hlen,λx H3 hy=>?_⟩;obtain⟨s3,ix⟩:=yl x H3 hy;rw[List.drop_eq_getElem_cons hlt]at er;obtain⟨o,eo,er⟩:=Op (er);obtain⟨rest',er',er⟩:=Op er;obtain⟨U1,g1,eo⟩:=Op eo;obtain⟨c,c1,eo⟩:=Op eo;refine⟨⟨noO,d4 ks U,ds[i]⟩,(E2.grow s3).wiped ks,ix,U1,g1,λY4 E4 l4 k4=>⟨⟨l4,λj w hw=>?_⟩,⟨noO,U1⟩,E4,c,c1,λH5 s5=>?_⟩⟩
  ·exact k4 j w (wipe_iff.mp hw).2 hw
  ·have hm:ds.length-(i+1)<ds.length-i:=by omega
   cases c with
   |true=>
    refine FJ ?_;obtain⟨y,y1,eo⟩:=Op eo;cases eo;refine⟨U1,E4.grow s5,y,y1,λv H6 A' s6 iv nv fv=>⟨_,hm,hlt,rfl,s2.trans (s3.trans (s5.trans s6)),rs++[y],rest',A++A',?_,?_,?_,er',?_⟩⟩
    ·have s36:=s3.trans (s5.trans s6);have il':=DeepL.frame (NL.of s36) rs ys A (λa _ o h=>s36 _ _ h) il;exact DeepL.snoc iv il'
    ·refine List.nodup_append.mpr ⟨nd,nv,λa ha b hb z=>?_⟩;subst z;exact((DeepL.lists rs ys A il a ha).same (s3.trans s5)).ne (fv a hb)
    ·intro a ha;rcases mem_append.mp ha with ha|ha
     ·exact fr a ha
     ·exact(s1.trans (s2.trans (s3.trans s5))).free (fv a ha)
    ·rw[et,<-Option.some.inj er,List.append_assoc];rfl
   |false=>
    refine FI ?_;cases eo;have s35:=s3.trans s5;refine⟨_,hm,hlt,rfl,s2.trans s35,rs,rest',A,DeepL.frame (NL.of s35) rs ys A (λa _ o h=>s35 _ _ h) il,nd,fr,er',?_⟩;rw[et,<-Option.some.inj er]
 ·have hie:i=ds.length:=by omega
  subst hie;refine .inl ⟨hit.2 (Om _),Oi hlen,λp hp=>?_⟩;rw[List.drop_of_length_le (le_refl _)]at er;cases er;rw[List.append_nil]at et;subst et;have hpA:p ∉ A:=λz=>by
   exact(DeepL.lists tot ys A il p z).ne (hp)
  refine k _ _ _ (s1.trans (s2.trans (Same.new hp))) ⟨p,ys,A,rfl,ai,rfl,DeepL.frame (NL.of (Same.new hp)) tot ys A (λa _ o h=>Same.new hp _ _ h) il⟩ (List.nodup_cons.mpr ⟨hpA,nd⟩) λa ha=>?_;rcases mem_cons.mp ha with rfl|ha
  ·exact(!28).free hp
  ·exact fr a ha
end
def tEv (K:Frag) (B:Bs) (O:NR) (U:Ev) (o:Option (Sl×Ev)):TE:=λY H Q=>EnvOk K B O Y H U/\∃s U',o=some (s,U')/\∀v H' O',Same (msk O H) (msk O' H')->EnvOk K B O' (Y++[some v]) H' (U'++[some s])->Q v H'
def PEv (X:Cx) (e:Expr) (g:NE):Prop:=∀B O U,PU X e (tEv X.K B O U (g U))
section
variable {X:Cx} {e:Expr}
def kh (f:wp):NE:=λU=>(f (vw U)).bind λd=>some ((.deep,d),U)
def jV (f:qm):NE:=λU=>(f (shv U)).bind λds=>some ((.top,.lst ds),U)
def ph (f:wp):NE:=λU=>(f (shv U)).bind λd=>some ((.sh,d),U)
def yX (f:wp):NE:=λU=>(f (vw U)).bind λd=>some ((.sh,d),eI U)
theorem Ez (h:PFr X e f):PEv X e (kh f):=λB O U=>(h (vw U)).imp λY H Q ⟨E,s,U',q,k⟩=>by
 obtain⟨d,q1,q2⟩:=Op q;cases q2;refine⟨E.view,d,q1,λv H' A s i n f=>?_⟩;have hl:=Deep.lists d v A i;have hO:∀b,(O b||decide (b∈A))=true->Hid (H' b):=λb hb=>by
  rcases(Bool.or_eq_true _ _).mp hb with hb|hb
  ·exact(E.lis b hb).same s
  ·exact hl b (N7 hb)
 have le:Same (msk O H) (msk (λb=>O b||decide (b∈A)) H'):=λb o q=>by
  obtain⟨q1,q2⟩:=aJ q;have hb:b ∉ A:=λz=>by rw[f b z]at q2;cases q2
  rw[aE (by simp[q1,hb])];exact s _ _ q2
 refine k v H' _ le (E.more s le (λb hb=>?_) (λb hb=>by simp[hb]) (λb hb=>by simp[hb]) hl n f ?_)
 ·rcases(Bool.or_eq_true _ _).mp hb with hb|hb
  ·exact .inl hb
  ·exact .inr (N7 hb)
 ·refine Deep.frame (λb o hb hn=>?_) d v A (λa _ o h=>h) i;cases z:(O b||decide (b∈A))with
  |false=>rw[aE z];exact hb
  |true=>
   have e:=hO b z;rw[hb]at e;exact(hn e).elim
theorem tE (h:PFu X e f):PEv X e (jV f):=λB O U=>(h O _).imp λY H Q ⟨E,s,U',q,k⟩=>by
 obtain⟨ds,q1,q2⟩:=Op q;cases q2;refine⟨E.viewS,ds,q1,λp xs H' s hp l=>?_⟩;have le:Same (msk O H') (msk (λb=>O b||decide (b=p)) (upd H' p (.lst xs))):=λb o q=>by
  obtain⟨q1,q2⟩:=aJ q;have hb:=au q2 hp;rw[aE (by simp[q1,hb]),ag hb];exact q2
 refine k _ _ _ (s.msk.trans le) ((E.grow s).more (Same.new hp) le (λb hb=>?_) (λb hb=>by simp[hb]) (λb hb=>by simp[mem_singleton.mp hb]) (λa ha=>?_) (by simp) (λa ha=>by rw[mem_singleton.mp ha];exact hp) ⟨p,ds,xs,rfl,rfl,rfl,ai,IsL.mono le ds xs l⟩)
 ·rcases(Bool.or_eq_true _ _).mp hb with hb|hb
  ·exact .inl hb
  ·exact .inr (by simp[of_decide_eq_true hb])
 ·rw[mem_singleton.mp ha];exact .inl ⟨xs,ai⟩
theorem EnvOk.moreSh {K} (E:EnvOk K B O Y H U) (h:Is K (msk O H) d v):EnvOk K B O (Y++[some v]) H (U++[some (.sh,d)]):=
 E.more (A:=[]) (Same.refl _) (Same.refl _) (λ_ h=>.inl h) (λ_ h=>h) (λ_ h=>(nomatch h)) (λ_ h=>(nomatch h)) List.nodup_nil (λ_ h=>(nomatch h)) ⟨rfl,h⟩
theorem yY (h:PPu X e f):PEv X e (ph f):=λB O U=>(h O _).imp λY H Q ⟨E,s,U',q,k⟩=>by
 obtain⟨d,q1,q2⟩:=Op q;cases q2;exact⟨E.viewS,d,q1,λv H' s i=>k v H' O s.msk ((E.grow s).moreSh i)⟩
theorem EA (h:PPu X e f):PEv X e (yX f):=λB O U=>(h B.O (vw U)).imp λY H Q ⟨E,s,U',q,k⟩=>by
 obtain⟨d,q1,q2⟩:=Op q;cases q2;obtain⟨E',le⟩:=E.frozen;exact⟨E.viewF,d,q1,λv H' s i=>k v H' B.O (le.trans s.msk) ((E'.grow s).moreSh i)⟩
theorem jW (h1:PEv X e f) (h2:PEv X e g):PEv X e (orO f g):=λB O U=>(h1 B O U).by2 (h2 B O U) λY H Q ⟨E,s,U',q,k⟩=>by
 rcases or_some q with q|q;all_goals grind
end
inductive Out where
 |nx (U:Ev)
 |rt (s:Sl)
 |bk (U:Ev)
 |ct (U:Ev)
abbrev _root_.Cl:=Ev->Option Out
def RetOk (K:Frag) (B:Bs) (H':Hp) (s:Sl) (v:V):Prop:=∃ (O':NR) (A:List Addr),Same B.H H'/\(∀b,B.O b=true->O' b=true)/\(∀b,O' b=true->Hid (H' b))/\A.Nodup/\(∀a∈A,O' a=true/\B.H a=none)/\OwnC K O' H' s.1 s.2 v A
def post (K:Frag) (B:Bs) (O:NR) (H:Hp) (En:Ends):Out->Prop
 |.nx U=>∀Y' H' O',Same (msk O H) (msk O' H')->EnvOk K B O' Y' H' U->En.nx Y' H'
 |.bk U=>∀Y' H' O',Same (msk O H) (msk O' H')->EnvOk K B O' Y' H' U->En.bk Y' H'
 |.ct U=>∀Y' H' O',Same (msk O H) (msk O' H')->EnvOk K B O' Y' H' U->En.ct Y' H'
 |.rt s=>∀v H',RetOk K B H' s v->En.rt v H'
theorem post.mono {K} (s:Same (msk O H) (msk O1 H1)):∀ {o:Out},post K B O H En o->post K B O1 H1 En o
 |.nx _,h=>λY' H' O' s' E=>h Y' H' O' (s.trans s') E
 |.bk _,h=>λY' H' O' s' E=>h Y' H' O' (s.trans s') E
 |.ct _,h=>λY' H' O' s' E=>h Y' H' O' (s.trans s') E
 |.rt _,h=>h
def tS (K:Frag) (B:Bs) (O:NR) (U:Ev) (o:Option Out):TS:=λEn Y H=>EnvOk K B O Y H U/\∃out,o=some out/\post K B O H En out
def PR (X:Cx) (st:Stmt) (F:Cl):Prop:=∀B O U,PS X st (tS X.K B O U (F U))
def PRs (X:Cx) (st:List Stmt) (F:Cl):Prop:=∀B O U,PSs X st (tS X.K B O U (F U))
section
variable {X:Cx} {st:Stmt} {rest:List Stmt} {e tg iter:Expr} {pos:Pos}
theorem Gj:PRs X [] (λU=>some (.nx U)):=λB O U=>pss_nil.imp λEn Y H ⟨E,o,q,k⟩=>by
 cases q;exact k Y H O (Same.refl _) E
noncomputable def ae (F G:Cl):Cl:=λU=>(F U).bind λo=>match o with|.nx U'=>G U'|o=>some o
theorem Cv (h1:PR X st F) (h2:PRs X rest G):PRs X (st::rest) (ae F G):=λB O U=>
 (kZ (h1 B O U) (PSs.ex λz:(NR)×Ev=>h2 B z.1 z.2)).imp λEn Y H ⟨E,o,q,k⟩=>by
 obtain⟨o1,q1,q2⟩:=Op q;refine⟨E,o1,q1,?_⟩;cases o1 with
 |nx U'=>exactλY' H' O' s' E'=>⟨⟨O',U'⟩,E',o,q2,k.mono s'⟩
 |rt d=>cases q2;exact k
 |bk U'=>cases q2;exact k
 |ct U'=>cases q2;exact k
theorem yZ:PRs X rest (λ_=>none):=λB O U=>pss_never.imp λEn Y H ⟨E,o,q,k⟩=>by cases q
theorem y4:PR X st (λ_=>none):=λB O U=>ps_never.imp λEn Y H ⟨E,o,q,k⟩=>by cases q
noncomputable def bP (g:NE):Cl:=λU=>(g U).bind λz=>some (.rt z.1)
theorem EnvOk.ret {K} (E:EnvOk K B O Y H U) {i:Nat} (h:U[i]?=some (some s)) (hv:Y[i]?=some (some v)):RetOk K B H s v:=by
 obtain⟨F,h1,h2,h3,h4⟩:=E.fp;obtain⟨v',e,o⟩:=h1 i s h;rw[hv]at e;cases e;exact⟨O,F i,E.same,E.sub,E.lis,h2 i,h4 i,o⟩
theorem y6 (h:PEv X e g):PR X (.Return (some e) pos) (bP g):=λB O U=>(xO (h B O U).1).imp λEn Y H ⟨E,o,q,k⟩=>by
 obtain⟨⟨s,U'⟩,q1,q2⟩:=Op q;cases q2;refine⟨E,s,U',q1,λv H' O' s' E'=>k v H' ?_⟩;have len:Y.length=U'.length:=by have:=E'.len;simp at this;exact this
 exact E'.ret (getElem?_last _ _) (by rw[<-len];exact getElem?_last _ _)
theorem Cw:PR X (.Return none pos) (λ_=>some (.rt (.deep,.non))):=λB O U=>ps_retN.imp λEn Y H ⟨E,o,q,k⟩=>by
 cases q;exact k .non H ⟨O,[],E.same,E.sub,E.lis,List.nodup_nil,λ_ h=>(nomatch h),rfl,rfl⟩
noncomputable def io (U:Ev) (i:Nat):NH:=match U[i]? with
 |some (some s)=>some s
 |_=>none
theorem d6 (h:io U i=some s):U[i]?=some (some s):=by
 unfold io at h;grind
theorem tF (i:Nat) (hN:X.N[i]?=some x) (hv:Vis X.env.scope x) (hd:(!7)=false) (hcd:(!10)=false):PR X (.Return (some (!17)) pos) (λU=>(io U i).bind λs=>some (.rt s)):=λB O U=>(xO (cc hN hv hd hcd)).imp λEn Y H ⟨E,o,q,k⟩=>by
 obtain⟨s,q1,q2⟩:=Op q;cases q2;obtain⟨F,h1,h2,h3,h4⟩:=E.fp;obtain⟨v,e,o⟩:=h1 i s (d6 q1);exact⟨v,e,k v H (E.ret (d6 q1) e)⟩
noncomputable def aw (i:Nat) (g:NE):Cl:=λU=>(g U).bind λz=>some (.nx (z.2.set i (some z.1)))
theorem vb {K} (h:tS K B O U (aw i g U) En Y H):xS (tEv K B O U (g U)) (qD i) En Y H:=by
 obtain⟨E,o,q,k⟩:=h;obtain⟨⟨s,U'⟩,q1,q2⟩:=Op q;cases q2;exact⟨E,s,U',q1,λv H' O' s' E'=>k _ H' O' s' (E'.put i)⟩
theorem Gk (hN:X.N.Nodup) (hi:X.N[i]?=some x) (hx:Loc X.env.scope x) (h:PEv X e g) (hf:X.fn x=true\/X.env.scope.names.lookup x=some .local) (hs:swapsWith e (some (.Name x pos')) pos.line X.env=pure false\/(swapsWith e (some (.Name x pos')) pos.line X.env=pure true/\X.env.scope.names.lookup x=some .local)):PR X (.Assign [.Name x pos'] e pos) (aw i g):=λB O U=>by
 rcases hs with hs|⟨hs,hl⟩
 ·exact(Fp hN hi hx (h B O U).1 hs hf).imp λEn Y H h=>vb h
 ·exact((h B O U).2 i x pos' pos hN hi hl hs).imp λEn Y H h=>vb h
def fB (f:wp):Cl:=λU=>(f (vw U)).bind λ_=>some (.nx U)
theorem Cy (h:PP X e f) (hs:swapsWith e none pos.line X.env=pure false):PR X (.Expr e pos) (fB f):=λB O U=>(eD (h noO (vw U)) hs).imp λEn Y H ⟨E,o,q,k⟩=>by
 obtain⟨d,q1,q2⟩:=Op q;cases q2;exact⟨E.view,d,q1,λv H' s' iv=>k Y H' O s'.msk (E.grow s')⟩
def ifS (fc:Fr) (F G:Cl):Cl:=λU=>(fc (vw U)).bind λc=>if c=true then F U else G U
theorem JR (hc:PQ X c fc) (ha:PRs X a F) (hb:PRs X b G):PR X (.If c a b pos) (ifS fc F G):=λB O U=>(IT (hc noO (vw U)) (ha B O U) (hb B O U)).imp λEn Y H ⟨E,o,q,k⟩=>by
 obtain⟨c,q1,q2⟩:=Op q;refine⟨E.view,c,q1,λH' s'=>?_⟩;cases c with
 |true=>rw[if_pos rfl]at q2;exact FJ ⟨E.grow s',o,q2,k.mono s'.msk⟩
 |false=>rw[if_neg Bool.false_ne_true]at q2;exact FI ⟨E.grow s',o,q2,k.mono s'.msk⟩
end
def tGE (K:Frag) (B:Bs) (O:NR) (U:Ev) (d:D) (o:Option Ev):TG:=λv Y H Q=>EnvOk K B O Y H U/\Is K (msk O H) d v/\∃U',o=some U'/\∀Y',EnvOk K B O Y' H U'->Q Y' H
def PGE (X:Cx) (tg:Expr) (g:D->Ev->Option Ev):Prop:=∀B O U d,PG X tg (tGE X.K B O U d (g d U))
def L6 (K:Frag) (B:Bs) (O:NR) (U:Ev) (ds:NS) (o:Option Ev):TGs:=λvs Y H Q=>EnvOk K B O Y H U/\IsL K (msk O H) ds vs/\∃U',o=some U'/\∀Y',EnvOk K B O Y' H U'->Q Y' H
def wO (X:Cx) (ts:NT) (g:NS->Ev->Option Ev):Prop:=∀B O U ds,PGs X ts (L6 X.K B O U ds (g ds U))
noncomputable def eNm (i:Nat):D->Ev->Option Ev:=λd U=>some (U.set i (some (.sh,d)))
noncomputable def pi:NS->Ev->Option Ev:=λds U=>match ds with|[]=>some U|_=>none
def dF (g:D->Ev->Option Ev) (gs:NS->Ev->Option Ev):NS->Ev->Option Ev:=λds U=>match ds with|d::r=>(g d U).bind λU1=>gs r U1|_=>none
def eTp (n:Nat) (gs:NS->Ev->Option Ev):D->Ev->Option Ev:=λd U=>match d with|.tup ds=>if ds.length=n then gs ds U else none|_=>none
section
variable {X:Cx} {e tg iter:Expr} {pos:Pos}
theorem Cz (hN:X.N.Nodup) (hi:X.N[i]?=some x) (hx:Loc X.env.scope x) (hf:X.fn x=true\/X.env.scope.names.lookup x=some .local):PGE X (.Name x pos) (eNm i):=
 λB O U d=>(uL hN hi hx hf).imp λv Y H Q ⟨E,iv,U',e,k⟩=>by
 cases e
 exact k _ (E.setSh iv)
theorem CA:wO X [] pi:=λB O U ds=>pgs_nil.imp λvs Y H Q ⟨E,il,U',e,k⟩=>by
 cases ds with
 |nil=>cases e;exact⟨il,k Y E⟩
 |cons _ _=>cases e
theorem gse_cons (h1:PGE X e g) (h2:wO X ts gs) (hs:(assignEach (e::ts) X.env).map (·.2)=assign e X.env::(assignEach ts X.env).map (·.2)):wO X (e::ts) (dF g gs):=λB O U ds=>by
 cases ds with
 |nil=>exactλpins s Y H vs us Q I r ⟨_,_,U',e,_⟩=>by cases e
 |cons d r=>
  refine(qE (h1 B O U d) (PGs.ex λz:Ev=>h2 B O z r) hs).imp λvs Y H Q ⟨E,⟨x,xr,z,ix,il⟩,U',e,k⟩=>?_;obtain⟨U1,e1,e2⟩:=Op (e);exact⟨x,xr,z,E,ix,U1,e1,λY1 E1=>⟨U1,E1,il,U',e2,λY2 E2=>k Y2 E2⟩⟩
theorem Gm (hc:X.calm=true) (h:wO X ts gs) (hn:(assignEach ts X.env).length=n) (hst:(assignEach ts X.env).findIdx? (·.1)=none):PGE X (.Tuple ts k pos) (eTp n gs):=λB O U d=>by
 refine(xQ hc (PGs.ex λz:NS=>h B O U z) hn hst).imp λv Y H Q ⟨E,iv,U',e,k⟩=>?_;cases d with
 |tup ds=>
  obtain⟨a,xs,rfl,t,il⟩:=iv;have e':(if ds.length=n then gs ds U else none)=some U':=e;split at e'
  ·exact⟨a,xs,rfl,msk_le.seqT t,by rw[<-il.len];assumption,ds,E,il,U',e',k⟩
  ·cases e'
 |_=>cases e
noncomputable def ip (step:D->Cl):NS->Cl
 |[],U=>some (.nx U)
 |d::ds,U=>(step d U).bind λo=>match o with
  |.nx U'=>ip step ds U'
  |.ct U'=>ip step ds U'
  |.bk U'=>some (.nx U')
  |.rt v=>some (.rt v)
noncomputable def pj (g:D->Ev->Option Ev) (F:Cl):D->Cl:=λd U=>(g d U).bind F
def gP (fi:qm) (g:D->Ev->Option Ev) (F:Cl):Cl:=λU=>(fi (shv U)).bind λds=>ip (pj g F) ds U
def y7 (fi:qm) (g:D->Ev->Option Ev) (F:Cl):Cl:=λU=>(fi (vw U)).bind λds=>ip (pj g F) ds (eI U)
theorem pv {K} (E:EnvOk K B O Y H U) (V:VE K O Y H Uv) (q:(o.bind λds=>ip (pj g F) ds U)=some out) (k:post K B O H En out):
  IW (tJ K O Uv o) (λv Y H Q=>∃z:(NR)×Ev×D,tGE K B z.1 z.2.1 z.2.2 (g z.2.2 z.2.1) v Y H Q) (λEn Y H=>∃z:(NR)×Ev,tS K B z.1 z.2 (F z.2) En Y H) En Y H:=by
 obtain⟨ds,q1,q⟩:=Op q
 refine⟨V,ds,q1,λJ H1 s1 it=>⟨λi m Y' H'=>i<=ds.length/\m=ds.length-i/\∃O' U',Same _ (msk O' H')/\EnvOk K B O' Y' H' U'/\ip _ (ds.drop i) U'=some out,
  ⟨ds.length,Nat.zero_le _,by simp,O,U,Same.refl _,E.grow s1,by simpa using q⟩,?_⟩⟩
 rintro i m Y2 H2 ⟨hi,rfl,O2,U2,s2,E2,e2⟩
 have hit:=it i H2 O2 s2 E2.dom
 by_cases hlt:i<ds.length
 ·refine .inr ?_;have hd:=getElem?_eq_getElem hlt;obtain⟨go,yl⟩:=hit.1 _ hd;refine⟨go,λY' H'=>i+1<=ds.length/\∃O' U',Same _ _/\EnvOk K B O' Y' H' U'/\ip _ _ U'=some out,λY' H' ⟨a,b⟩=>⟨ds.length-(i+1),by omega,a,rfl,b⟩,λx H3 hy=>?_⟩;obtain⟨s3,ix⟩:=yl x H3 hy;rw[List.drop_eq_getElem_cons hlt]at e2;obtain⟨o1,e3,e4⟩:=Op (e2);obtain⟨U3,g3,f3⟩:=Op e3;refine⟨⟨O2,U2,ds[i]⟩,E2.grow s3,ix,U3,g3,λY4 E4=>⟨⟨O2,U3⟩,E4,o1,f3,?_⟩⟩;have s4:=s2.trans s3.msk;cases o1 with
  |nx U5=>exactλY5 H5 O5 s5 E5=>⟨hlt,O5,U5,s4.trans s5,E5,e4⟩
  |ct U5=>exactλY5 H5 O5 s5 E5=>⟨hlt,O5,U5,s4.trans s5,E5,e4⟩
  |bk U5=>
   cases e4;exactλY5 H5 O5 s5 E5=>k Y5 H5 O5 (s1.msk.trans (s4.trans s5)) E5
  |rt d=>
   cases e4;exact k
 ·have hie:i=ds.length:=by omega
  subst hie;rw[List.drop_of_length_le (le_refl _)]at e2;cases e2;exact .inl ⟨hit.2 (Om _),k Y2 H2 O2 (s1.msk.trans s2) E2⟩
theorem Gn (hp:PassesOwn (!3) X.A X.env X.xe) (hc:X.calm=true) (hi:PJ X tg iter fi) (hg:PGE X tg g) (hb:PRs X body F) (hs:∀x,foldedSetIterable iter X.env x=pure x):PR X (.For tg iter body [] pos) (gP fi g F):=λB O U=>
 (sL hp hc (hi O _) (PG.ex λz:(NR)×Ev×D=>hg B z.1 z.2.1 z.2.2) (PSs.ex λz:(NR)×Ev=>hb B z.1 z.2) hs).imp λEn Y H ⟨E,out,q,k⟩=>pv E E.viewS q k
theorem CB (hp:PassesOwn (!3) X.A X.env X.xe) (hc:X.calm=true) (hi:PJ X tg iter fi) (hg:PGE X tg g) (hb:PRs X body F) (hs:∀x,foldedSetIterable iter X.env x=pure x):PR X (.For tg iter body [] pos) (y7 fi g F):=λB O U=>
 (sL hp hc (hi B.O (vw U)) (PG.ex λz:(NR)×Ev×D=>hg B z.1 z.2.1 z.2.2) (PSs.ex λz:(NR)×Ev=>hb B z.1 z.2) hs).imp λEn Y H ⟨E,out,q,k⟩=>pv E.frozen.1 E.viewF q (k.mono E.frozen.2)
theorem nW {st} (h1:PR X st F) (h2:PR X st G):PR X st (orO F G):=λB O U=>(h1 B O U).by2 (h2 B O U) λEn Y H ⟨E,out,q,k⟩=>by
 rcases or_some q with q|q;all_goals grind
end
section
variable {K:Frag} {B:Bs} {O:NR} {Y:St} {H:Hp} {U:Ev}
theorem EnvOk.ownAt (E:EnvOk K B O Y H U) {i:Nat} (h:U[i]?=some (some (c,.lst ds))) (hc:c≠.sh):
  ∃a xs,Y[i]?=some (some (.ref a))/\H a=some (.lst xs)/\ds.length=xs.length/\O a=true/\B.H a=none:=by
 obtain⟨F,h1,h2,h3,h4⟩:=E.fp
 obtain⟨v,e,o⟩:=h1 i _ h
 cases c with
 |sh=>exact absurd rfl hc
 |top=>
  obtain⟨a,ds',xs,z1,z2,z3,z4,l⟩:=o;cases z1;refine⟨a,xs,by rw[e,z2],z4,l.len,?_⟩;exact h4 i a (by rw[z3];exact N5)
 |deep=>
  obtain⟨a,xs,A',z1,z2,z3,l⟩:=o;refine⟨a,xs,by rw[e,z1],z2,DeepL.len l,?_⟩;exact h4 i a (by rw[z3];exact N5)
def lsW (f:{α:Type}->List α->α->List α):Prop:=∀ {K:Frag} {M H:Hp} {ds:NS} {xs:List V} {A A1:List Addr} {d:D} {v:V},DeepL K M H ds xs A->Deep K M H d v A1->(A++A1).Nodup->
 ∃A',DeepL K M H (f ds d) (f xs v) A'/\A'.Nodup/\∀b∈A',b∈A\/b∈A1
def lsI (f:{α:Type}->List α->α->List α):Prop:=∀ {K:Frag} {M:Hp} {ds:NS} {xs:List V} {d:D} {v:V},IsL K M ds xs->Is K M d v->IsL K M (f ds d) (f xs v)
def newCat (c:Cat) (s:Sl):Cat:=if c=.deep/\s.1=.deep then .deep else .top
theorem EnvOk.change (E:EnvOk K B O (Y++[some v]) H (U++[some s])) (f:{α:Type}->List α->α->List α) (hw:lsW f) (hi:lsI f) {i:Nat} (h:U[i]?=some (some (c,.lst ds))) (hc:c≠.sh):
  ∃a xs,Y[i]?=some (some (.ref a))/\H a=some (.lst xs)/\ds.length=xs.length/\∃O',EnvOk K B O' Y (upd H a (.lst (f xs v))) (U.set i (some (newCat c s,.lst (f ds s.2))))/\Same (msk O H) (msk O' (upd H a (.lst (f xs v)))):=by
 obtain⟨F,h1,h2,h3,h4⟩:=E.fp
 have len:Y.length=U.length:=by have:=E.len;simp at this;exact this
 have hil:=(N4.mp h).1
 have hin:i≠U.length:=by omega
 obtain⟨v',e1,o1⟩:=h1 U.length s (getElem?_last _ _)
 rw[<-len,getElem?_last]at e1
 cases e1
 obtain⟨v0,e0,o0⟩:=h1 i _ (by rw[getElem?_append_left hil];exact h)
 have e0':Y[i]?=some _:=ck (!1) e0
 -- the list's place
 have at_:∃a xs A',v0=.ref a/\H a=some (.lst xs)/\F i=a::A'/\ds.length=xs.length/\(c=.deep->DeepL K (msk O H) H ds xs A')/\(∀O',Same (msk O H) (msk O' H)->(∀b∈A',O' b=false)->IsL K (msk O' H) ds xs):=by
  cases c with
  |sh=>exact absurd rfl hc
  |top=>
   obtain⟨a,ds',xs,z1,z2,z3,z4,l⟩:=o0;cases z1;exact⟨a,xs,[],z2,z4,z3,l.len,(λz=>by cases z),λO' le _=>IsL.mono le _ _ l⟩
  |deep=>
   obtain⟨a,xs,A',z1,z2,z3,l⟩:=o0;exact⟨a,xs,A',z1,z2,z3,DeepL.len l,λ_=>l,λO' le hA=>DeepL.is (NL.of le) ds xs A' (λb hb o q=>by rw[aE (hA b hb)];exact q) l⟩
 obtain⟨a,xs,A',rfl,ha,hF,hl,hdeep,htop⟩:=at_
 have haF:a∈F i:=by rw[hF];exact N5
 obtain⟨haO,haB⟩:=h4 i a haF
 have nd:=h2 i
 rw[hF]at nd
 have haA':=(List.nodup_cons.mp nd).1
 have hA'F:∀b∈A',b∈F i:=λb hb=>by rw[hF];exact N6 _ hb
 have han:a ∉ F U.length:=λz=>hin (h3 _ _ a haF z)
 refine⟨a,xs,e0',ha,hl,?_⟩
 -- the rest of the frame
 have oth:∀ {O':NR} {H':Hp},Same (msk O H) (msk O' H')->(∀b,b≠a->H' b=H b)->∀j x,j≠i->U[j]?=some (some x)->∃w,Y[j]?=some _/\OwnC K O' H' x.1 x.2 w (F j):=λ{O' H'} le hh j x hj hx=>by
  have hjl:=(N4.mp hx).1;obtain⟨w,e2,o2⟩:=h1 j x (by rw[getElem?_append_left hjl];exact hx);refine⟨w,ck (!1) e2,o2.frame le λb hb o q=>?_⟩;have hba:b≠a:=λz=>hj (h3 j i a (z▸hb) haF);rw[hh b hba];exact q
 by_cases hd:c=.deep/\s.1=.deep
 ·obtain⟨rfl,hs⟩:=hd;obtain⟨sc,sd⟩:=s;cases(hs);have o1':=o1;have ndT:=List.nodup_append.mpr ⟨(List.nodup_cons.mp nd).2,h2 _,λx hx y hy z=>by
   subst z;exact hin (h3 i U.length x (hA'F x hx) hy)⟩
  obtain⟨A2,l2,n2,sub2⟩:=hw (hdeep rfl) o1' ndT;have haA2:a ∉ A2:=λz=>by
   rcases sub2 a z with z|z
   ·exact haA' z
   ·exact han z
  have me:msk O (upd H a (.lst (f xs v)))=msk O H:=ie haO;have le:Same (msk O H) (msk O (upd H a (.lst (f xs v)))):=by rw[me];exact Same.refl _
  refine⟨O,⟨λb o z=>?_,E.bdom,E.sub,λb hb=>?_,by simpa using len,λj=>if j=i then a::A2 else if j=U.length then[]else F j,λj x q=>?_,λj=>?_,λj k b hj hk=>?_,λj b hj=>?_⟩,le⟩
  ·rw[ag (au z haB)];exact E.same b o z
  ·by_cases hba:b=a
   ·subst hba;exact .inl ⟨_,ai⟩
   ·rw[ag hba];exact E.lis b hb
  ·rcases get_set_some q with⟨e,q'⟩|⟨e,q'⟩
   ·cases q';subst e;refine⟨.ref a,e0',?_⟩;simp only[if_true];refine⟨a,f xs v,A2,rfl,ai,rfl,DeepL.frame (NL.of le) _ _ A2 (λb hb o q=>?_) l2⟩;have hba:b≠a:=λz=>haA2 (by rw[<-z];exact hb);rw[ag hba];exact q
   ·have hj:j≠U.length:=by have:=(N4.mp q').1;omega
    obtain⟨w,e2,o2⟩:=oth le (λb hb=>ag hb) j x e q';exact⟨w,e2,by simp only[if_neg e,if_neg hj];exact o2⟩
  ·dsimp only;split
   ·exact List.nodup_cons.mpr ⟨haA2,n2⟩
   ·split
    ·exact List.nodup_nil
    ·exact h2 _
  ·have key:∀j b,b∈(if j=i then a::A2 else if j=U.length then[]else F j)->(j=i/\(b∈F i\/b∈F U.length))\/(j≠i/\j≠U.length/\b∈F j):=λj b hb=>by
    by_cases e:j=i
    ·rw[if_pos e]at hb;refine .inl ⟨e,?_⟩;rcases mem_cons.mp hb with rfl|hb
     ·exact .inl haF
     ·rcases sub2 b hb with z|z
      ·exact .inl (hA'F b z)
      ·exact .inr z
    ·rw[if_neg e]at hb;by_cases e2:j=U.length
     ·rw[if_pos e2]at hb;cases hb
     ·rw[if_neg e2]at hb;exact .inr ⟨e,e2,hb⟩
   rcases key j b hj with⟨p1,p2⟩|⟨p1,p2,p3⟩<;>rcases key k b hk with⟨q1,q2⟩|⟨q1,q2,q3⟩
   ·omega
   ·rcases p2 with p2|p2
    ·exact absurd (h3 _ _ b p2 q3) (!1)
    ·exact absurd (h3 _ _ b p2 q3) (!1)
   ·rcases q2 with q2|q2
    ·exact absurd (h3 _ _ b p3 q2) (!1)
    ·exact absurd (h3 _ _ b p3 q2) (!1)
   ·exact h3 _ _ b p3 q3
  ·dsimp only at hj;split at hj
   ·rcases mem_cons.mp hj with rfl|hj
    ·exact⟨haO,haB⟩
    ·rcases sub2 b hj with z|z
     ·exact h4 i b (hA'F b z)
     ·exact h4 _ b z
   ·split at hj
    ·cases hj
    ·exact h4 _ b hj
 ·have nc:newCat c s=.top:=by unfold newCat;rw[if_neg hd]
  rw[nc];let O':NR:=λb=>O b&&!decide (b∈A')&&!decide (b∈F U.length);have hO'a:O' a=true:=by simp[O',haO,haA',han]
  have hsub:∀b,O' b=true->O b=true:=λb hb=>by simp[O']at hb;exact hb.1.1
  have hno:∀b∈A',O' b=false:=λb hb=>by simp[O',hb]
  have hno2:∀b∈F U.length,O' b=false:=λb hb=>by simp[O',hb]
  have le0:Same (msk O H) (msk O' H):=λb o q=>by
   obtain⟨q1,q2⟩:=aJ q;rw[aE (by simp[O',q1])];exact q2
  have me:msk O' (upd H a (.lst (f xs v)))=msk O' H:=ie hO'a;have le:Same (msk O H) (msk O' (upd H a (.lst (f xs v)))):=by rw[me];exact le0
  have l3:IsL K (msk O' (upd H a (.lst (f xs v)))) (f ds s.2) (f xs v):=by
   rw[me];exact hi (htop O' le0 hno) (o1.is le0 hno2)
  refine⟨O',⟨λb o z=>?_,E.bdom,λb hb=>?_,λb hb=>?_,by simpa using len,λj=>if j=i then[a]else if j=U.length then[]else F j,λj x q=>?_,λj=>?_,λj k b hj hk=>?_,λj b hj=>?_⟩,le⟩
  ·rw[ag (au z haB)];exact E.same b o z
  ·have h5:b ∉ A':=λz=>E.bdom b hb (h4 i b (hA'F b z)).2;have h6:b ∉ F U.length:=λz=>E.bdom b hb (h4 _ b z).2;simp[O',E.sub b hb,h5,h6]
  ·by_cases hba:b=a
   ·subst hba;exact .inl ⟨_,ai⟩
   ·rw[ag hba];exact E.lis b (hsub b hb)
  ·rcases get_set_some q with⟨e,q'⟩|⟨e,q'⟩
   ·cases q';subst e;refine⟨.ref a,e0',?_⟩;simp only[if_true];exact⟨a,f ds s.2,f xs v,rfl,rfl,rfl,ai,l3⟩
   ·have hj:j≠U.length:=by have:=(N4.mp q').1;omega
    obtain⟨w,e2,o2⟩:=oth le (λb hb=>ag hb) j x e q';exact⟨w,e2,by simp only[if_neg e,if_neg hj];exact o2⟩
  ·dsimp only;split
   ·simp
   ·split
    ·exact List.nodup_nil
    ·exact h2 _
  ·dsimp only at hj hk;split at hj
   ·split at hk
    ·omega
    ·split at hk
     ·cases hk
     ·rw[mem_singleton.mp hj]at hk;exact absurd (h3 _ _ a haF hk) (!1)
   ·split at hj
    ·cases hj
    ·split at hk
     ·rw[mem_singleton.mp hk]at hj;exact absurd (h3 _ _ a hj haF) (!1)
     ·split at hk
      ·cases hk
      ·exact h3 _ _ b hj hk
  ·dsimp only at hj;split at hj
   ·rw[mem_singleton.mp hj];exact⟨hO'a,haB⟩
   ·rename_i hji;split at hj
    ·cases hj
    ·rename_i hjn;refine⟨?_,(h4 _ b hj).2⟩;have h5:b ∉ A':=λz=>hji (h3 _ _ b hj (hA'F b z));have h6:b ∉ F U.length:=λz=>hjn (h3 _ _ b hj z);simp[O',(h4 _ b hj).1,h5,h6]
end
section
variable {X:Cx} {e tg:Expr} {pos:Pos}
end
noncomputable def fC {α:Type} (l:List α) (x:α):List α:=l++[x]
theorem y8:lsW fC:=λh q nd=>⟨_,DeepL.snoc q h,nd,λb hb=>mem_append.mp hb⟩
theorem y9:lsI fC:=λh q=>h.app ⟨_,[],rfl,q,rfl⟩
theorem DeepL.setAt {K} (h:Deep K M H d v A1):∀ {ds:NS} {xs:List V} {A:List Addr} (j:Nat),DeepL K M H ds xs A->(A++A1).Nodup->
  ∃A',DeepL K M H (ds.set j d) (xs.set j v) A'/\A'.Nodup/\∀b∈A',b∈A\/b∈A1
 |[],_,_,_,l,nd=>by
  obtain⟨rfl,rfl⟩:=l;exact⟨[],⟨rfl,rfl⟩,List.nodup_nil,λ_ hb=>(nomatch hb)⟩
 |c::ds,_,_,0,⟨x,r,A0,A2,e,z,q,l⟩,nd=>by
  subst e;subst z;rw[List.append_assoc]at nd;obtain⟨n1,n2,n3⟩:=List.nodup_append.mp nd;obtain⟨m1,m2,m3⟩:=List.nodup_append.mp n2;refine⟨A1++A2,⟨v,r,A1,A2,rfl,rfl,h,l⟩,List.nodup_append.mpr ⟨m2,m1,λa ha b hb z=>m3 b hb a ha z.symm⟩,λb hb=>?_⟩;rcases mem_append.mp hb with hb|hb
  ·exact .inr hb
  ·exact .inl (Og _ hb)
 |c::ds,_,_,j+1,⟨x,r,A0,A2,e,z,q,l⟩,nd=>by
  subst e;subst z;rw[List.append_assoc]at nd;obtain⟨n1,n2,n3⟩:=List.nodup_append.mp nd;obtain⟨A',l',nd',sub⟩:=DeepL.setAt h j l n2;refine⟨A0++A',⟨x,r.set j v,A0,A',rfl,rfl,q,l'⟩,List.nodup_append.mpr ⟨n1,nd',λa ha b hb z=>?_⟩,λb hb=>?_⟩
  ·rcases sub b hb with hb|hb
   ·exact n3 a ha b (Of _ hb) z
   ·exact n3 a ha b (Og _ hb) z
  ·rcases mem_append.mp hb with hb|hb
   ·exact .inl (Of _ hb)
   ·rcases sub b hb with hb|hb
    ·exact .inl (Og _ hb)
    ·exact .inr hb
noncomputable def Go (j:Nat) {α:Type} (l:List α) (x:α):List α:=l.set j x
theorem JS (j:Nat):lsW (Go j):=λh q nd=>DeepL.setAt q j h nd
theorem i_set (j:Nat):lsI (Go j):=λh q=>.of (lE q j h.paired)
section
variable {X:Cx} {e:Expr} {pos:Pos}
def ownL (U:Ev) (i:Nat):Option (Cat×List D):=(io U i).bind λs=>match s with
 |(.sh,_)=>none
 |(c,.lst ds)=>some (c,ds)
 |_=>none
theorem bN (h:ownL U i=some (c,ds)):U[i]?=some (some (c,.lst ds))/\c≠.sh:=by
 obtain⟨⟨c',d⟩,e,q⟩:=Op h;have e':=d6 e;grind
def gi (i:Nat) (g:NE):Cl:=λU=>(ownL U i).bind λ_=>(g U).bind λz=>(ownL z.2 i).bind λw=>if w.2.length+1<big then some (.nx (z.2.set i (some (newCat w.1 z.1,.lst (w.2++[z.1.2])))))else none
theorem je (i:Nat) (h:PEv X e g) (hN:X.N[i]?=some x) (hv:Vis X.env.scope x) (hd:(!7)=false) (hcd:(!10)=false) (hst:starEach [e] X.env=(false,eval e X.env)::starEach [] X.env) (hline:(!25)=true):PR X (.Expr (.Call (.Attribute (!17) "append" apos) [e] [] cpos) pos) (gi i g):=λB O U=>
 (eD (qI PySem.F.plainAttrs_list PySem.F.slot_list_append PySem.F.type_list_append nO (cc hN hv hd hcd) (dE (h B O U).1 pa_nil hst) rfl (by rw[hst];rfl) hline hst rfl)).imp λEn Y H ⟨E,o,q,k⟩=>by
 obtain⟨⟨c0,ds0⟩,q1,q⟩:=Op q;obtain⟨⟨s,U'⟩,q2,q⟩:=Op q;obtain⟨⟨c,ds⟩,q3,q⟩:=Op q;obtain⟨hz,q⟩:=az q;subst q;obtain⟨h0,hc0⟩:=bN q1;obtain⟨h1,hc1⟩:=bN q3;obtain⟨a,xs0,e1,r3,_⟩:=E.ownAt h0 hc0;refine⟨.ref a,e1,.inl ⟨rfl,_,SqL.of r3⟩,E,s,U',q2,λv H1 O1 s1 E1=>?_⟩;obtain⟨a',xs,e2,r4,hl,O2,E2,s2⟩:=E1.change fC y8 y9 h1 hc1;rw[e1]at e2;cases e2;exact⟨a,xs,v,rfl,rfl,r4,by rw[gN,<-hl];exact Nat.lt_of_succ_lt hz,k Y _ O2 (!28) E2⟩
def lM (i:Nat) (fk:wp) (g:NE):Cl:=λU=>(g U).bind λz=>(ownL z.2 i).bind λw=>(fk (vw z.2)).bind λy=>match y with
 |.int k=>(ixN w.2.length k).bind λj=>some (.nx (z.2.set i (some (newCat w.1 z.1,.lst (w.2.set j z.1.2)))))
 |_=>none
theorem Gp (i:Nat) (h:PEv X e g) (hk:PP X ik fk) (hN:X.N[i]?=some x) (hv:Vis X.env.scope x) (hd:(!7)=false) (hcd:(!10)=false) (ha:∀v,assign (.Subscript (!17) ik spos) X.env v=(do
   let ov<-holding [v] (eval (!17) X.env)
   let iv<-holding [v,ov] (eval ik X.env)
   standAt spos
   holding [v,ov,iv] (setItem ov iv v)
   release [v,ov,iv] [])) (hs:swapsWithSole [.Subscript (!17) ik spos] e pos.line X.env=pure false) (hw:swappedStores [.Subscript (!17) ik spos] e X.env=pure none) (h1:(assignEach [.Subscript (!17) ik spos] X.env).map (·.2)=[assign (.Subscript (!17) ik spos) X.env]):PR X (.Assign [.Subscript (!17) ik spos] e pos) (lM i fk g):=λB O U=>
 (xU (h B O U).1 (xR (cc hN hv hd hcd) (PE.ex λz:Vv=>hk noO z) yn ha) hs hw h1).imp λEn Y H ⟨E,o,q,k⟩=>by
 obtain⟨⟨s,U'⟩,q1,q⟩:=Op q
 obtain⟨⟨c,ds⟩,q2,q⟩:=Op q
 obtain⟨y,q3,q⟩:=Op q
 obtain⟨h0,hc0⟩:=bN q2
 refine⟨E,s,U',q1,λv H1 O1 s1 E1=>?_⟩
 obtain⟨a,xs0,e1,_⟩:=E1.drop.ownAt h0 hc0
 refine⟨.ref a,e1,vw U',E1.drop.view,y,q3,λyv H2 s2 iy=>?_⟩
 cases y with
 |int n=>
  obtain⟨j,j1,q⟩:=Op q;cases q;cases(iy);obtain⟨a',xs,e2,r4,hl,O2,E2,s3⟩:=(E1.grow s2).change (Go j) (JS j) (i_set j) h0 hc0;rw[e1]at e2;cases e2;exact⟨a,xs,n,j,rfl,rfl,r4,by rw[<-hl];exact j1,k Y _ O2 (s1.trans (s2.msk.trans s3)) E2⟩
 |_=>cases q
end
def spC (K:Frag) (f:ad):Sp:=λvs H Q _=>∃O ds s,(∀b,O b=true->Hid (H b))/\IsL K (msk O H) ds vs/\f ds=some s/\∀v H',RetOk K ⟨H,O⟩ H' s v->Q v H'
noncomputable def ax (n:Nat) (ds:NS):Ev:=ds.map (λd=>some (.sh,d))++List.replicate (n-ds.length) none
noncomputable def JT (o:Option Out):NH:=o.bind λo=>match o with
 |.rt d=>some d
 |.nx _=>some (.deep,.non)
 |_=>none
def aL (n m:Nat) (F:Cl) (ds:NS):NH:=if ds.length=n then JT (F (ax m ds))else none
theorem nX (h:aL n m F ds=some d):ds.length=n/\JT (F (ax m ds))=some d:=by
 unfold aL at h;grind
section
variable {P:Program} {w:World} {K:Frag} {mg:Str->NM} {base:Heap}
theorem tH {i:Nat} (q:(ax n ds)[i]?=some (some s)):∃d,ds[i]?=some d/\s=(.sh,d):=by
 unfold ax at q;grind
theorem qS {O:NR} {H:Hp} {N:NP} {vs:List V} {ds:NS} (hd:∀b,O b=true->Hid (H b)) (il:IsL K (msk O H) ds vs):EnvOk K ⟨H,O⟩ O (gr N vs) H (ax N.length ds) where
 same:=Same.refl _
 bdom:=λb h=>(hd b h).ne
 sub:=λ_ h=>h
 lis:=hd
 len:=by
  unfold gr ax;rw[length_append,length_append,length_map,length_map,List.length_replicate,List.length_replicate,il.len]
 fp:=by
  refine⟨λ_=>[],λi s q=>?_,λ_=>List.nodup_nil,λ_ _ _ h=>(nomatch h),λ_ _ h=>(nomatch h)⟩;obtain⟨d,e,rfl⟩:=tH q;obtain⟨x,hx,ix⟩:=il.get e;refine⟨x,?_,rfl,ix⟩;have hi:=(N4.mp hx).1;unfold gr;rw[getElem?_append_left (by rw[length_map];exact hi),getElem?_map,hx];rfl
theorem Gq {st} (Fn:Fun K x qual st f fd) (S:FnScope N ps (am st)) (hb:∀ (cdv:Value) (A:Around) (outer:List Env) (s:Shared) (H:Hp) (E:XK),Room k (A.deeper (envOfC qual (am st) s.heap.objs.size f cdv))->PRs (oJ CX0 P w K mg base N qual (am st) f cdv A outer s H E).nox (aN st) F):
  FnOk P w K mg base CX0 (k+1) f fd ps (spC K (aL ps.length N.length F)):=by
 refine Fn.ok S (λvs H Q E ⟨O,ds,d,_,il,e,_⟩=>by rw[<-il.len];exact(nX e).1) (λcdv A outer s H vs Q E hr ⟨O,ds,d,hd,il,e,kk⟩=>?_)
 refine⟨_,hb cdv A outer s H E hr ⟨H,O⟩ O _,qS hd il,?_⟩
 obtain⟨o,e1,e2⟩:=Op (nX e).2
 refine⟨o,e1,?_⟩
 cases o with
 |rt d'=>cases e2;exact kk
 |nx U=>cases e2;exactλY' H' O' s' E'=>kk .non H' ⟨O',[],E'.same,E'.sub,E'.lis,List.nodup_nil,λ_ h=>(nomatch h),rfl,rfl⟩
 |bk U=>cases e2
 |ct U=>cases e2
structure Df (P:Program) (w:World) (K:Frag) (mg:Str->NM) (base:Heap) (x:Str) (k:Nat) (f:ad):Prop where
 ex:∃ (a:Addr) (fd:FuncData) (ps:NP),mg x=some (.ref a)/\PySem.W.keepIn K (.ref a)=true/\Binds K fd ps []/\FnOk P w K mg base CX0 k a fd ps (spC K f)
theorem RetOk.is (hd:∀b,O b=true->Hid (H b)) (r:RetOk K ⟨H,O⟩ H' s v):Same H H'/\Is K (msk O H') s.2 v:=by
 obtain⟨O',A,h1,h2,h3,h4,h5,h6⟩:=r;refine⟨h1,h6.is (λb o q=>?_) λa ha=>?_⟩
 ·obtain⟨q1,q2⟩:=aJ q;rw[aE];exact q2;cases z:O b with
  |false=>rfl
  |true=>rw[h2 b z]at q1;cases q1
 ·cases z:O a with
  |false=>rfl
  |true=>exact absurd (h5 a ha).2 (hd a z).ne
end
section
variable {X:Cx} {x:Str} {p pos apos:Pos} {e o:Expr} {es:NT} {k:Nat} {f:ad} {fa:qm}
noncomputable def fD (o:NH):NU:=o.bind λs=>some s.2
noncomputable def qT (o:NH):NU:=o.bind λs=>match s with
 |(.deep,d)=>some d
 |_=>none
theorem CC (F:Df X.prog X.w X.K X.mg X.base x k f) (hr:Room k X.A) (hg:Gl X x) (ha:PX X (e::es) fa) (hdb:(!7)=false) (he:starEach (e::es) X.env=(false,eval e X.env)::starEach es X.env) (hpl:(!14).any (·.1)=false):
  PP X (.Call (.Name x p) (e::es) [] pos) (λU=>(fa U).bind λds=>fD (f ds)):=λO U=>by
 obtain⟨a,fd,ps,hm,hk,hb,G⟩:=F.ex
 refine(uQ G hr hg hm hk hb .nil uT (ha O U) hdb he hpl).imp λY H Q ⟨E,d,q,kk⟩=>?_
 obtain⟨ds,q1,q2⟩:=Op q
 obtain⟨s,q3,q4⟩:=Op q2
 cases q4
 refine⟨E,ds,q1,λvs H1 s1 il=>?_⟩
 show spC X.K f (vs++[]) H1 Q E0
 rw[List.append_nil]
 refine⟨O,ds,s,(E.grow s1).lis,il,q3,λv H2 r=>?_⟩
 obtain⟨s2,iv⟩:=r.is (E.grow s1).lis
 exact kk v H2 (!28) iv
theorem CD (F:Df X.prog X.w X.K X.mg X.base x k f) (hr:Room k X.A) (hg:Gl X x) (ha:PX X (e::es) fa) (hdb:(!7)=false) (he:starEach (e::es) X.env=(false,eval e X.env)::starEach es X.env) (hpl:(!14).any (·.1)=false):
  PFr X (.Call (.Name x p) (e::es) [] pos) (λU=>(fa U).bind λds=>qT (f ds)):=λU=>by
 obtain⟨a,fd,ps,hm,hk,hb,G⟩:=F.ex
 refine PE.pu ((uQ G hr hg hm hk hb .nil uT (ha noO U) hdb he hpl).imp λY H Q ⟨E,d,q,kk⟩=>?_) rfl
 obtain⟨ds,q1,q2⟩:=Op q
 obtain⟨⟨c,d'⟩,q3,q4⟩:=Op q2
 cases c with
 |sh=>cases q4
 |top=>cases q4
 |deep=>
  cases q4;refine⟨E,ds,q1,λvs H1 s1 il=>?_⟩;show spC X.K f (vs++[]) H1 Q E0;rw[List.append_nil];refine⟨noO,ds,_,(E.grow s1).lis,il,q3,λv H2 r=>?_⟩;obtain⟨O',A,h1,h2,h3,h4,h5,h6⟩:=r;exact kk v H2 A (s1.trans h1) (Deep.frame (NL.of msk_le) _ v A (λ_ _ _ h=>h) h6) h4 λa ha=>s1.free (h5 a ha).2
end
noncomputable def pz:NP->Str->Option Nat
 |[],_=>none
 |y::r,x=>if y=x then some 0 else(pz r x).map (·+1)
theorem d7:∀ {l:NP} {x:Str} {i:Nat},pz l x=some i->l[i]?=some x
 |[],_,_,h=>by cases h
 |y::r,x,i,h=>by
  unfold pz at h;split at h
  ·rename_i e;cases h;simp[e]
  ·cases e:pz r x with
   |none=>rw[e]at h;cases h
   |some j=>
    rw[e]at h;cases h;have:=d7 e;simpa using this
structure Glob where
 fn:Str->Option (Nat×(ad))
 cn:Str->NU
 no:Str->Bool
 fl:Str->Str->Bool
structure SE where
 N:NP
 nm:List (Str×NameKind)
 k:Nat
 G:Glob
structure GOk (P:Program) (w:World) (K:Frag) (mg:Str->NM) (base:Heap) (G:Glob):Prop where
 fn:∀x k f,G.fn x=some (k,f)->Df P w K mg base x k f
 cn:∀x d,G.cn x=some d->Cn K mg x d
 no:∀x,G.no x=true->mg x=none
 fl:∀C m Ca,G.fl C m=true->nsIn K mainGlobals C=some (!24)->Cls K Ca/\NoAttr K Ca m
structure SOk (X:Cx) (S:SE):Prop where
 g:GOk X.prog X.w X.K X.mg X.base S.G
 N:X.N=S.N
 nd:S.N.Nodup
 calm:X.calm=true
 room:Room S.k X.A
 loc:∀x,S.nm.lookup x=some .local->X.env.scope.names.lookup x=some .local
 cel:∀x,S.nm.lookup x=some .cell->X.env.scope.names.lookup x=some .cell
 fre:∀x,S.nm.lookup x=some .free->X.env.scope.names.lookup x=some .cell\/X.env.scope.names.lookup x=some .free
 glo:∀x,S.nm.lookup x=some .globalImplicit->X.env.kindOf x=some .globalImplicit
noncomputable def dM (x:Str):Bool:=!(!7)&&!(!10)&&!decide (x=("__name__":Str))
noncomputable def vc:Option NameKind->Bool
 |some .local=>true
 |some .cell=>true
 |some .free=>true
 |_=>false
def slot (S:SE) (x:Str):Option Nat:=if dM x&&vc (S.nm.lookup x)then pz S.N x else none
noncomputable def pC (x:Str):Option String:=if x=("int":Str)then some "int"else if x=("bool":Str)then some "bool"else if x=("str":Str)then some "str"else if x=("list":Str)then some "list"else if x=("tuple":Str)then some "tuple"else if x=("dict":Str)then some "dict"else none
theorem tI (h:pC x=some n):bootBuiltins x=some (.type n):=by
 unfold pC at h;split at h
 ·rename_i e;cases h;subst e;decide+kernel
 ·split at h
  ·rename_i e;cases h;subst e;decide+kernel
  ·split at h
   ·rename_i e;cases h;subst e;decide+kernel
   ·split at h
    ·rename_i e;cases h;subst e;decide+kernel
    ·split at h
     ·rename_i e;cases h;subst e;decide+kernel
     ·split at h
      ·rename_i e;cases h;subst e;decide+kernel
      ·cases h
section
variable {X:Cx} {S:SE} {pos:Pos}
theorem c7 (h:dM x=true):(!7)=false/\(!10)=false/\x≠("__name__":Str):=by
 unfold dM at h;rw[and_eq_true,and_eq_true]at h;refine⟨by simpa using h.1.1,by simpa using h.1.2,?_⟩;have:=h.2;simp at this;exact this
end
section
variable {X:Cx} {e o:Expr} {es:NT} {p pos apos:Pos}
def ki (fl:Str->Str->Bool) (m:Str):D->NU
 |.obj C ns ds=>if fl C m then(ns.zip ds).lookup m else none
 |_=>none
theorem lN {K}:∀ {fs:List (Str×V)} {ds:NS},IsL K H ds (fs.map (·.2))->((fs.map (·.1)).zip ds).lookup f=some d->∃v,fs.lookup f=some v/\Is K H d v
 |[],ds,_,e=>by simp at e
 |(n,v)::fs,[],l,e=>by simp at e
 |(n,v)::fs,d'::ds,⟨x,r,z,h,l⟩,e=>by
  have z':v::fs.map (·.2)=x::r:=z;cases z';simp only[List.map_cons,List.zip_cons_cons,List.lookup_cons]at e⊢;cases hf:f==n with
  |true=>rw[hf]at e;cases e;exact⟨v,rfl,h⟩
  |false=>rw[hf]at e;exact lN l e
theorem Gs (ho:PP X o fo) (hfl:∀C Ca,fl C m=true->nsIn X.K mainGlobals C=some (!24)->Cls X.K Ca/\NoAttr X.K Ca m) (hbase:attributeBase o m X.env (eval o X.env)=eval o X.env):PP X (.Attribute o m pos) (λU=>(fo U).bind (ki fl m)):=λO U=>by
 refine(FC (ho O U) hbase).imp λY H Q ⟨E,d,q,k⟩=>?_;obtain⟨dv,q1,q⟩:=Op q;refine⟨E,dv,q1,λv H1 s1 iv=>?_⟩;cases dv with
 |obj C ns ds=>
  have q':(if fl C m=true then(ns.zip ds).lookup m else none)=some d:=q;split at q'
  ·rename_i hC;obtain⟨a,Ca,dx,fs,rfl,h0,h1,h2,h3⟩:=iv;subst h2;obtain⟨v',e1,e2⟩:=lN h3 q';obtain⟨c,na⟩:=hfl C Ca hC h0;exact⟨a,Ca,dx,fs,v',rfl,msk_le _ _ h1,c,na,e1,k v' H1 s1 e2⟩
  ·cases q'
 |_=>cases q
structure Mf (P:Program) (w:World) (K:Frag) (mg:Str->NM) (base:Heap) (C m:Str) (k:Nat) (f:ad):Prop where
 ex:∃ (Ca fa:Addr) (fd:FuncData) (ps:NP),nsIn K mainGlobals C=some (!24)/\Cls K Ca/\Meth K Ca m fa/\Binds K fd ps []/\FnOk P w K mg base CX0 k fa fd ps (spC K f)
abbrev MT:=Str->Option (Nat×(ad))
def nY (mt:MT) (k0:Nat) (m:Str) (d:D) (as:NS):NH:=match d with
 |.obj C ns _=>(mt C).bind λz=>if z.1<=k0/\m ∉ ns then z.2 (d::as)else none
 |_=>none
theorem tK {mt} (h:nY mt k0 m d as=some s):∃C ns ds k f,d=.obj C ns ds/\mt C=some (k,f)/\k<=k0/\m ∉ ns/\f (d::as)=some s:=by
 cases d with
 |obj C ns ds=>
  obtain⟨⟨k,f⟩,e,q⟩:=Op (h);split at q
  ·rename_i c;exact⟨C,ns,ds,k,f,rfl,e,c.1,c.2,q⟩
  ·cases q
 |_=>cases h
structure Pick (X:Cx) (mt:MT) (k0:Nat) (m:Str) where
 C:Str
 Ca:Addr
 fa:Addr
 fd:FuncData
 ps:NP
 k:Nat
 f:ad
 h:mt C=some (k,f)/\k<=k0/\nsIn X.K mainGlobals C=some (!24)/\Cls X.K Ca/\Meth X.K Ca m fa/\Binds X.K fd ps []/\FnOk X.prog X.w X.K X.mg X.base CX0 k fa fd ps (spC X.K f)
theorem CF {mt} (hmt:∀C k f,mt C=some (k,f)->Mf X.prog X.w X.K X.mg X.base C m k f) (h:mt C=some (k,f)) (hk:k<=k0):∃z:Pick X mt k0 m,z.C=C/\z.k=k/\z.f=f:=by
 obtain⟨Ca,fa,fd,ps,h1,h2,h3,h4,h5⟩:=(hmt C k f h).ex;exact⟨⟨C,Ca,fa,fd,ps,k,f,h,hk,h1,h2,h3,h4,h5⟩,rfl,rfl,rfl⟩
def qU (fo:wp) (fa:qm) (mt:MT) (k0:Nat) (m:Str):Vv->NH:=λU=>(fo U).bind λd=>(fa U).bind λas=>nY mt k0 m d as
theorem Gu {K} (h:Is K H (.obj C ns ds) v) (hc:nsIn K mainGlobals C=some (!24)) (hn:m ∉ ns):∃a dx fs,v=.ref a/\H a=some (.ins Ca dx fs)/\fs.lookup m=none:=by
 obtain⟨a,Cb,dx,fs,rfl,h0,h1,h2,h3⟩:=h;grind
theorem wP (hfew:methodCallForm args.length (backTo pos (starEach args env)) (backToKw pos (keywordEach [] env)) = true) (hline:(apos.endLine == pos.line) = true) :
  eval (.Call (.Attribute (!17) m apos) args [] pos) env = (do
   let ov <- eval (!17) env
   standAt apos.atName
   let (f,first) <- holding [ov] (getMethod ov m (do return (<- importBound (!17) env).getD true))
   callWith pos f first (backTo pos (starEach args env)) (backToKw pos (keywordEach [] env))):=by
 show (do
  let ov <- eval _ env
  standAt apos.atName
  methodCall _ m apos pos env ov (args.length + 0) (backTo pos _) (backToKw pos _)) = _
 have hm:∀ ov,methodCall (!17) m apos pos env ov (args.length + 0) (backTo pos (starEach args env)) (backToKw pos (keywordEach [] env)) = (do
   let (f,first) <- holding [ov] (getMethod ov m (do return (<- importBound (!17) env).getD true))
   callWith pos f first (backTo pos (starEach args env)) (backToKw pos (keywordEach [] env))):=fun ov=>by
  unfold methodCall
  rw [Nat.add_zero,hfew]
  simp only [calleeOf,methodCallPos,hline,Bool.not_true,Bool.false_or,if_true,pure_bind]
 simp only [hm]
theorem wQ {mt} (ho:PP X (!17) fo) (hmt:∀C k f,mt C=some (k,f)->Mf X.prog X.w X.K X.mg X.base C m k f) (hr:Room k0 X.A) (hline:(apos.endLine==pos.line)=true) (O:NR) (U:Vv):
  PE X (.Call (.Attribute (!17) m apos) [] [] pos) (λY H Q=>VE X.K O Y H U/\∃s,qU fo (λ_=>some []) mt k0 m U=some s/\∀v H1 H',Same H H1->RetOk X.K ⟨H1,O⟩ H' s v->Q v H'):=by
 refine(PE.ex λz:Pick X mt k0 m=>yg (ho O U) z.h.2.2.2.1 z.h.2.2.2.2.1 z.h.2.2.2.2.2.2 (hr.mono z.h.2.1) z.h.2.2.2.2.2.1 .nil uT (wP rfl hline)).imp λY H Q ⟨E,s,q,kk⟩=>?_
 obtain⟨d,q1,q⟩:=Op q
 obtain⟨C,ns,ds,k,f,hd,hm,hk,hn,hf⟩:=tK (q)
 obtain⟨z,rfl,rfl,rfl⟩:=CF hmt hm hk
 refine⟨z,E,d,q1,λv H1 s1 iv=>?_⟩
 subst hd
 obtain⟨a,dx,fs,ev,ea,el⟩:=Gu iv z.h.2.2.1 hn
 refine⟨a,dx,fs,ev,msk_le _ _ ea,el,?_⟩
 exact⟨O,[_],s,(E.grow s1).lis,⟨v,[],rfl,iv,rfl⟩,hf,λw' H3 r=>kk w' H1 H3 s1 r⟩
theorem Gv {f:Vv->NH} (h:PE X e (λY H Q=>VE X.K O Y H U/\∃s,f U=some s/\∀v H1 H',Same H H1->RetOk X.K ⟨H1,O⟩ H' s v->Q v H')):PE X e (tP X.K O U (fD (f U))):=h.imp λY H Q ⟨E,d,q,k⟩=>by
 obtain⟨s,q1,q2⟩:=Op q;cases q2;refine⟨E,s,q1,λv H1 H' s1 r=>?_⟩;obtain⟨s2,iv⟩:=r.is (E.grow s1).lis;exact k v H' (!28) iv
def spI (K:Frag) (Ca:Addr) (g:NS->Option (List (Str×D))):Sp:=λvs H Q _=>∃x vs' dx O ds fd,vs=.ref x::vs'/\H x=some (.ins Ca dx [])/\(∀b,O b=true->Hid (H b))/\O x=true/\IsL K (msk O H) ds vs'/\g ds=some fd/\
 ∀H' fs,(∀b o,b≠x->H b=some o->H' b=some o)->H' x=some (.ins Ca dx fs)->fs.map (·.1)=fd.map (·.1)->IsL K (msk O H') (fd.map (·.2)) (fs.map (·.2))->Q .non H'
structure Mkf (P:Program) (w:World) (K:Frag) (mg:Str->NM) (base:Heap) (C:Str) (k:Nat) (g:NS->Option (List (Str×D))):Prop where
 ex:∃ (Ca fa:Addr) (fd:FuncData) (ps:NP),mg C=some (.ref Ca)/\nsIn K mainGlobals C=some (!24)/\Mk K Ca fa/\Binds K fd ps []/\FnOk P w K mg base CX0 k fa fd ps (spI K Ca g)
def CG (C:Str) (o:Option (List (Str×D))):NU:=o.bind λfd=>some (.obj C (fd.map (·.1)) (fd.map (·.2)))
theorem CH (F:Mkf X.prog X.w X.K X.mg X.base C k g) (hr:Room (k+1) X.A) (hg:Gl X C) (ha:PX X (e::es) fa) (hdb:(C==("__debug__":Str))=false) (he:starEach (e::es) X.env=(false,eval e X.env)::starEach es X.env) (hpl:(!14).any (·.1)=false):
  PP X (.Call (.Name C p) (e::es) [] pos) (λU=>(fa U).bind λds=>CG C (g ds)):=λO U=>by
 obtain⟨Ca,f,fd,ps,hm,hns,M,hb,G⟩:=F.ex
 refine(BS M G hr hg hm hb .nil uT (ha O U) hdb he hpl).imp λY H Q ⟨E,d,q,kk⟩=>?_
 obtain⟨ds,q1,q2⟩:=Op q
 obtain⟨fl,q3,q4⟩:=Op q2
 cases q4
 refine⟨E,ds,q1,λvs H1 s1 il x dx hx hdx hne=>?_⟩
 have E1:=E.grow s1
 have hOx:=E1.fresh hx
 have s2:Same H1 (upd (upd H1 dx (.own x)) x (.ins Ca dx [])):=λb o q=>by
  rw[ag (au q hx),ag (au q hdx)];exact q
 have le:Same (msk O H1) (msk (λb=>O b||decide (b=x)) (upd (upd H1 dx _) x _)):=λb o q=>by
  obtain⟨q1,q2⟩:=aJ q;have hb:=au q2 hx;rw[aE (by simp[q1,hb])];exact s2 _ _ q2
 rw[List.append_nil]
 refine⟨x,vs,dx,λb=>O b||decide (b=x),ds,fl,rfl,ai,λb hb=>?_,by simp,IsL.mono le _ _ il,q3,λH' fs keep hx' hns' hl=>⟨rfl,?_⟩⟩
 ·rcases(Bool.or_eq_true _ _).mp hb with hb|hb
  ·exact(E1.lis b hb).same s2
  ·rw[of_decide_eq_true hb,ai];exact .inr (.inl ⟨_,_,_,rfl⟩)
 ·have s3:Same H1 H':=λb o q=>keep b o (au q hx) (s2 _ _ q);refine kk _ H' (s1.trans s3) ⟨x,Ca,dx,fs,rfl,hns,by rw[aE hOx];exact hx',hns',IsL.mono (λb o q=>?_) _ _ hl⟩;obtain⟨q1,q2⟩:=aJ q;have:O b=false:=by
   cases z:O b with
   |false=>rfl
   |true=>simp[z]at q1
  rw[aE this];exact q2
end
section
variable {K:Frag} {B:Bs} {O:NR} {Y:St} {H:Hp} {U:Ev}
theorem EnvOk.thaw (E:EnvOk K B O (Y++[some v]) H (U++[some s])):∃O',EnvOk K B O' Y H U/\Same (msk O H) (msk O' H)/\Is K (msk O' H) s.2 v:=by
 obtain⟨F,h1,h2,h3,h4⟩:=E.fp;have len:Y.length=U.length:=by have:=E.len;simp at this;exact this
 obtain⟨v',e1,o1⟩:=h1 U.length s (getElem?_last _ _);rw[<-len,getElem?_last]at e1;cases e1;let O':NR:=λb=>O b&&!decide (b∈F U.length);have le:Same (msk O H) (msk O' H):=λb o q=>by
  obtain⟨q1,q2⟩:=aJ q;rw[aE (by simp[O',q1])];exact q2
 refine⟨O',⟨E.same,E.bdom,λb hb=>?_,λb hb=>E.lis b (by simp[O']at hb;exact hb.1),len,λj=>if j=U.length then[]else F j,λj x q=>?_,λj=>?_,λj k a hj hk=>?_,λj a hj=>?_⟩,le,o1.is le λa ha=>by simp[O',ha]⟩
 ·have h6:b ∉ F U.length:=λz=>E.bdom b hb (h4 _ b z).2;simp[O',E.sub b hb,h6]
 ·have hjl:=(N4.mp q).1;have hj:j≠U.length:=by omega
  obtain⟨w,e2,o2⟩:=h1 j x (by rw[getElem?_append_left hjl];exact q);exact⟨w,ck (!1) e2,by simp only[if_neg hj];exact o2.frame le λ_ _ _ h=>h⟩
 all_goals grind
theorem EnvOk.store (E:EnvOk K B O Y H U) (hx:B.O x=true) (hb:B.H x=some (.ins Ca dx fs)):EnvOk K ⟨upd B.H x (.ins Ca dx fs'),B.O⟩ O Y (upd H x (.ins Ca dx fs')) U/\msk O (upd H x (.ins Ca dx fs'))=msk O H:=by
 have me:msk O (upd H x (.ins Ca dx fs'))=msk O H:=ie (E.sub x hx);obtain⟨F,h1,h2,h3,h4⟩:=E.fp;have no:∀i,x ∉ F i:=λi z=>by have:=(h4 i x z).2;rw[hb]at this;cases this
 refine⟨⟨λb o q=>?_,λb q=>?_,E.sub,λb q=>?_,E.len,F,λi s q=>?_,h2,h3,λi a ha=>⟨(h4 i a ha).1,?_⟩⟩,me⟩
 ·have q':upd B.H x (.ins Ca dx fs') b=some o:=q;by_cases h:b=x
  ·subst h;rw[ai]at q'⊢;exact q'
  ·rw[ag h]at q'⊢;exact E.same b o q'
 ·by_cases h:b=x
  ·subst h;show upd B.H b _ b≠none;rw[ai];simp
  ·show upd B.H x _ b≠none;rw[ag h];exact E.bdom b q
 ·by_cases h:b=x
  ·subst h;rw[ai];exact .inr (.inl ⟨_,_,_,rfl⟩)
  ·rw[ag h];exact E.lis b q
 ·obtain⟨v,e,o⟩:=h1 i s q;refine⟨v,e,o.frame (by rw[me];exact Same.refl _) λa ha u hu=>?_⟩;have:a≠x:=λz=>no i (z▸ha);rw[ag this];exact hu
 ·have:a≠x:=λz=>no i (z▸ha);show upd B.H x _ a=none;rw[ag this];exact(h4 i a ha).2
end
noncomputable def tL (f:Str) (d:D):List (Str×D)->List (Str×D)
 |[]=>[(f,d)]
 |(g,e)::r=>if g=f then(g,d)::r else(g,e)::tL f d r
theorem vd {K} (h:Is K M d v):∀ {fd:List (Str×D)} {fs:List (Str×V)},fs.map (·.1)=fd.map (·.1)->IsL K M (fd.map (·.2)) (fs.map (·.2))->
  (eF f v fs).map (·.1)=(tL f d fd).map (·.1)/\IsL K M ((tL f d fd).map (·.2)) ((eF f v fs).map (·.2))
 |[],[],_,_=>⟨rfl,v,[],rfl,h,rfl⟩
 |[],_::_,e,_=>by simp at e
 |_::_,[],e,_=>by simp at e
 |(g,c)::fd,(g',u)::fs,e,⟨x,r,z,q,l⟩=>by
  have e1:g'=g:=by simp at e;exact e.1
  have e2:fs.map (·.1)=fd.map (·.1):=by simp at e;simpa using e.2
  subst e1;have z':u::fs.map (·.2)=x::r:=z;cases z';unfold eF tL;by_cases hg:g'=f
  ·rw[if_pos hg,if_pos hg];exact⟨by simp[e2],v,_,rfl,h,l⟩
  ·rw[if_neg hg,if_neg hg];obtain⟨a,b⟩:=vd h e2 l;exact⟨by simp[a],u,_,rfl,q,b⟩
abbrev InF:=Ev->List (Str×D)->Option (List (Str×D))
def tIn (K:Frag) (Ca:Addr) (B:Bs) (O:NR) (U:Ev) (x dx:Addr) (fd:List (Str×D)) (o:Option (List (Str×D))):TS:=λEn Y H=>EnvOk K B O Y H U/\B.O x=true/\
 (∃fs,B.H x=some (.ins Ca dx fs)/\fs.map (·.1)=fd.map (·.1)/\IsL K (msk O H) (fd.map (·.2)) (fs.map (·.2)))/\∃fd',o=some fd'/\
 ∀Y' H' O' fs',(∀b o,b≠x->B.H b=some o->H' b=some o)->(∀b,B.O b=true->O' b=true)->H' x=some (.ins Ca dx fs')->fs'.map (·.1)=fd'.map (·.1)->IsL K (msk O' H') (fd'.map (·.2)) (fs'.map (·.2))->En.nx Y' H'
def PIn (X:Cx) (Ca x:Addr) (st:List Stmt) (I:InF):Prop:=∀B O U dx fd,PSs X st (tIn X.K Ca B O U x dx fd (I U fd))
noncomputable def CI:InF:=λ_ fs=>some fs
noncomputable def stI (F:Cl) (G:InF):InF:=λU fs=>(F U).bind λo=>match o with
 |.nx U'=>G U' fs
 |_=>none
def CJ (x:Addr) (i:Nat) (f:Str) (g:NE) (G:InF):InF:=λU fs=>(g U).bind λz=>match io z.2 i with
 |some (.sh,.adr a)=>if a=x/\fs.length<900 then G z.2 (tL f z.1.2 fs)else none
 |_=>none
section
variable {X:Cx} {Ca x:Addr} {st:Stmt} {rest:List Stmt} {e:Expr} {pos:Pos}
theorem Gw:PIn X Ca x [] CI:=λB O U dx fd=>pss_nil.imp λEn Y H ⟨E,hx,⟨fs,h1,h2,h3⟩,fd',q,k⟩=>by
 cases q;exact k Y H O fs (λb o _ h=>E.same b o h) E.sub (E.same x _ h1) h2 h3
theorem CK (h1:PR X st F) (h2:PIn X Ca x rest G):PIn X Ca x (st::rest) (stI F G):=λB O U dx fd=>
 (kZ (h1 B O U) (PSs.ex λz:(NR)×Ev=>h2 B z.1 z.2 dx fd)).imp λEn Y H ⟨E,hx,⟨fs,a1,a2,a3⟩,fd',q,k⟩=>by
 obtain⟨o1,q1,q2⟩:=Op q;refine⟨E,o1,q1,?_⟩;cases o1 with
 |nx U'=>exactλY' H' O' s' E'=>⟨⟨O',U'⟩,E',hx,⟨fs,a1,a2,IsL.mono s' _ _ a3⟩,fd',q2,k⟩
 |rt d=>cases q2
 |bk U'=>cases q2
 |ct U'=>cases q2
theorem Gx (i:Nat) (hv:PEv X e g) (h2:PIn X Ca x rest G) (hN:X.N[i]?=some self) (hvis:Vis X.env.scope self) (hd:(self==("__debug__":Str))=false) (hcd:(self==("__classdict__":Str))=false) (hs:swapsWith e (some (.Attribute (.Name self px) f pos')) pos.line X.env=pure false) (c:Cls X.K Ca) (na:NoAttr X.K Ca f):PIn X Ca x (.Assign [.Attribute (.Name self px) f pos'] e pos::rest) (CJ x i f g G):=λB O U dx fd=>
 (kZ (FD (cc hN hvis hd hcd) (hv B O U).1 hs) (PSs.ex λz:Bs×(NR)×Ev×List _=>h2 z.1 z.2.1 z.2.2.1 dx z.2.2.2)).imp λEn Y H ⟨E,hx,⟨fs,a1,a2,a3⟩,fd',q,k⟩=>by
 obtain⟨⟨s,U'⟩,q1,q⟩:=Op q;refine⟨E,s,U',q1,λy H1 O1 s1 E1=>?_⟩;obtain⟨O2,E2,s2,iy⟩:=E1.thaw;have q':(match io U' i with|some (.sh,.adr a)=>if a=x/\fd.length<900 then G U' _ else none|_=>none)=some fd':=q;split at q'
 ·rename_i a ha;split at q'
  ·rename_i hc;obtain⟨rfl,hl⟩:=hc;obtain⟨F,f1,_⟩:=E2.fp;obtain⟨w,ew,ow⟩:=f1 i _ (d6 ha);cases(ow.2);have hb:=E2.same a _ a1;have hlen:fs.length=fd.length:=by have:=congrArg List.length a2;simpa using this
   refine⟨.ref a,ew,a,Ca,dx,fs,rfl,hb,c,na,by omega,?_⟩;obtain⟨E3,me⟩:=E2.store hx a1;have a3':=IsL.mono (!28) _ _ a3;obtain⟨b1,b2⟩:=vd iy a2 a3';refine⟨⟨⟨upd B.H a (.ins Ca dx _),B.O⟩,O2,U',tL f s.2 fd⟩,E3,hx,⟨_,ai,b1,by rw[me];exact b2⟩,fd',q',λY' H' O' fs' k1 k2 k3 k4 k5=>k Y' H' O' fs' (λb o hb h=>k1 b o hb (by show upd B.H a _ b=some o;rw[ag hb];exact h)) k2 k3 k4 k5⟩
  ·cases q'
 ·cases q'
end
def tM (n:Nat) (x:Addr) (ds:NS):Ev:=ax n (.adr x::ds)
def za (n m:Nat) (I:Addr->InF) (x:Addr) (ds:NS):Option (List (Str×D)):=if ds.length+1=n then I x (tM m x ds) []else none
theorem L7 {K} {st} (Fn:Fun K x qual st f fd) (S:FnScope N ps (am st)) (hg:∀ds r,g ds=some r->∀y,za ps.length N.length I y ds=some r) (hb:∀ (y:Addr) (cdv:Value) (A:Around) (outer:List Env) (s:Shared) (H:Hp) (E:XK),Room k (A.deeper (envOfC qual (am st) s.heap.objs.size f cdv))->PIn (oJ CX0 P w K mg base N qual (am st) f cdv A outer s H E).nox Ca y (aN st) (I y)):
  FnOk P w K mg base CX0 (k+1) f fd ps (spI K Ca g):=by
 refine Fn.ok S (λvs H Q E ⟨y,vs',dx,O,ds,r,e1,_,_,_,il,e,_⟩=>?_) (λcdv A outer s H vs Q E hr ⟨y,vs',dx,O,ds,r,e1,hy,hO,hOy,il,e,kk⟩=>?_)
 ·have:=hg ds r e 0;unfold za at this;split at this
  ·rename_i h;rw[e1,length_cons,<-il.len];exact h
  ·cases this
 ·have q:=hg ds r e y;unfold za at q;split at q
  ·subst e1;have il':IsL K (msk O H) (.adr y::ds) (.ref y::vs'):=⟨_,_,rfl,rfl,il⟩;refine⟨_,hb y cdv A outer s H E hr ⟨H,O⟩ O (ax N.length _) dx [],qS hO il',hOy,⟨[],hy,rfl,rfl⟩,r,q,λY' H' O' fs' k1 k2 k3 k4 k5=>?_⟩;refine kk H' fs' k1 k3 k4 (IsL.mono (λb o z=>?_) _ _ k5);obtain⟨z1,z2⟩:=aJ z;rw[aE];exact z2;cases zz:O b with
   |false=>rfl
   |true=>rw[k2 b zz]at z1;cases z1
  ·cases q
structure NSt (b:Bool) (z j l:Addr) (k:Nat) (h:Heap):Prop where
 ne:z≠j
 hz:∃old,IsEnum h z j k old
 h1:ItK b h j l k
section
variable {prog:Program} {w:World} {A:Around} {E:NJ} {s:Shared}
theorem zb {k:Nat} {Q:NJ} (Z:IsEnum s.heap z j k old) (J:ItK b s.heap j l k) (C:CoK b s.heap l xs) (hx:xs[k]?=some x) (ne:z≠j) (hQ:∀g,IsEnumOut g z j ((k:Int)+1) x s.heap.objs.size->ItK b g j l (k+1)->g.get? s.heap.objs.size=some {cls:=.type "tuple",data:=.seq #[.int k s.toks,x]}->g.objs.size=s.heap.objs.size+1->
   (∀d o,d≠z->d≠j->s.heap.get? d=some o->g.get? d=some o)->Q (!32) {s with heap:=g,toks:=s.toks+1}):
  wpAny (!2) A (Builtin.«enumerate.__next__» ⟨[.ref z],[]⟩) (λfin s'=>∃v,fin=.done (.ret v)/\Q v s') E s:=by
 cases s with
 |mk hp gn dr tk os=>
 show wpAny _ _ (field (.ref z) 2>>=_) _ _ _
 refine NW (wpAny_field Z rfl rfl (NW (u5 J C hx λg1 J1 s1=>?_)))
 replace s1:Heap.SameBut j hp g1:=s1
 have Z1:=(s1.2 z ne).trans Z
 refine NW (wpAny_field Z1 rfl rfl ?_)
 refine NW (wpAny_field Z1 rfl rfl ?_)
 refine NW (wpAny_mkInt ?_)
 show wpAny _ _ (setField (.ref z) 3 (rawInt ((k:Int)+1))>>=_) _ _ ⟨g1,gn,dr,tk+1,os⟩
 refine NW (wpAny_setField_rec Z1 (by simp) λg2 Z2 s2=>?_)
 replace s2:Heap.SameBut z g1 g2:=s2
 replace Z2:IsEnum g2 z j ((k:Int)+1) old:=Z2
 refine NW (wpAny_setField_rec Z2 (by simp) λg3 Z3 s3=>?_)
 replace s3:Heap.SameBut z g2 g3:=s3
 replace Z3:IsEnum g3 z j ((k:Int)+1) old:=Z3
 refine NW (wpAny_newTuple ?_)
 have Z4:IsEnum (g3.push {cls:=.type "tuple",data:=.seq #[.int k tk,x]}) z j ((k:Int)+1) old:=NX _ Z3
 have sz:g3.objs.size=hp.objs.size:=by rw[s3.1,s2.1,s1.1]
 have zl:=N1 Z
 have T4:(g3.push {cls:=.type "tuple",data:=.seq #[.int k tk,x]}).get? hp.objs.size=some {cls:=.type "tuple",data:=.seq #[.int k tk,x]}:=by rw[<-sz];exact N2 _ rfl
 have z4:(g3.push {cls:=.type "tuple",data:=.seq #[.int k tk,x]}).objs.size=hp.objs.size+1:=by rw[Heap.size_push,sz]
 have k4:∀d o,d≠z->d≠j->hp.get? d=some o->(g3.push {cls:=.type "tuple",data:=.seq #[.int k tk,x]}).get? d=some o:=λd o n1 n2 e=>
  NX _ (s3.extBut d o n1 (s2.extBut d o n1 (s1.extBut d o n2 e)))
 have J4:ItK b (g3.push {cls:=.type "tuple",data:=.seq #[.int k tk,x]}) j l (k+1):=((J1.ext s2 ne.symm).ext s3 ne.symm).at λo e=>NX _ e
 generalize g3.push {cls:=.type "tuple",data:=.seq #[.int k tk,x]}=g4 at Z4 T4 z4 k4 J4
 rw[sz]
 refine NW ?_
 refine NW (wpAny_field Z4 rfl rfl (NY ?_))
 refine NW (wpAny_rule (NW (wpAny_field Z4 rfl (x:=old) rfl (NW (wpAny_setField_rec Z4 (by simp) λg5 Z5 s5=>?_)))))
 replace s5:Heap.SameBut z g4 g5:=s5
 replace Z5:IsEnum g5 z j ((k:Int)+1) x:=Z5
 show wpAny _ _ (Builtin.SmallTypes.ownedTupleHandOut (.ref z) (.ref hp.objs.size)>>=_) _ _ ⟨g5,gn,dr,tk+1,os⟩
 refine NW ?_
 refine NW (wpAny_setField_rec Z5 (by simp) λg6 Z6 s6=>?_)
 replace s6:Heap.SameBut z g5 g6:=s6
 replace Z6:IsEnumOut g6 z j ((k:Int)+1) x hp.objs.size:=Z6
 refine wpAny_setField_rec Z6 (by simp) λg7 Z7 s7=>?_
 replace s7:Heap.SameBut z g6 g7:=s7
 replace Z7:IsEnumOut g7 z j ((k:Int)+1) x hp.objs.size:=Z7
 have up:∀d o,d≠z->g4.get? d=some o->g7.get? d=some o:=λd o n e=>s7.extBut d o n (s6.extBut d o n (s5.extBut d o n e))
 exact NW (wpAny_letGo (NY ⟨_,rfl,hQ g7 Z7 (J4.at λo e=>up _ o ne.symm e) (up _ _ (Nat.ne_of_gt zl) T4) (by rw[s7.1,s6.1,s5.1,z4]) λd o n1 n2 e=>up d o n1 (k4 d o n1 n2 e)⟩))
theorem zc (Z:NSt b z j l k s.heap) (C:CoK b s.heap l xs) (hx:xs[k]?=some x) (hQ:∀g,IsEnumOut g z j ((k:Int)+1) x s.heap.objs.size->ItK b g j l (k+1)->g.get? s.heap.objs.size=some {cls:=.type "tuple",data:=.seq #[.int k s.toks,x]}->g.objs.size=s.heap.objs.size+1->
   (∀d o,d≠z->d≠j->s.heap.get? d=some o->g.get? d=some o)->Q (some (!32)) {s with heap:=g,toks:=s.toks+1}):wpAny (!2) A (pyNext (.ref z)) Q E s:=by
 obtain⟨ne,⟨old,hz⟩,h1⟩:=Z
 have T:s.TypeIs (.ref z) "enumerate":=⟨_,hz,rfl⟩
 exact NW (wpAny_attempt (wpAny_callSpecial?_slot T F.slot_enumerate_next (wpAny_call_entry F.slot_enumerate_next T F.entry_enumerate_next
  (zb hz h1 C hx ne λg a c d e f=>NY (hQ g a c d e f)) (F.args_enumerate_next_1 _))))
theorem zd (hh:A.handled=none) (Z:NSt b z j l k s.heap) (C:CoK b s.heap l xs) (hx:xs[k]?=none) (hQ:∀g,Heap.ExtBut j s.heap g->Q none {s with heap:=g}):wpAny (!2) A (pyNext (.ref z)) Q E s:=by
 obtain⟨ne,⟨old,hz⟩,h1⟩:=Z;have T:s.TypeIs (.ref z) "enumerate":=⟨_,hz,rfl⟩;refine NW (wpAny_attempt (wpAny_callSpecial?_slot T F.slot_enumerate_next (wpAny_call_entry F.slot_enumerate_next T F.entry_enumerate_next ?_ (F.args_enumerate_next_1 _))));show wpAny _ _ (field (.ref z) 2>>=_) _ _ _;refine NW (wpAny_field hz rfl rfl (NW (jc hh h1 C hx λg e q he=>?_)));obtain⟨o,ho,hc⟩:=he;exact NW (wpAny_isInstance ⟨o,ho,hc⟩ isSubtype_stop (NY (hQ _ q)))
abbrev nG (h:Heap) (b:Bool) (l:Addr):Heap:=(h.push (aD b l)).push {cls:=.type "enumerate",data:=.fields #[.none,.bool false,.ref h.objs.size,rawInt 0,.none,.none]}
theorem CL (b:Bool) (l:Addr) (xs:Array Value):Meets (Builtin.«enumerate.__new__» ⟨[.type "enumerate",.ref l],[]⟩) (λ_ R s=>CoK b s.heap l xs/\
   R (.ok (.ret (.ref (s.heap.push (aD b l)).objs.size))) {s with heap:=nG s.heap b l}):=
 .of_wp λprog w A R s h=>by
  cases s with
  |mk hp gn dr tk os=>
  obtain⟨c0,h⟩:=h;have hsub:=sub_enumerate;have C:CoK b (Shared.heap ⟨hp,gn,dr,tk,os⟩) l xs:=c0;wp_walk using qR C;refine wpAny_stack_any λst=>NY ?_;split
  ·rename_i c _ _ _ _ _;cases(c==Value.type "enumerate")<;>(wp_walk using qR C;exact⟨_,rfl,h⟩)
  ·wp_walk using qR C;exact⟨_,rfl,h⟩
theorem ze (C:CoK b s.heap l xs) (h:∀g,NSt b (!16) s.heap.objs.size l 0 g->g.objs.size=s.heap.objs.size+2->(∀d o,s.heap.get? d=some o->g.get? d=some o)->Q (.ref (!16)) {s with heap:=g}):
  wpAny (!2) A (call (.type "enumerate") [.ref l]) Q E s:=by
 refine callType_new F.called_enumerate (!4) (F.typeCall_enumerate_1 _) (F.newCall_enumerate_1 _) (λobj=>F.args_object_init_2 obj _) F.entry_enumerate_new (CL b l xs) ⟨C,?_⟩
 have z1:(s.heap.push (aD b l)).objs.size=s.heap.objs.size+1:=Heap.size_push ..
 have g2:IsEnum (nG s.heap b l) (!16) s.heap.objs.size 0 .none:=by
  have:=N2 (s.heap.push (aD b l)) (o:={cls:=.type "enumerate",data:=.fields #[.none,.bool false,.ref s.heap.objs.size,rawInt 0,.none,.none]}) rfl;rw[z1]at this;exact this
 have fb:(aD b l).isFreed=false:=by cases b<;>rfl
 have g1:(nG s.heap b l).get? s.heap.objs.size=some _:=NX _ (N2 _ fb)
 have i1:ItK b (nG s.heap b l) s.heap.objs.size l 0:=by cases b<;>exact⟨_,g1,rfl,rfl⟩
 rw[z1]
 exact⟨⟨_,g2,rfl⟩,h _ ⟨Nat.succ_ne_self _,⟨_,g2⟩,i1⟩ (by rw[Heap.size_push,z1]) λd o x=>NX _ (NX _ x)⟩
end
noncomputable def Itn (K:Frag) (b:Bool) (l:Addr):It:=
 ⟨λi H=>∃xs x,SqK b K H l xs/\xs[i]?=some x,
  λi H v H'=>∃p x,v=.ref p/\H p=none/\H'=upd H p (.tup [.int i,x])/\∀xs,SqK b K H l xs->xs[i]?=some x,
  λi H=>∃xs,SqK b K H l xs/\xs.length<=i⟩
theorem NSt.live (Z:NSt b z j l k h) (hd:d∈[z,j]):∃o,h.get? d=some o/\∀v,o.data≠.cell v:=by
 simp at hd;rcases hd with rfl|rfl
 ·obtain⟨old,e⟩:=Z.hz;exact⟨_,e,λv q=>by cases q⟩
 ·obtain⟨o,n,vs,e,_,dd,_⟩:=Z.h1.live;exact⟨o,e,λv q=>by rw[dd]at q;cases q⟩
theorem zf {P:Program} {w:World} {K:Frag} {elts:NT} {x1:Nat} {tpos:Pos} (b:Bool) (l z j:Addr):
  Turn P w K (.Tuple elts x1 tpos) (Itn K b l) [z,j] z (λi h=>NSt b z j l i h) where
 mem:=by simp
 obj:=λi h Z d hd=>Z.live hd
 keep:=λi h h' Z k=>by
  obtain⟨old,e⟩:=Z.hz;exact⟨Z.ne,⟨old,k z (by simp) _ e⟩,Z.h1.at λo q=>k j (by simp) o q⟩
 item:=by
  intro X hP hw hK hc i pins s Y H E I hf Z hg;subst hP hw hK;obtain⟨xs,x,hx,ex⟩:=hg;obtain⟨its,rv,p1,_⟩:=I.coK hx;obtain⟨u,hu,ru⟩:=rv.get ex;refine zc Z p1 (by simpa using hu) λh' Z' J' T' sz k'=>⟨_,rfl,?_⟩;refine wpAny_letOwnedTupleGo_enum Z' λh2 hz2 sb=>?_;obtain⟨old,hz⟩:=Z.hz;have zlt:=N1 hz;have Z2:NSt b z j l (i+1) h2:=⟨Z.ne,⟨_,by rw[show((i+1:Nat):Int)=(i:Int)+1 from rfl];exact hz2⟩,J'.at λo q=>sb.extBut _ _ Z.ne.symm q⟩;have T2:=sb.extBut _ _ (Nat.ne_of_gt zlt) T';have kk:∀d o,d ∉ [z,j]->s.heap.get? d=some o->h2.get? d=some o:=λd o hd e=>by
   simp at hd;exact sb.extBut _ _ hd.1 (k' d o hd.1 hd.2 e)
  have fr:=I.hok.fresh (Om _);refine⟨.ref s.heap.objs.size,_,I.turnedNew hf kk (Om _) ?_,rfl,⟨s.heap.objs.size,x,rfl,fr,rfl,λzs hzs=>by rw[I.coK_inj hzs hx];exact ex⟩,Z2,λd hd=>?_⟩
  ·exact⟨by show 2<=sizeLine;decide,[.int i s.toks,u],.cons ⟨_,rfl⟩ (.cons ru .nil),⟨_,T2,rfl,_,rfl⟩⟩
  ·obtain⟨o,eo,_⟩:=Z.live hd;rw[ag (Nat.ne_of_lt (Heap.lt_size eo))];exact(hf d hd).1
 done:=by
  intro X hP hw hK hc i pins s Y H E I hf Z hg;subst hP hw hK;obtain⟨xs,hx,hl⟩:=hg;obtain⟨its,rv,p1,_⟩:=I.coK hx;have e1:=rv.length;refine zd (I.ok.hd hc) Z p1 (by simp;omega) λh' k'=>⟨rfl,I.turnedL hf λd o hd e=>?_⟩;simp at hd;exact k' d o hd.2 e
 self:=λ_ _ _ _ _ Z h=>by
  obtain⟨old,e⟩:=Z.hz;exact wpAny_pyIter_enum e h
section
variable {X:Cx} {tg a b e:Expr} {es:NT} {p pos:Pos}
theorem Gy:bootBuiltins "enumerate"=some (.type "enumerate"):=by decide+kernel
def L8 (K:Frag) (ta:TA):TI:=λY H R=>ta Y H λvs H1=>∃b l xs,vs=[.ref l]/\SqK b K H1 l xs/\R (Itn K b l) H1
theorem Gz {x1} (hg:Gl X "enumerate") (hm:X.mg "enumerate"=none) (ha:PA X [a] ta) (hs:starEach [a] X.env=[(false,eval a X.env)]):
  PI X (.Tuple elts x1 tpos) (.Call (.Name "enumerate" p) [a] [] pos) (L8 X.K ta):=by
 intro pins s Y H R I h
 refine Call_ (ce I hg hm Gy (PyProof.Rows.callWith_type1 (thn (ha pos pins s Y H _ I h) λus s1 ⟨vs,H1,I1,r1,q1⟩=>?_) (by rw[hs];rfl) (by rfl)))
 obtain⟨b,l,xs,e,hx,q⟩:=q1
 subst e
 obtain⟨u,rfl,ru⟩:=eW r1
 cases ru
 obtain⟨its,rx,p1,_⟩:=I1.coK hx
 refine ze p1 λh' Z sz k=>?_
 obtain⟨old,hz⟩:=Z.hz
 refine wpAny_pyIter_enum hz ?_
 have I2:Inv X pins Y H1 {s1 with heap:=h'}:=I1.kept k
 refine⟨s1.heap.objs.size+1,[s1.heap.objs.size+1,s1.heap.objs.size],_,_,H1,rfl,I2,zf b l _ _,Z,λd hd=>?_,q⟩
 have hge:s1.heap.objs.size<=d:=by
  simp at hd;rcases hd with rfl|rfl<;>first|exact Nat.le_add_right _ _|exact Om _
 exact I1.fpOk hge (I1.hok.fresh hge)
noncomputable def iq (xs:NS):NS:=xs.zipIdx.map λp=>.tup [.int (p.2:Nat),p.1]
theorem zg {K} {b} (hx:SqK b K Hm l xs) (il:IsL K Hm ds xs):jS K Hm (Itn K b l) (iq ds):=λi H O s hd=>by
 have hx':=hx.mono (s.trans msk_le);refine⟨λd hi=>?_,λhi=>⟨xs,hx',?_⟩⟩
 ·unfold iq at hi;rw[getElem?_map,List.getElem?_zipIdx]at hi;cases e:ds[i]? with
  |none=>rw[e]at hi;cases hi
  |some d1=>
   rw[e]at hi;cases hi;obtain⟨x,ex,ix⟩:=il.get e;refine⟨⟨xs,x,hx',ex⟩,?_⟩;rintro v H3 ⟨q,x',rfl,hq,rfl,kx⟩;have z1:=kx xs hx';rw[ex]at z1;cases z1;have hO:=fq hd hq;refine⟨Same.new hq,q,[.int i,x],rfl,.of (by rw[aE hO,ai]),?_⟩;have le:Same (msk O H) (msk O (upd H q (.tup [.int i,x]))):=(Same.new hq).msk;exact⟨.int i,[x],rfl,by show V.int _=V.int _;simp,x,[],rfl,Is.mono (s.trans le) _ _ ix,rfl⟩
 ·have h1:=il.len;unfold iq at hi;rw[length_map,List.length_zipIdx]at hi;omega
def ve:NS->NI:=un1 λc=>(seqD c).bind λxs=>some (iq xs)
theorem GA {x1} (hg:Gl X "enumerate") (hm:X.mg "enumerate"=none) (ha:PX X [a] fa) (hs:starEach [a] X.env=[(false,eval a X.env)]):
  PJ X (.Tuple elts x1 tpos) (.Call (.Name "enumerate" p) [a] [] pos) (λU=>(fa U).bind ve):=λO U=>(Gz hg hm (ha O U) hs).imp λY H R ⟨E,ds,q,k⟩=>by
 obtain⟨as,e1,q⟩:=Op q
 refine⟨E,as,e1,λvs H1 s1 il=>?_⟩
 obtain⟨c,rfl,q1⟩:=aW q
 obtain⟨xs,q2,q3⟩:=Op q1
 cases q3
 obtain⟨u,rfl,iu⟩:=is1 il
 obtain⟨l1,us,rfl,t1,m1⟩:=eH q2 iu
 obtain⟨b1,t1⟩:=tw t1
 exact⟨b1,l1,us,rfl,t1.mono msk_le,k _ H1 s1 (zg t1 m1)⟩
end
section
variable {X:Cx} {a b:Expr} {pos:Pos}
def JU (K:Frag):R2:=λx y H Q=>∃l m xs zs,x=.ref l/\y=.ref m/\SqL K H l xs/\SqL K H m zs/\xs.length+zs.length<=sizeLine/\∀p,H p=none->Q (.ref p) (upd H p (.lst (xs++zs)))
theorem CM:OpR X (binaryOp .Add) (JU X.K):=by
 intro pins s Y H x y v u Q I rx ry h;obtain⟨l,m,xs,zs,rfl,rfl,h1,h2,hz,q⟩:=h;cases rx;cases ry;obtain⟨its,r1,⟨⟨c1,d1,t1,s1⟩,n1,e1,k1,_,w1⟩,_⟩:=I.list h1;obtain⟨jts,r2,⟨⟨c2,d2,t2,s2⟩,n2,e2,k2,_,w2⟩,_⟩:=I.list h2;subst k1 w1 k2 w2;have hl1:=r1.length;have hl2:=r2.length;refine concat_meets ⟨_,e1,rfl⟩ ⟨_,e2,rfl⟩ noFill_list_add seq_list_add PySem.F.slot_list_add PySem.F.entry_list_add (PySem.F.args_list_add_2 _ _) (list_addW l m its.toArray jts.toArray n1 n2 d1 d2 s1 s2 (by rw[size_toArray,size_toArray];omega)) ⟨e1,e2,?_⟩;rw[show its.toArray++jts.toArray=(its++jts).toArray by simp];exact⟨.ref _,_,I.lnew (r1.append r2) (by rw[length_append];omega),rfl,q _ I.fresh⟩
def L9 (d e:D):NI:=(fu d).bind λxs=>(fu e).bind λys=>bC (some (xs++ys))
def iw (fa fb:wp):qm:=λU=>(fa U).bind λx=>(fb U).bind λy=>L9 x y
theorem GB (ha:PP X a fa) (hb:PP X b fb):PF X (.BinOp a .Add b pos) (iw fa fb):=λO U=>(El CM (ha O U) (hb O U)).imp λY H Q ⟨E,ds,q,k⟩=>by
 obtain⟨dx,e1,q⟩:=Op q;obtain⟨dy,e2,q⟩:=Op q;obtain⟨xs,f1,q⟩:=Op q;obtain⟨ys,f2,q⟩:=Op q;obtain⟨g1,g2⟩:=cj q;cases g1;refine⟨E,dx,e1,λx H1 s1 i1=>⟨E.grow s1,dy,e2,λy H2 s2 i2=>?_⟩⟩;obtain⟨l,us,rfl,t1,l1⟩:=cA f1 (Is.mono s2.msk dx x i1);obtain⟨m,ws,rfl,t2,l2⟩:=cA f2 i2;refine⟨l,m,us,ws,rfl,rfl,msk_le.seq t1,msk_le.seq t2,?_,λp hp=>k p _ H2 (!28) hp (l1.app l2)⟩;rw[length_append]at g2;rw[<-l1.len,<-l2.len];exact Oi g2
end
theorem CN:typeLookup (.type "list_reverseiterator") "__len__"=pure none:=by constructor<;>grind
theorem zh:typeLookup (.type "list_reverseiterator") "__length_hint__"=pure (some (.builtin "list_reverseiterator.__length_hint__")):=by constructor<;>grind
section
variable {prog:Program} {w:World} {A:Around} {E:NJ} {s:Shared}
theorem zi (J:s.heap.IsRevIter j l i) (h:Q false s):wpAny (!2) A (Builtin.List.listLengthHint (.ref j)) Q E s:=by
 refine NW (wpAny_specialOf J.typeIs CN ?_);refine NW (wpAny_specialOf J.typeIs zh ?_);generalize hid:("list_reverseiterator.__length_hint__":String)=id0;wp_delta;rw[show splitId id0=some ("list_reverseiterator","__length_hint__")from by subst hid;decide+kernel];subst hid;refine NW (wpAny_isInstance (b:=true) J.typeIs (by rw[isSubtype_type];kernel_rfl) ?_);refine wpAny_ite_split (λhab=>absurd hab (!4)) (λ_=>?_);refine wpAny_ite_split (λ_=>?_) (λhab=>absurd (!13) hab);refine wpAny_ite_split (λhab=>absurd hab (!13)) (λ_=>?_);exact NY h
theorem vf (hh:A.handled=none) (J:s.heap.IsRevIter j l ((xs.size:Int)-1)) (C:s.heap.IsList l xs) (ne:l≠j) (hS:s.heap.get? S=some {cls:=.type "list",data:=.seq #[] c₀}) (nj:S≠j) (nl:S≠l) (hn:xs.size<=sizeLine) (hR:∀g tk acc c,(∀d o,d≠S->d≠j->s.heap.get? d=some o->g.get? d=some o)->g.get? S=some {cls:=.type "list",dict:=none,data:=.seq acc c,slots:=#[]}->
   ItemsOf (λi v=>xs[xs.size-1-i]?=some v) acc xs.size->R (.ok (.ret res)) {s with heap:=g,toks:=tk}):
  wpAny (!2) A.in1 (Builtin.List.listExtendWith (.ref S) (.ref j) res)
   (λfin s'=>match fin with|.done f=>R (.ok f) s'|.again c'=>c'.quiet=true/\codeAny (!2) A c' R s') (λe s'=>R (.error e) s') s:=by
 have W:=(Walks.listRev (prog:=prog) (w:=w) (A:=A.in1) hh j l ne xs).toS
 refine NW (wpAny_typeOf J.typeIs ?_)
 have h1:Builtin.List.listSameRef (.ref S) (.ref j)=false:=by simp[Builtin.List.listSameRef,nj]
 have h2:(Value.type "list_reverseiterator"==Value.type "list")=false:=by decide
 have h3:(Value.type "list_reverseiterator"==Value.type "tuple")=false:=by decide
 simp only[h1,h2,h3,Bool.or_false,Bool.false_eq_true,if_false]
 refine NW (wpAny_pyIter_revIter J (NW (wpAny_holding (zi J ?_))))
 refine wpAny_ite_split (λhab=>absurd hab (!13)) (λ_=>NY ⟨plainId_quiet F.plain_extend_loop _,?_⟩)
 refine codeAny_extend_loopS W hn S (by simp[nj,nl]) res xs.size 0 _ #[] c₀ rfl (Nat.zero_le _) ⟨Nat.zero_le _,by simpa using J,C⟩ hS (ItemsOf.nil _) λs' acc c hm hS' hacc=>?_
 rw[Moved.eq_with hm]
 exact hR s'.heap s'.toks acc c (λd o n1 n2 e=>hm.heap d o (by simp[n1,n2]) e) hS' hacc
theorem zj (hh:A.handled=none) (J:s.heap.IsRevIter j l ((xs.size:Int)-1)) (C:s.heap.IsList l xs) (ne:l≠j) (hn:xs.size<=sizeLine) (hQ:∀g tk acc c,(∀d o,d≠j->s.heap.get? d=some o->g.get? d=some o)->g.get? s.heap.objs.size=some {cls:=.type "list",dict:=none,data:=.seq acc c,slots:=#[]}->
   ItemsOf (λi v=>xs[xs.size-1-i]?=some v) acc xs.size->Q (!32) {s with heap:=g,toks:=tk}):wpAny (!2) A (call (.type "list") [.ref j]) Q E s:=by
 have jl:j<s.heap.objs.size:=by obtain⟨o,e,_⟩:=J;exact N1 e
 have ll:l<s.heap.objs.size:=by obtain⟨o,e,_⟩:=C;exact N1 e
 refine callType_codes (Q₁:=λobj z=>obj=.ref s.heap.objs.size/\z={s with heap:=s.heap.push {cls:=.type "list",data:=.seq #[]}}) F.called_list (F.typeCall_list_1 _) F.entry_list_init (code_list_new _ ⟨rfl,rfl⟩) λobj z hz=>?_
 obtain⟨rfl,rfl⟩:=hz
 have hS:(s.heap.push {cls:=.type "list",data:=.seq #[]}).get? s.heap.objs.size=some {cls:=.type "list",data:=.seq #[]}:=N2 _ rfl
 refine⟨⟨_,hS,rfl⟩,F.args_list_init_2 _ _,?_⟩
 refine NW ?_
 refine NW (wpAny_seqItems hS rfl (NY ?_))
 refine NW (wpAny_updateSeq hS rfl (NW (wpAny_letGo ?_)))
 have hS2:=Heap.get?_update_self (Obj.mapSeq (λ_=>(#[]:Array Value))) hS rfl
 have up:∀d o,d≠s.heap.objs.size->s.heap.get? d=some o->((s.heap.push {cls:=.type "list",data:=.seq #[]}).update s.heap.objs.size (Obj.mapSeq (λ_=>(#[]:Array Value)))).get? d=some o:=
  λd o n e=>(Heap.get?_update_other _ _ (Ne.symm n)).trans (NX _ e)
 refine vf hh (J.at λo e=>up _ o (Ob jl) e) (C.at λo e=>up _ o (Ob ll) e) ne hS2 (Nat.ne_of_gt jl) (Nat.ne_of_gt ll) hn λg tk acc c k hg hi=>?_
 exact⟨rfl,hQ g tk acc c (λd o n e=>k d o (Ob (N1 e)) n (up d o (Ob (N1 e)) e)) hg hi⟩
theorem nZ {xs acc:Array Value} (h:ItemsOf (λi v=>xs[xs.size-1-i]?=some v) acc xs.size):acc.toList=xs.toList.reverse:=by
 apply List.ext_getElem?;intro i;by_cases hi:i<xs.size
 ·have h1:i<acc.size:=by rw[h.1];exact hi
  have e:=h.2 i _ (Array.getElem?_eq_getElem h1);rw[List.getElem?_reverse (by simpa using hi),Array.getElem?_toList,Array.getElem?_toList,Array.getElem?_eq_getElem h1,<-e];simp
 ·rw[List.getElem?_eq_none (by rw[Array.length_toList,h.1];omega),List.getElem?_eq_none (by rw[List.length_reverse,Array.length_toList];omega)]
end
section
variable {X:Cx} {a:Expr} {p p2 pos pos2:Pos}
theorem zk:bootBuiltins "reversed"=some (.type "reversed"):=by decide+kernel
theorem EB:bootBuiltins "list"=some (.type "list"):=by decide+kernel
def Ma (K:Frag) (ta:TA):TE:=λY H Q=>ta Y H λvs H1=>∃l xs,vs=[.ref l]/\SqL K H1 l xs/\∀q,H1 q=none->Q (.ref q) (upd H1 q (.lst xs.reverse))
theorem GC (hc:X.calm=true) (hg:Gl X "list") (hm:X.mg "list"=none) (hg2:Gl X "reversed") (hm2:X.mg "reversed"=none) (ha:PA X [a] ta) (hs:starEach [a] X.env=[(false,eval a X.env)]):
  PE X (.Call (.Name "list" p) [.Call (.Name "reversed" p2) [a] [] pos2] [] pos) (Ma X.K ta):=by
 intro pins s Y H Q I h
 refine wpAny_Call_Name_kw (ce I hg hm EB (PyProof.Rows.callWith_type1 ?_ rfl rfl))
 show wpAny _ _ (spliced ((false,eval (.Call (.Name "reversed" p2) [a] [] pos2) X.env)::[])) _ _ s
 refine Calls.spliced_cons ?_
 refine wpAny_Call_Name_kw (ce I hg2 hm2 zk (PyProof.Rows.callWith_type1 (thn (ha pos2 pins s Y H _ I h) λus s1 ⟨vs,H1,I1,r1,q1⟩=>?_) (by rw[hs];rfl) rfl))
 obtain⟨l,xs,rfl,hx,q⟩:=q1
 obtain⟨u,rfl,ru⟩:=eW r1
 cases ru
 obtain⟨its,rv,pl,hz⟩:=I1.list hx
 have C:=pl.isList
 have ll:l<s1.heap.objs.size:=by obtain⟨o,e,_⟩:=C;exact N1 e
 refine call_reversed_list C (Calls.spliced_nil ?_)
 have up:∀d o,s1.heap.get? d=some o->(s1.heap.push (revObj l ((its.toArray.size:Int)-1))).get? d=some o:=λd o e=>NX _ e
 have I2:Inv X pins Y H1 {s1 with heap:=s1.heap.push (revObj l ((its.toArray.size:Int)-1))}:=I1.kept up
 have hl:=rv.length
 refine zj (I1.ok.hd hc) ⟨_,N2 _ rfl,rfl,rfl⟩ (C.at λo e=>up _ o e) (Ob ll) (by rw[size_toArray];omega) λg tk acc c k hgS hi=>?_
 have e:=nZ hi
 have fr:=I2.hok.fresh (Om _)
 refine⟨.ref _,_,I2.turnedNew (ch:=[s1.heap.objs.size]) (λb hb=>?_) (λb o hb e=>k b o (by simpa using hb) e) (Om _) ?_,rfl,q _ fr⟩
 ·rw[mem_singleton.mp hb];exact I1.fpOk (Om _) (I1.hok.fresh (Om _))
 ·refine⟨by rw[List.length_reverse];exact hz,its.reverse,c,rv.reverse,?_⟩;have e2:acc=its.reverse.toArray:=by
   apply Array.toList_inj.mp;rw[e]
  rw[<-e2];exact hgS
def revD:NS->NI:=un1 λd=>(fu d).bind λds=>some ds.reverse
theorem IsL.rev {K}:∀ {ds:NS} {xs:List V},IsL K H ds xs->IsL K H ds.reverse xs.reverse
 |[],xs,h=>by cases h;rfl
 |d::ds,xs,⟨x,r,e,h,l⟩=>by
  subst e;rw[List.reverse_cons,List.reverse_cons];exact(IsL.rev l).app ⟨_,_,rfl,h,rfl⟩
theorem GD (hc:X.calm=true) (hg:Gl X "list") (hm:X.mg "list"=none) (hg2:Gl X "reversed") (hm2:X.mg "reversed"=none) (ha:PX X [a] fa) (hs:starEach [a] X.env=[(false,eval a X.env)]):
  PF X (.Call (.Name "list" p) [.Call (.Name "reversed" p2) [a] [] pos2] [] pos) (λU=>(fa U).bind revD):=λO U=>(GC hc hg hm hg2 hm2 (ha O U) hs).imp λY H Q ⟨E,ds,q,k⟩=>by
 obtain⟨as,e1,q⟩:=Op q
 refine⟨E,as,e1,λvs H1 s1 il=>?_⟩
 obtain⟨c,rfl,q2⟩:=aW q
 obtain⟨xs,q3,q4⟩:=Op q2
 cases q4
 obtain⟨v,rfl,h⟩:=is1 il
 obtain⟨l,ys,rfl,t,l2⟩:=cA q3 h
 exact⟨l,ys,rfl,msk_le.seq t,λb hb=>k b _ H1 s1 hb l2.rev⟩
end
theorem wR (l:Addr) (xs:Array Value) (n:Nat) (m:Addr) (ys:Array Value) (k:Nat) (dd:Option Addr) (sl:Array (NM)) (hc0:¬(!xs.isEmpty&&Builtin.List.listTooLong (xs.size+ys.size))=true) (hc1:xs.size<=sizeLine) (hs2:xs.size+ys.size<=sizeLine+1):
  Meets (Builtin.«list.extend» ⟨[.ref l,.ref m],[]⟩) (λ_ R s=>s.heap.get? l=some {cls:=.type "list",dict:=none,data:=.seq xs n,slots:=#[]}/\s.heap.get? m=some {cls:=.type "list",dict:=dd,data:=.seq ys k,slots:=sl}/\R (.ok (.ret Value.none)) {s with heap:=s.heap.update l (Obj.mapSeq λx=>x++ys),toks:=s.toks}):=
 .of_wp λprog w A R s h=>by
  obtain⟨hp,g,d,tk,os⟩:=s;obtain⟨hl,hb,h⟩:=h;have f1:=AutoSeq1.idx_int;have f2:=AutoSeq1.sub_tuple_tuple;have f3:=AutoSeq1.sub_list_list;have f4:=AutoSeq1.sub_tuple_list;have f5:=AutoSeq1.sub_list_tuple;have hz':(xs++ys).size<=sizeLine+1:=by rw[Array.size_append];exact hs2
  wp_walk using (wpAny_updateSeq hl rfl),AutoSeq1.wpAny_loadPart' hl,AutoSeq1.wpAny_loadPart' hb;exact⟨_,rfl,h⟩
def JV (K:Frag):V->List V->Hp->VK->Prop:=λx vs H Q=>∃l m xs zs,x=.ref l/\vs=[.ref m]/\H l=some (.lst xs)/\SqL K H m zs/\xs.length+zs.length<=sizeLine/\Q .non (upd H l (.lst (xs++zs)))
theorem vg:MtM X "list.extend" (JV X.K):=by
 intro pins s Y H x vs v us Q I rx rv h;obtain⟨l,m,xs,zs,rfl,rfl,hH,hB,hz,q⟩:=h;cases rx;obtain⟨u,rfl,ru⟩:=rv.one;cases ru;obtain⟨z,its,n,r,hl,e⟩:=I.lstM hH;obtain⟨jts,r2,⟨⟨c2,d2,t2,s2⟩,n2,e2,k2,_,w2⟩,_⟩:=I.list hB;subst k2 w2;have hl2:=r2.length;have hsz:its.toArray.size+jts.toArray.size<=sizeLine:=by rw[size_toArray,size_toArray];omega
 have hlong:¬ (!its.toArray.isEmpty&&Builtin.List.listTooLong (its.toArray.size+jts.toArray.size))=true:=by
  rw[yt hsz,Bool.and_false];exact N3
 refine call_meets F.slot_list_extend ⟨_,e,rfl⟩ F.entry_list_extend (F.args_list_extend_2 _ _) (wR l its.toArray n m jts.toArray n2 d2 s2 hlong (by rw[size_toArray];omega) (!1)) ⟨e,e2,?_⟩;refine⟨.non,_,I.lset hH e (by simp) (r.append r2) ?_,rfl,q⟩;grind
noncomputable def extS (d:D):Sl:=if lfD d then(.deep,d)else(.sh,d)
def extC:Cat->NS->Cat
 |c,[]=>c
 |c,d::ds=>extC (newCat c (extS d)) ds
section
variable {K:Frag} {B:Bs}
theorem EnvOk.moreS (E:EnvOk K B O Y H U) (h:Is K (msk O H) d v):EnvOk K B O (Y++[some v]) H (U++[some (extS d)]):=by
 unfold extS;split
 ·rename_i f;exact E.more (A:=[]) (Same.refl _) (Same.refl _) (λ_ h=>.inl h) (λ_ h=>h) (λ_ h=>(nomatch h)) (λ_ h=>(nomatch h)) List.nodup_nil (λ_ h=>(nomatch h)) (Is.deep d v f h)
 ·exact E.moreSh h
theorem wS (c:Cat) (s:Sl):newCat c s≠.sh:=by unfold newCat;split<;>intro z<;>cases z
theorem zm (h:H a=some o):upd H a o=H:=by
 funext b;by_cases e:b=a
 ·subst e;rw[ai,h]
 ·rw[ag e]
theorem EnvOk.extend {i:Nat}:∀ {es:NS} {zs:List V} {O:NR} {H:Hp} {U:Ev} {c:Cat} {ds:NS},EnvOk K B O Y H U->U[i]?=some (some (c,.lst ds))->c≠.sh->IsL K (msk O H) es zs->
  ∃a xs,Y[i]?=some (some (.ref a))/\H a=some (.lst xs)/\ds.length=xs.length/\∃O',EnvOk K B O' Y (upd H a (.lst (xs++zs))) (U.set i (some (extC c es,.lst (ds++es))))/\Same (msk O H) (msk O' (upd H a (.lst (xs++zs))))
 |[],zs,O,H,U,c,ds,E,h,hc,l=>by
  have l':zs=[]:=l;subst l';obtain⟨a,xs,e1,e2,e3,_⟩:=E.ownAt h hc;refine⟨a,xs,e1,e2,e3,O,?_,?_⟩
  ·rw[List.append_nil,List.append_nil,zm e2];show EnvOk K B O Y H (U.set i (some (c,.lst ds)));rw[show U.set i (some (c,D.lst ds))=U from by
    obtain⟨hi,e⟩:=List.getElem?_eq_some_iff.mp h;rw[<-e];exact List.set_getElem_self hi]
   exact E
  ·rw[List.append_nil,zm e2];exact Same.refl _
 |d::es,zs,O,H,U,c,ds,E,h,hc,l=>by
  obtain⟨z,r,rfl,hz,l⟩:=l;obtain⟨a,xs,e1,e2,e3,O1,E1,s1⟩:=(E.moreS hz).change fC y8 y9 h hc;have hi:=(N4.mp h).1;have h2:(U.set i (some (newCat c (extS d),.lst (fC ds (extS d).2))))[i]?=some (some (newCat c (extS d),.lst (fC ds (extS d).2))):=by rw[List.getElem?_set_self hi]
  obtain⟨a',xs',f1,f2,f3,O2,E2,s2⟩:=EnvOk.extend E1 h2 (wS _ _) (IsL.mono s1 _ _ l);rw[e1]at f1;cases f1;rw[ai]at f2;cases f2;rw[BH]at E2 s2;rw[List.set_set]at E2;have ed:(extS d).2=d:=by unfold extS;split<;>rfl
  rw[ed]at E2;unfold fC at E2 s1 s2;rw[List.append_assoc,List.append_assoc]at E2;rw[List.append_assoc]at s2;exact⟨a,xs,e1,e2,e3,O2,E2,s1.trans s2⟩
end
section
variable {X:Cx} {e:Expr} {pos:Pos}
def extA (i:Nat) (R:wp):Cl:=λU=>(ownL U i).bind λw=>(R (shv U)).bind λd=>(fu d).bind λes=>if w.2.length+es.length<big then some (.nx (U.set i (some (extC w.1 es,.lst (w.2++es)))))else none
theorem tN (i:Nat) (h:PP X e R) (hN:X.N[i]?=some x) (hv:Vis X.env.scope x) (hd:(!7)=false) (hcd:(!10)=false) (hst:starEach [e] X.env=(false,eval e X.env)::starEach [] X.env) (hline:(!25)=true):PR X (.Expr (.Call (.Attribute (!17) "extend" apos) [e] [] cpos) pos) (extA i R):=λB O U=>
 (eD (qI PySem.F.plainAttrs_list PySem.F.slot_list_extend PySem.F.type_list_extend vg (cc hN hv hd hcd) (dE (h O _) pa_nil hst) rfl (by rw[hst];rfl) hline hst rfl)).imp λEn Y H ⟨E,o,q,k⟩=>by
 obtain⟨⟨c,ds⟩,q1,q⟩:=Op q;obtain⟨d,q2,q⟩:=Op q;obtain⟨es,q3,q⟩:=Op q;obtain⟨hz,q⟩:=az q;subst q;obtain⟨h0,hc0⟩:=bN q1;obtain⟨a,xs0,e1,r3,_⟩:=E.ownAt h0 hc0;refine⟨.ref a,e1,.inl ⟨rfl,_,SqL.of r3⟩,E.viewS,d,q2,λv H1 s1 i1=>?_⟩;obtain⟨m,zs,rfl,t,l⟩:=cA q3 i1;obtain⟨a',xs,e2,r4,hl,O2,E2,s2⟩:=(E.grow s1).extend h0 hc0 l;rw[e1]at e2;cases e2;exact⟨a,m,xs,zs,rfl,rfl,r4,msk_le.seq t,by rw[<-hl,<-l.len,gN];exact Oi hz,k Y _ O2 (s1.msk.trans s2) E2⟩
def JW (i:Nat) (R:wp):Cl:=λU=>(ownL U i).bind λw=>(R (vw U)).bind λd=>(fu d).bind λes=>if w.2.length+es.length<big/\lfL es=true then some (.nx (U.set i (some (extC w.1 es,.lst (w.2++es)))))else none
theorem tO (i:Nat) (h:PP X e R) (hN:X.N[i]?=some x) (hv:Vis X.env.scope x) (hd:(!7)=false) (hcd:(!10)=false) (hst:starEach [e] X.env=(false,eval e X.env)::starEach [] X.env) (hline:(!25)=true):PR X (.Expr (.Call (.Attribute (!17) "extend" apos) [e] [] cpos) pos) (JW i R):=λB O U=>
 (eD (qI PySem.F.plainAttrs_list PySem.F.slot_list_extend PySem.F.type_list_extend vg (cc hN hv hd hcd) (dE (h noO (vw U)) pa_nil hst) rfl (by rw[hst];rfl) hline hst rfl)).imp λEn Y H ⟨E,o,q,k⟩=>by
 obtain⟨⟨c,ds⟩,q1,q⟩:=Op q;obtain⟨d,q2,q⟩:=Op q;obtain⟨es,q3,q⟩:=Op q;obtain⟨⟨hz,lf⟩,q⟩:=az q;subst q;obtain⟨h0,hc0⟩:=bN q1;obtain⟨a,xs0,e1,r3,_⟩:=E.ownAt h0 hc0;refine⟨.ref a,e1,.inl ⟨rfl,_,SqL.of r3⟩,E.view,d,q2,λv H1 s1 i1=>?_⟩;obtain⟨m,zs,rfl,t,l⟩:=cA q3 i1;obtain⟨a',xs,e2,r4,hl,O2,E2,s2⟩:=(E.grow s1).extend h0 hc0 (IsL.nl (E.grow s1).nl _ _ lf l.full);rw[e1]at e2;cases e2;exact⟨a,m,xs,zs,rfl,rfl,r4,msk_le.seq t,by rw[<-hl,<-l.len,gN];exact Oi hz,k Y _ O2 (s1.msk.trans s2) E2⟩
def tR (i:Nat) (R:wp):Cl:=orO (extA i R) (JW i R)
theorem wT (i:Nat) (h:PP X e R) (hN:X.N[i]?=some x) (hv:Vis X.env.scope x) (hd:(!7)=false) (hcd:(!10)=false) (hst:starEach [e] X.env=(false,eval e X.env)::starEach [] X.env) (hline:(!25)=true):PR X (.Expr (.Call (.Attribute (!17) "extend" apos) [e] [] cpos) pos) (tR i R):=
 nW (tN i h hN hv hd hcd hst hline) (tO i h hN hv hd hcd hst hline)
end
theorem slot_rt_next:Slot "reversed" "__next__" "reversed.__next__":=
 .of (owner:="reversed") (n:="__next__") (by rw[typeLookup_type,builtinLookup_eq_fast];kernel_rfl) (!13) (!13) (!13)
  (by first|exact .inl (!13)|exact .inr (!13)) (by rw[isSubtype_type];kernel_rfl)
theorem gv:entryFor table "reversed.__next__"=some Builtin.«reversed.__next__»:=entryFor_of_tree (!5)
theorem iz (a:Value):argsOk "reversed.__next__" ⟨[a],[]⟩:=by unfold argsOk;kernel_rfl
theorem iA:Slot "reversed" "__iter__" "reversed.__iter__":=
 .of (owner:="reversed") (n:="__iter__") (by rw[typeLookup_type,builtinLookup_eq_fast];kernel_rfl) (!13) (!13) (!13)
  (by first|exact .inl (!13)|exact .inr (!13)) (by rw[isSubtype_type];kernel_rfl)
theorem pD (a:Value):argsOk "reversed.__iter__" ⟨[a],[]⟩:=by unfold argsOk;kernel_rfl
theorem m5:entryFor table "reversed.__iter__"=some Builtin.«dict_keyiterator.__iter__»:=
 entryFor_alias (id':="dict_keyiterator.__iter__") (!5) (by first|rfl|decide+kernel|(unfold String.splitOn;simp+decide [String.splitOnAux])) (!13) (!5)
theorem pE:Slot "reversed" "__init__" "object.__init__":=
 .of (owner:="object") (n:="__init__") (by rw[typeLookup_type,builtinLookup_eq_fast];kernel_rfl) (!13) (!13) (!13)
  (by first|exact .inl (!13)|exact .inr (!13)) (by rw[isSubtype_type];kernel_rfl)
theorem called_rt:TypeCalled "reversed" "reversed.__new__" "object.__init__":=
 ⟨by decide+kernel,by decide+kernel,⟨_,_,F.mro_reversed⟩,F.made_reversed,by decide+kernel,by rw[isSubtype_type];kernel_rfl,pE⟩
theorem wU:typeLookup (.type "tuple") "__reversed__"=pure none:=by constructor<;>grind
theorem tT:isSubtype (.type "tuple") (.type "dict")=pure false:=by rw[isSubtype_type];kernel_rfl
noncomputable def rtO (t:Addr) (i:Int):Obj:={cls:=.type "reversed",data:=.fields #[.ref t,rawInt i]}
def IsRT (h:Heap) (a t:Addr) (i:Int):Prop:=∃o,h.get? a=some o/\o.cls=.type "reversed"/\o.data=.fields #[.ref t,rawInt i]
section
variable {prog:Program} {w:World} {A:Around} {E:NJ} {s:Shared}
theorem IsRT.typeIs (x:IsRT s.heap a t i):s.TypeIs (.ref a) "reversed":=let⟨o,ho,hc,_⟩:=x;⟨o,ho,hc⟩
theorem IsRT.at (x:IsRT h a t i) (e:∀o,h.get? a=some o->h'.get? a=some o):IsRT h' a t i:=let⟨o,ho,r⟩:=x;⟨o,e _ ho,r⟩
theorem CO (ht:IsTup s.heap t items):s.TypeIs (.ref t) "tuple":=let⟨o,ho,hc,_⟩:=ht;⟨o,ho,hc⟩
theorem qV (ht:IsTup s.heap t items) (hz:items.size<=sizeLine) (h:∀tk,Q₁ (!32) {s with heap:=s.heap.push (rtO t ((items.size:Int)-1)),toks:=tk}):
  codeAny (!2) A (.call (.builtin "reversed.__new__") ⟨[.type "reversed",.ref t],[]⟩) (wants Q₁ E) s:=by
 refine codeAny_of_tree ?_
 refine NW (Od (F.newCall_reversed_1 _) (NY ⟨plainId_quiet F.plain_reversed_new _,codeAny_builtin F.entry_reversed_new ?_⟩))
 refine NW (Od (newClass_reversed _) ?_)
 refine NW (Od (by first|rfl|kernel_rfl) ?_)
 refine NW (Od (by first|rfl|kernel_rfl) ?_)
 refine NW (wpAny_specialOf (CO ht) wU ?_)
 refine NW ?_
 wp_delta
 refine NW (wpAny_isInstance (CO ht) tT ?_)
 refine NW (wpAny_specialOf (CO ht) slot_tuple_getitem.lookup ?_)
 refine NY ?_
 refine NW (len_tuple ht (by have:=gH;omega) ?_)
 refine NW (Od rfl ?_)
 refine NW ?_
 show wpAny _ _ (newObj (.type "reversed") (.fields #[.ref t,rawInt ((items.size:Int)-1)])) _ _ _
 exact wpAny_newObj_type (NY (h _))
theorem CP (ht:IsTup s.heap t items) (hz:items.size<=sizeLine) (h:∀tk,Q (!32) {s with heap:=s.heap.push (rtO t ((items.size:Int)-1)),toks:=tk}):wpAny (!2) A (call (.type "reversed") [.ref t]) Q E s:=by
 refine callType_codes (Q₁:=λobj s₁=>s₁.TypeIs obj "reversed"/\Q obj s₁) called_rt (F.typeCall_reversed_1 _) F.entry_object_init
  (qV ht hz λtk=>⟨⟨_,N2 _ rfl,rfl⟩,h tk⟩) λobj s₁ h₁=>?_
 exact⟨h₁.1,F.args_object_init_2 obj _,object_init_meets called_rt.init.lookup called_rt.made (!4) prog w A.in1 _ s₁ ⟨h₁.1,rfl,h₁.2⟩⟩
theorem vh (hit:IsRT s.heap it t i) (h:Q (.ref it) s):wpAny (!2) A (pyIter (.ref it)) Q E s:=by
 refine wpAny_pyIter_slot hit.typeIs iA (wpAny_call_entry iA hit.typeIs m5 ?_ (pD _));exact NY ⟨_,rfl,"reversed",_,hit.typeIs,slot_rt_next.lookup,h⟩
theorem CQ {i:Nat} (hit:IsRT s.heap it t (i:Int)) (ht:IsTup s.heap t items) (hz:items.size<=sizeLine) (hx:items[i]?=some x) (hQ:∀h' tk,IsRT h' it t ((i:Int)-1)->Heap.SameBut it s.heap h'->Q (some x) {s with heap:=h',toks:=tk}):wpAny (!2) A (pyNext (.ref it)) Q E s:=by
 obtain⟨o,ho,hc,hd⟩:=id hit;have hi:=(Array.getElem?_eq_some_iff.mp hx).1;have h63:=gH;refine NW (wpAny_attempt (wpAny_callSpecial?_slot hit.typeIs slot_rt_next
  (wpAny_call_entry slot_rt_next hit.typeIs gv ?_ (iz _))))
 refine NW (Od rfl ?_);refine NW (wpAny_field ho hd (x:=.ref t) rfl ?_);refine NW (wpAny_field ho hd rfl ?_);refine NW (wpAny_specialOf (CO ht) slot_tuple_getitem.lookup ?_);refine NW (wpAny_mkInt ?_);refine NW (wpAny_attempt (getItem_tuple ht (!1) (!1) (by
  simp only[seqIndex?];rw[if_neg (show¬ ((i:Nat):Int)<0 by omega),if_pos (by rw[and_eq_true];exact⟨decide_eq_true (!1),decide_eq_true (!1)⟩)];rfl) hx ?_))
 refine NW (wpAny_field ho hd rfl ?_);refine NW (wpAny_setField ho hd (by simp) ?_);refine NY ⟨x,rfl,NY (hQ _ _ ?_ (Heap.SameBut.update ..))⟩;exact⟨_,Heap.get?_update_self _ ho (Obj.isFreed_of_fields (Obj.data_mapFields hd _)),(Obj.cls_mapFields ..).trans hc,by
  rw[Obj.data_mapFields hd];simp⟩
theorem GE (hh:A.handled=none) (hit:IsRT s.heap it t (-1)) (hQ:∀h',Heap.ExtBut it s.heap h'->Q none {s with heap:=h'}):wpAny (!2) A (pyNext (.ref it)) Q E s:=by
 obtain⟨o,ho,hc,hd⟩:=id hit
 refine NW (wpAny_attempt (wpAny_callSpecial?_slot hit.typeIs slot_rt_next
  (wpAny_call_entry slot_rt_next hit.typeIs gv ?_ (iz _))))
 refine NW (Od rfl ?_)
 refine NW (wpAny_field ho hd (x:=.ref t) rfl ?_)
 refine NW (wpAny_field ho hd rfl ?_)
 refine NW (wpAny_rule ?_)
 refine NW ?_
 wp_delta
 refine NW (wpAny_setField ho hd (by simp) ?_)
 refine wpAny_setField (Heap.get?_update_self _ ho (Obj.isFreed_of_fields (Obj.data_mapFields hd _))) (Obj.data_mapFields hd _) (by simp) ?_
 obtain⟨H2,hH⟩:∃H2,H2=(s.heap.update it (Obj.mapFields λx=>x.setIfInBounds 1 (rawInt (-1)))).update it (Obj.mapFields λx=>x.setIfInBounds 0 Value.none):=⟨_,rfl⟩
 have hE:Heap.ExtBut it s.heap H2:=by
  rw[hH]
  exact(Heap.SameBut.update ..).extBut.trans (Heap.SameBut.update ..).extBut
 rw[<-hH]
 first
 |show wpAny _ _ (newExc (.type "StopIteration") []>>=_) _ _ _
 |(refine NW ?_;show wpAny _ _ (newExc (.type "StopIteration") []>>=_) _ _ _)
 refine NW ?_
 refine NW (wpAny_newObj_type ?_ (by size_fits))
 refine NW (Od (by first|rfl|(simp only[firstArgMember];rfl)) ?_)
 refine wpAny_newObj_type ?_ (by size_fits)
 refine NW (wpAny_handled ?_)
 first|rw[show A.in1.handled=none from hh]|rw[hh]
 refine NW (NY (wpAny_throw ?_))
 refine NW (wpAny_isInstance ⟨_,N2 _ rfl,rfl⟩ isSubtype_stop ?_)
 exact NY (hQ _ ((hE.push _).push _))
noncomputable def Itv (K:Frag) (a:Addr) (n:Nat):It:=
 ⟨λi H=>∃xs x,SqT K H a xs/\xs.length=n/\xs.reverse[i]?=some x,λi H x H'=>H'=H/\∀xs,SqT K H a xs->xs.reverse[i]?=some x,λi _=>n<=i⟩
theorem CS {P:Program} {w:World} {K:Frag} {tg:Expr} (a it:Addr) (n:Nat):Turn P w K tg (Itv K a n) [it] it (λi h=>IsRT h it a ((n:Int)-1-(min i n:Nat))) where
 mem:=by simp
 obj:=λi h st b hb=>by
  have e:b=it:=by simpa using hb
  subst e;obtain⟨o,e,c,d⟩:=st;exact⟨o,e,λv z=>by rw[d]at z;cases z⟩
 keep:=λi h h' st k=>st.at λo e=>k it (by simp) o e
 item:=by
  intro X hP hw hK hc i pins s Y H E I hf st hg;subst hP hw hK;obtain⟨xs,x,hq,hn,hx⟩:=hg;subst hn;obtain⟨its,rv,p,hz⟩:=I.tuple hq;have hi:i<xs.length:=by
   have:=(N4.mp hx).1;rwa [List.length_reverse]at this
  have hl:=rv.length;rw[List.getElem?_reverse hi]at hx;obtain⟨u,hu,ru⟩:=rv.get hx;obtain⟨f0,f1,f2,f3,f4,f5⟩:=hf it (by simp);have ei:((xs.length:Nat):Int)-1-((min i xs.length:Nat):Int)=((xs.length-1-i:Nat):Int):=by omega
  have st:=ei▸st;refine CQ st p (by rw[size_toArray];omega) (by simpa using hu) λh' tk st' sb=>?_;have I1:Inv X pins Y H {s with heap:=h',toks:=tk}:=I.turned (λb o hb e=>(sb.2 b hb).trans e) f0 f1 f3 f4 f5;obtain⟨o,e,c,d⟩:=id st';refine⟨u,rfl,qF e c d (!4) ⟨x,H,I1,ru,⟨rfl,λys hy=>by rw[I.tuple_inj hy hq,List.getElem?_reverse hi];exact hx⟩,?_,λb hb=>(hf b hb).1⟩⟩;have ej:((xs.length-1-i:Nat):Int)-1=((xs.length:Nat):Int)-1-((min (i+1) xs.length:Nat):Int):=by omega
  exact ej▸st'
 done:=by
  intro X hP hw hK hc i pins s Y H E I hf st hg;have hg:n<=i:=hg;obtain⟨f0,f1,f2,f3,f4,f5⟩:=hf it (by simp);have ei:((n:Nat):Int)-1-((min i n:Nat):Int)= -1:=by omega
  exact GE (I.ok.hd hc) (ei▸st) λh' eb=>⟨rfl,I.turned (λb o hb e=>eb b o hb e) f0 f1 f3 f4 f5⟩
 self:=λ_ _ _ _ _ st h=>vh st h
theorem CT {K} (q:SqT K Hm a xs) (il:IsL K Hm ds xs):jS K Hm (Itv K a xs.length) ds.reverse:=λi H O s hd=>by
 have q':=(s.trans msk_le).seqT q;have ir:=il.rev;refine⟨λd hi=>?_,λhi=>?_⟩
 ·obtain⟨x,hx,ix⟩:=ir.get hi;refine⟨⟨xs,x,q',rfl,hx⟩,λy H3 ⟨e,hy⟩=>?_⟩;subst e;have:=hy xs q';rw[hx]at this;cases this;exact⟨Same.refl _,Is.mono s d x ix⟩
 ·show xs.length<=i;rw[<-il.len,<-List.length_reverse];exact hi
end
section
variable {X:Cx} {tg a:Expr} {p pos:Pos}
def iRt (K:Frag) (ta:TA):TI:=λY H R=>ta Y H λvs H1=>∃t xs,vs=[.ref t]/\SqT K H1 t xs/\R (Itv K t xs.length) H1
theorem JY (hg:Gl X "reversed") (hm:X.mg "reversed"=none) (ha:PA X [a] ta) (hs:starEach [a] X.env=[(false,eval a X.env)]):PI X tg (.Call (.Name "reversed" p) [a] [] pos) (iRt X.K ta):=by
 intro pins s Y H R I h;refine wpAny_Call_Name_kw (ce I hg hm zk (PyProof.Rows.callWith_type1 (thn (ha pos pins s Y H _ I h) λus s1 ⟨vs,H1,I1,r1,q1⟩=>?_) (by rw[hs];rfl) rfl));obtain⟨t,xs,rfl,hx,q⟩:=q1;obtain⟨u,rfl,ru⟩:=eW r1;cases ru;obtain⟨its,rv,pl,hz⟩:=I1.tuple hx;have hl:=rv.length;refine CP pl (by rw[size_toArray];omega) λtk=>?_;have J:IsRT (s1.heap.push (rtO t ((its.toArray.size:Int)-1))) s1.heap.objs.size t ((its.toArray.size:Int)-1):=⟨_,N2 _ rfl,rfl,rfl⟩;refine vh J ?_;refine⟨s1.heap.objs.size,[s1.heap.objs.size],_,_,H1,rfl,I1.kept λb o e=>NX _ e,CS t _ xs.length,?_,λb hb=>?_,q⟩
 ·have e:((xs.length:Nat):Int)-1-((min 0 xs.length:Nat):Int)=(its.toArray.size:Int)-1:=by rw[size_toArray,<-hl];omega
  rw[e];exact J
 ·have e:b=s1.heap.objs.size:=by simpa using hb
  subst e;exact I1.fpOk (Om _) (I1.hok.fresh (Om _))
def rvT:NS->NI:=un1 λd=>(FY d).bind λds=>some ds.reverse
theorem JZ (hg:Gl X "reversed") (hm:X.mg "reversed"=none) (ha:PX X [a] fa) (hs:starEach [a] X.env=[(false,eval a X.env)]):PJ X tg (.Call (.Name "reversed" p) [a] [] pos) (λU=>(fa U).bind rvT):=
 λO U=>(JY hg hm (ha O U) hs).imp λY H R ⟨E,ds,q,k⟩=>by
 obtain⟨as,e1,q⟩:=Op q
 refine⟨E,as,e1,λvs H1 s1 il=>?_⟩
 obtain⟨c,rfl,q1⟩:=aW q
 obtain⟨es,q2,q3⟩:=Op q1
 cases q3
 obtain⟨v,rfl,iv⟩:=is1 il
 cases c with
 |tup fs=>
  cases q2;obtain⟨t,xs,rfl,h2,l2⟩:=iv;exact⟨t,xs,rfl,msk_le.seqT h2,k _ H1 s1 (CT h2 l2)⟩
 |_=>cases q2
end
open PySem.AutoSeq1 (wpAny_loadPart')
section
variable {prog:Program} {w:World} {A:Around} {E:NJ} {s:Shared}
theorem qW (hh:A.handled=none) (J:s.heap.IsRevIter j l ((xs.size:Int)-1)) (C:s.heap.IsList l xs) (ne:l≠j) (hn:xs.size<=sizeLine) (hQ:∀ (g:Heap) tk acc,(∀d o,d≠j->s.heap.get? d=some o->g.get? d=some o)->s.heap.objs.size<=g.objs.size->ItemsOf (λi v=>xs[xs.size-1-i]?=some v) acc xs.size->Q acc.toList {s with heap:=g,toks:=tk}):wpAny (!2) A (collect (.ref j)) Q E s:=by
 have jl:j<s.heap.objs.size:=by obtain⟨o,e,_⟩:=J;exact N1 e
 have ll:l<s.heap.objs.size:=by obtain⟨o,e,_⟩:=C;exact N1 e
 have up:∀d o,s.heap.get? d=some o->(s.heap.push {cls:=.type "list",data:=.seq ([]:NK).toArray}).get? d=some o:=λd o e=>NX _ e;have key:∀R:Result->Shared->Prop,(∀g tk acc c,(∀d o,d≠s.heap.objs.size->d≠j->(s.heap.push {cls:=.type "list",data:=.seq ([]:NK).toArray}).get? d=some o->g.get? d=some o)->g.get? s.heap.objs.size=some {cls:=.type "list",dict:=none,data:=.seq acc c,slots:=#[]}->
   ItemsOf (λi v=>xs[xs.size-1-i]?=some v) acc xs.size->R (.ok (.ret _)) {s with heap:=g,toks:=tk})->codeAny (!2) A (.builtin "proto.collect" ⟨[.ref j],[]⟩) R s:=λR hR=>by
  refine codeAny_builtin F.entry_proto_collect ?_
  refine NW (wpAny_newObj_type ?_)
  refine NY ⟨plainId_quiet F.plain_list_iadd _,codeAny_builtin F.entry_list_iadd ?_⟩
  exact vf hh (J.at λo e=>up _ o e) (C.at λo e=>up _ o e) ne (N2 s.heap rfl) (Nat.ne_of_gt jl) (Nat.ne_of_gt ll) hn λg tk acc c k hg hi=>hR g tk acc c k hg hi
 refine NW (wpAny_runValue (key _ λg tk acc c k hg hi=>?_));refine NW (wpAny_load hg ?_);exact NY (hQ g tk acc (λd o n e=>k d o (Ob (N1 e)) n (up d o e)) (Oi (N1 hg)) hi)
theorem wV (hh:A.handled=none) (J:s.heap.IsRevIter j l ((xs.size:Int)-1)) (C:s.heap.IsList l xs) (ne:l≠j) (hn:xs.size<=sizeLine) (hQ:∀ (g:Heap) tk acc,(∀d o,d≠j->s.heap.get? d=some o->g.get? d=some o)->s.heap.objs.size<=g.objs.size->ItemsOf (λi v=>xs[xs.size-1-i]?=some v) acc xs.size->Q (.ref g.objs.size) {s with heap:=g.push {cls:=.type "tuple",data:=.seq acc},toks:=tk}):
  wpAny (!2) A (call (.type "tuple") [.ref j]) Q E s:=by
 refine callType_codes (Q₁:=λobj s₁=>s₁.TypeIs obj "tuple"/\Q obj s₁) F.called_tuple (F.typeCall_tuple_1 _) F.entry_object_init ?_ λobj s₁ h₁=>?_
 ·refine codeAny_of_tree ?_;show wpAny _ A.in1.in1 (do checkBuiltinCall "tuple.__new__" ⟨[.type "tuple",.ref j],[]⟩;again (.builtin "tuple.__new__" ⟨[.type "tuple",.ref j],[]⟩)) _ _ s;refine NW (Od (F.newCall_tuple_1 _) (NY ⟨plainId_quiet F.plain_tuple_new _,codeAny_builtin F.entry_tuple_new ?_⟩));rw[Around.under_plainId F.plain_tuple_new _];have hsub:=sub_tuple_self;have hinit:=init_tuple_lookup;have hmh:=madeHere_tuple;have hTI:=J.typeIs;have cr:∀ {Q:NK->Shared->Prop} {E:NJ},(∀ (g:Heap) tk acc,(∀d o,d≠j->s.heap.get? d=some o->g.get? d=some o)->s.heap.objs.size<=g.objs.size->ItemsOf (λi v=>xs[xs.size-1-i]?=some v) acc xs.size->Q acc.toList {s with heap:=g,toks:=tk})->wpAny (!2) A.in1.in1 (collect (.ref j)) Q E s:=λhq=>qW (A:=A.in1.in1) hh J C ne hn hq;wp_walk using wpAny_typeOf hTI,cr;intro g tk acc k hle hacc;show wpAny _ _ (Builtin.Tuple.tupleExact acc.toList.toArray>>=λv=>ret v) _ _ _;unfold Builtin.Tuple.tupleExact;refine NW (wpAny_newObj_type ?_ (by show acc.toList.toArray.size<=sizeLine;simp only[Array.toArray_toList];rw[hacc.1];exact hn));refine NY ?_;have e:acc.toList.toArray=acc:=by simp
  rw[e];exact⟨⟨_,N2 _ rfl,rfl⟩,hQ g tk acc k hle hacc⟩
 ·exact⟨h₁.1,F.args_object_init_2 obj _,object_init_meets F.called_tuple.init.lookup F.called_tuple.made (!4) prog w A.in1 _ s₁ ⟨h₁.1,rfl,h₁.2⟩⟩
end
section
variable {X:Cx} {a:Expr} {p p2 pos pos2:Pos}
def Mb (K:Frag) (ta:TA):TE:=λY H Q=>ta Y H λvs H1=>∃l xs,vs=[.ref l]/\SqL K H1 l xs/\∀q,H1 q=none->Q (.ref q) (upd H1 q (.tup xs.reverse))
theorem J0:bootBuiltins "tuple"=some (.type "tuple"):=by decide+kernel
theorem GF (hc:X.calm=true) (hg:Gl X "tuple") (hm:X.mg "tuple"=none) (hg2:Gl X "reversed") (hm2:X.mg "reversed"=none) (ha:PA X [a] ta) (hs:starEach [a] X.env=[(false,eval a X.env)]):
  PE X (.Call (.Name "tuple" p) [.Call (.Name "reversed" p2) [a] [] pos2] [] pos) (Mb X.K ta):=by
 intro pins s Y H Q I h
 refine wpAny_Call_Name_kw (ce I hg hm J0 (PyProof.Rows.callWith_type1 ?_ rfl rfl))
 show wpAny _ _ (spliced ((false,eval (.Call (.Name "reversed" p2) [a] [] pos2) X.env)::[])) _ _ s
 refine Calls.spliced_cons ?_
 refine wpAny_Call_Name_kw (ce I hg2 hm2 zk (PyProof.Rows.callWith_type1 (thn (ha pos2 pins s Y H _ I h) λus s1 ⟨vs,H1,I1,r1,q1⟩=>?_) (by rw[hs];rfl) rfl))
 obtain⟨l,xs,rfl,hx,q⟩:=q1
 obtain⟨u,rfl,ru⟩:=eW r1
 cases ru
 obtain⟨its,rv,pl,hz⟩:=I1.list hx
 have C:=pl.isList
 have ll:l<s1.heap.objs.size:=by obtain⟨o,e,_⟩:=C;exact N1 e
 refine call_reversed_list C (Calls.spliced_nil ?_)
 have up:∀d o,s1.heap.get? d=some o->(s1.heap.push (revObj l ((its.toArray.size:Int)-1))).get? d=some o:=λd o e=>NX _ e
 have I2:Inv X pins Y H1 {s1 with heap:=s1.heap.push (revObj l ((its.toArray.size:Int)-1))}:=I1.kept up
 have hl:=rv.length
 refine wV (I1.ok.hd hc) ⟨_,N2 _ rfl,rfl,rfl⟩ (C.at λo e=>up _ o e) (Ob ll) (by rw[size_toArray];omega) λg tk acc k hsz hi=>?_
 have e:=nZ hi
 have e2:acc=its.reverse.toArray:=by
  apply Array.toList_inj.mp;rw[e]
 have fr:=I2.hok.fresh hsz
 refine⟨.ref _,_,I2.turnedNew (ch:=[s1.heap.objs.size]) (λb hb=>?_) (λb o hb e=>NX _ (k b o (by simpa using hb) e)) hsz ?_,rfl,q _ fr⟩
 ·rw[mem_singleton.mp hb];exact I1.fpOk (Om _) (I1.hok.fresh (Om _))
 ·rw[e2];exact⟨by rw[List.length_reverse];exact hz,its.reverse,rv.reverse,IsTup.new _ _⟩
def GG:NS->NU:=un1 λd=>(fu d).bind λds=>some (.tup ds.reverse)
theorem GH (hc:X.calm=true) (hg:Gl X "tuple") (hm:X.mg "tuple"=none) (hg2:Gl X "reversed") (hm2:X.mg "reversed"=none) (ha:PX X [a] fa) (hs:starEach [a] X.env=[(false,eval a X.env)]):
  PP X (.Call (.Name "tuple" p) [.Call (.Name "reversed" p2) [a] [] pos2] [] pos) (λU=>(fa U).bind GG):=λO U=>(GF hc hg hm hg2 hm2 (ha O U) hs).imp λY H Q ⟨E,d,q,k⟩=>by
 obtain⟨as,e1,q⟩:=Op q
 refine⟨E,as,e1,λvs H1 s1 il=>?_⟩
 obtain⟨c,rfl,q2⟩:=aW q
 obtain⟨xs,q3,q4⟩:=Op q2
 cases q4
 obtain⟨v,rfl,h⟩:=is1 il
 obtain⟨l,ys,rfl,t,l2⟩:=cA q3 h
 refine⟨l,ys,rfl,msk_le.seq t,λb hb=>?_⟩
 have hO:=(E.grow s1).fresh hb
 have le:Same (msk O H1) (msk O (upd H1 b (.tup ys.reverse))):=by rw[oS hO];exact Same.new (by rw[aE hO];exact hb)
 exact k _ _ (s1.trans (Same.new hb)) ⟨b,ys.reverse,rfl,.of (by rw[aE hO,ai]),IsL.mono le _ _ l2.rev⟩
end
noncomputable def shO:NH->NH
 |some (_,d)=>some (.sh,d)
 |none=>none
def frz1 (i:Nat) (U:Ev):Ev:=match U[i]? with
 |some x=>U.set i (shO x)
 |none=>U
def frzS:NO->Ev->Ev
 |[],U=>U
 |i::is,U=>frzS is (frz1 i U)
section
variable {K:Frag} {B:Bs} {O:NR} {Y:St} {H:Hp} {U:Ev}
theorem EnvOk.frz1 (E:EnvOk K B O Y H U) (i:Nat):∃O',EnvOk K B O' Y H (frz1 i U)/\Same (msk O H) (msk O' H):=by
 unfold L2.frz1;cases hx:U[i]? with
 |none=>exact⟨O,E,Same.refl _⟩
 |some x=>
  obtain⟨F,h1,h2,h3,h4⟩:=E.fp;have le:Same (msk O H) (msk (λb=>O b&&!decide (b∈F i)) H):=λb o q=>by
   obtain⟨q1,q2⟩:=aJ q;rw[aE (by simp[q1])];exact q2
  refine⟨λb=>O b&&!decide _,⟨E.same,E.bdom,λb hb=>?_,λb hb=>E.lis b (by simp at hb;exact hb.1),by rw[List.length_set];exact E.len,λj=>if j=i then[]else F j,λj s q=>?_,λj=>?_,λj k a hj hk=>?_,λj a hj=>?_⟩,le⟩
  ·have n:b ∉ F i:=λz=>E.bdom b hb (h4 i b z).2;simp[E.sub b hb,n]
  ·rcases get_set_some q with⟨e,q'⟩|⟨e,q'⟩
   ·subst e;cases x with
    |none=>cases q'
    |some z=>
     cases q';obtain⟨v,e1,o1⟩:=h1 j _ hx;refine⟨v,e1,?_⟩;simp only[if_true];exact⟨rfl,o1.is le λa ha=>by simp[ha]⟩
   ·obtain⟨v,e1,o1⟩:=h1 j s q';refine⟨v,e1,?_⟩;simp only[if_neg e];exact o1.frame le λ_ _ _ z=>z
  ·dsimp only;split
   ·exact List.nodup_nil
   ·exact h2 _
  ·by_cases e:j=i
   ·simp[e]at hj
   ·by_cases e2:k=i
    ·simp[e2]at hk
    ·simp only[if_neg e]at hj;simp only[if_neg e2]at hk;exact h3 j k a hj hk
  ·by_cases e:j=i
   ·simp[e]at hj
   ·simp only[if_neg e]at hj;obtain⟨o1,o2⟩:=h4 j a hj;have n:a ∉ F i:=λz=>e (h3 j i a hj z);exact⟨by simp[o1,n],o2⟩
theorem EnvOk.frzS:∀ (is:NO) {O:NR} {U:Ev},EnvOk K B O Y H U->∃O',EnvOk K B O' Y H (frzS is U)/\Same (msk O H) (msk O' H)
 |[],O,U,E=>⟨O,E,Same.refl _⟩
 |i::is,O,U,E=>by
  obtain⟨O1,E1,s1⟩:=E.frz1 i;obtain⟨O2,E2,s2⟩:=EnvOk.frzS is E1;exact⟨O2,E2,s1.trans s2⟩
end
theorem zn (is:NO) (h:PEv X e g):PEv X e (λU=>g (frzS is U)):=λB O U=>(PU.ex λO'=>h B O' _).imp λY H Q ⟨E,s,U',q,k⟩=>by
 obtain⟨O',E',le⟩:=E.frzS is;exact⟨O',E',s,U',q,λv H' O2 s2 E2=>k v H' O2 (le.trans s2) E2⟩
def lsX (f:{α:Type}->List α->α->List α):Prop:=∀ {K:Frag} {M H:Hp} {ds:NS} {xs:List V} {A:List Addr} {d:D} {v:V},DeepL K M H ds xs A->Deep K M H d v []->DeepL K M H (f ds d) (f xs v) A
theorem zo:lsX fC:=λ{K M H ds xs A d v} h q=>by
 have:=DeepL.snoc q h;grind [lsX,fC]
theorem DeepL.sub {K} (f:{α:Type}->List α->α->List α) (hf:lsX f) (lf:lfD d=true) (hi:Is K M d v):∀ {ds:NS} {xs:List V} {A:List Addr} {j:Nat},DeepL K M H ds xs A->A.Nodup->ds[j]?=some (.lst ds2)->
  ∃a ys,xs[j]?=some (.ref a)/\a∈A/\H a=some (.lst ys)/\ds2.length=ys.length/\DeepL K M (upd H a (.lst (f ys v))) (ds.set j (.lst (f ds2 d))) xs A
 |[],xs,A,j,h,nd,e=>by simp at e
 |d0::ds,xs,A,0,⟨x,r,A1,A2,e1,e2,h1,h2⟩,nd,e=>by
  simp at e;subst e;obtain⟨a,ys,A',z1,z2,z3,l⟩:=h1;subst z1 e1 e2 z3;have n1:a ∉ A'/\a ∉ A2:=by
   have:=(List.nodup_cons.mp (show(a::(A'++A2)).Nodup from nd)).1;simp at this;exact this
  have fr:∀ (L:List Addr),a ∉ L->∀b∈L,∀o,H b=some o->upd H a (.lst (f ys v)) b=some o:=λL n b hb o q=>by rw[ag (show b≠a fromλz=>n (z▸hb))];exact q
  refine⟨a,ys,rfl,by simp,z2,DeepL.len l,_,_,a::A',A2,rfl,rfl,⟨a,f ys v,A',rfl,ai,rfl,?_⟩,DeepL.frame (NL.of (Same.refl _)) _ _ _ (fr A2 n1.2) h2⟩;exact hf (DeepL.frame (NL.of (Same.refl _)) _ _ _ (fr A' n1.1) l) (Is.deep d v lf hi)
 |d0::ds,xs,A,j+1,⟨x,r,A1,A2,e1,e2,h1,h2⟩,nd,e=>by
  subst e1 e2;obtain⟨n1,n2,n3⟩:=List.nodup_append.mp nd;obtain⟨a,ys,f1,f2,f3,f4,f5⟩:=DeepL.sub f hf lf hi h2 n2 (show ds[j]?=some (.lst ds2)by simpa using e);have na:a ∉ A1:=λz=>n3 a z a f2 rfl;refine⟨a,ys,by simpa using f1,Og _ f2,f3,f4,x,r,A1,A2,rfl,rfl,Deep.frame (NL.of (Same.refl _)) _ _ _ (λb hb o q=>?_) h1,f5⟩;rw[ag (show b≠a fromλz=>na (z▸hb))];exact q
section
variable {K:Frag} {B:Bs} {O:NR} {Y:St} {H:Hp} {U:Ev}
theorem EnvOk.changeIn (E:EnvOk K B O Y H U) (f:{α:Type}->List α->α->List α) (hf:lsX f) {i j:Nat} (h:U[i]?=some (some (.deep,.lst ds))) (hj:ds[j]?=some (.lst ds2)) (lf:lfD d=true) (hi:Is K (msk O H) d v):
  ∃a xs a2 ys,Y[i]?=some (some (.ref a))/\H a=some (.lst xs)/\ds.length=xs.length/\xs[j]?=some (.ref a2)/\H a2=some (.lst ys)/\ds2.length=ys.length/\
   EnvOk K B O Y (upd H a2 (.lst (f ys v))) (U.set i (some (.deep,.lst (ds.set j (.lst (f ds2 d))))))/\Same (msk O H) (msk O (upd H a2 (.lst (f ys v)))):=by
 obtain⟨F,h1,h2,h3,h4⟩:=E.fp
 obtain⟨v0,e0,o0⟩:=h1 i _ h
 obtain⟨a,xs,A',z1,z2,z3,l⟩:=o0
 subst z1
 have nd:=h2 i
 rw[z3]at nd
 obtain⟨nA,ndA⟩:=List.nodup_cons.mp nd
 obtain⟨a2,ys,f1,f2,f3,f4,f5⟩:=DeepL.sub f hf lf hi l ndA hj
 have ha2:a2∈F i:=by rw[z3];exact N6 _ f2
 obtain⟨o2,b2⟩:=h4 i a2 ha2
 have me:msk O (upd H a2 (.lst (f ys v)))=msk O H:=ie o2
 have le:Same (msk O H) (msk O (upd H a2 (.lst (f ys v)))):=by rw[me];exact Same.refl _
 have ne:a≠a2:=λz=>nA (z▸f2)
 refine⟨a,xs,a2,ys,e0,z2,DeepL.len l,f1,f3,f4,⟨λb o q=>?_,E.bdom,E.sub,λb hb=>?_,by rw[List.length_set];exact E.len,F,λk s q=>?_,h2,h3,h4⟩,le⟩
 ·rw[ag (au q b2)];exact E.same b o q
 ·by_cases e:b=a2
  ·subst e;exact .inl ⟨_,ai⟩
  ·rw[ag e];exact E.lis b hb
 ·rcases get_set_some q with⟨e,q'⟩|⟨e,q'⟩
  ·cases q';subst e;refine⟨.ref a,e0,a,xs,A',rfl,by rw[ag ne];exact z2,z3,?_⟩;rw[me];exact f5
  ·obtain⟨w,e1,o1⟩:=h1 k s q';refine⟨w,e1,o1.frame le λb hb o z=>?_⟩;have:b≠a2:=λz2=>e (h3 k i a2 (z2▸hb) ha2);rw[ag this];exact z
end
section
variable {X:Cx} {e:Expr} {pos:Pos}
def vi (U:Ev) (i:Nat):NI:=(ownL U i).bind λw=>if w.1=.deep then some w.2 else none
def m7 (i:Nat) (fk:wp) (R:wp):Cl:=λU=>(vi U i).bind λds=>(fk (vw U)).bind λy=>(lJ y).bind λk=>(ixN ds.length k).bind λj=>(ds[j]?).bind λz=>(fu z).bind λds2=>
 (lfO (R (shv U))).bind λd=>if ds2.length+1<big then some (.nx (U.set i (some (.deep,.lst (ds.set j (.lst (ds2++[d])))))))else none
theorem lstD_some (h:fu d=some ds):d=.lst ds:=by
 cases d<;>first|(cases h;rfl)|cases h
theorem GI (i:Nat) (hk:PP X ik fk) (h:PP X e R) (hN:X.N[i]?=some x) (hv:Vis X.env.scope x) (hd:(!7)=false) (hcd:(!10)=false) (hix:kB ik) (hst:starEach [e] X.env=(false,eval e X.env)::starEach [] X.env) (hline:(!25)=true):
  PR X (.Expr (.Call (.Attribute (.Subscript (!17) ik spos) "append" apos) [e] [] cpos) pos) (m7 i fk R):=λB O U=>
 (eD (qI PySem.F.plainAttrs_list PySem.F.slot_list_append PySem.F.type_list_append nO (Es ix_list (cc hN hv hd hcd) (hk noO (vw U)) hix) (dE (h O _) pa_nil hst) rfl (by rw[hst];rfl) hline hst rfl)).imp λEn Y H ⟨E,o,q,k⟩=>by
 obtain⟨ds,q1,q⟩:=Op q
 obtain⟨y,q2,q⟩:=Op q
 obtain⟨n,q3,q⟩:=Op q
 obtain⟨j,q4,q⟩:=Op q
 obtain⟨z,q5,q⟩:=Op q
 obtain⟨ds2,q6,q⟩:=Op q
 obtain⟨d,q7,q⟩:=Op q
 obtain⟨hz,q⟩:=az q
 subst q
 obtain⟨⟨c,ds'⟩,p1,p2⟩:=Op q1
 obtain⟨p3,p4⟩:=az p2
 subst p3 p4
 obtain⟨h0,hc0⟩:=bN p1
 cases intD_some q3
 cases lstD_some q6
 obtain⟨d',p5,p6⟩:=Op q7
 obtain⟨lf,p7⟩:=az p6
 subst p7
 obtain⟨a,xs0,e1,r3,hl0,oa,_⟩:=E.ownAt h0 hc0
 refine⟨.ref a,e1,E.view,_,q2,λyv H1 s1 iy=>?_⟩
 cases(iy)
 have E1:=E.grow s1
 obtain⟨a',xs,a2,ys,g1,g2,g3,g4,g5,g6,_⟩:=E1.changeIn fC zo (d:=.non) h0 q5 rfl rfl
 rw[e1]at g1
 cases g1
 refine⟨a,xs,n,.ref a2,rfl,rfl,SqL.of g2,?_,.inl ⟨rfl,_,SqL.of g5⟩,E1.viewS,d',p5,λv H2 s2 iv=>?_⟩
 ·unfold atI;rw[<-g3,q4];exact g4
 obtain⟨b',zs,b2,ws,k1,k2,k3,k4,k5,k6,k7,k8⟩:=(E1.grow s2).changeIn fC zo h0 q5 lf iv;rw[e1]at k1;cases k1;have w1:=s2 _ _ g2;rw[w1]at k2;cases k2;rw[g4]at k4;cases k4;exact⟨a2,ws,v,rfl,rfl,k5,by rw[gN,<-k6];exact Nat.lt_of_succ_lt hz,k Y _ O (s1.msk.trans (s2.msk.trans k8)) k7⟩
end
theorem GJ:PFr X (.Dict [] [] pos) (λ_=>some (.dct [] [])):=λU=>PE.pu (pe_dnewK.imp λY H Q ⟨E,d,q,k⟩=>by
 cases q;exactλp hp=>k _ _ [p] (Same.new hp) ⟨p,[],[],rfl,ai,rfl,rfl,rfl,rfl⟩ (by simp) λa ha=>by rw[mem_singleton.mp ha];exact hp) rfl
noncomputable def lO (ks:List Key) (k:Key):Bool:=ks.any λj=>decide (j=k)
def n5 (ks:List Key) (k:Key):List Key:=if lO ks k=true then ks else ks++[k]
def jY (ks:List Key) (ds:NS) (k:Key) (d:D):NS:=if lO ks k=true then List.zipWith (λj e=>if j=k then d else e) ks ds else ds++[d]
theorem vj (k:Key) (kvs:List (Key×V)):(kvs.any λkv=>decide (kv.1=k))=lO (kvs.map (·.1)) k:=by
 unfold lO;rw[List.any_map];rfl
theorem zq (kvs:List (Key×V)) (k:Key) (v:V):(eY kvs k v).map (·.1)=n5 (kvs.map (·.1)) k:=by
 unfold eY n5;rw[vj];by_cases h:lO (kvs.map (·.1)) k=true
 ·rw[if_pos h,if_pos h,List.map_map];apply List.map_congr_left;intro p _;show(if p.1=k then(p.1,v)else p).1=p.1;split<;>rfl
 grind
theorem zr {K} (hd:Is K M d v) (l:IsL K M ds (kvs.map (·.2))):IsL K M (jY (kvs.map (·.1)) ds k d) ((eY kvs k v).map (·.2)):=by
 unfold eY jY;rw[vj];by_cases h:lO (kvs.map (·.1)) k=true
 ·rw[if_pos h,if_pos h];clear h;induction kvs generalizing ds with
  |nil=>
   have e:ds=[]:=by cases ds with|nil=>rfl|cons a b=>obtain⟨_,_,z,_⟩:=l;cases z
   subst e;exact rfl
  |cons p r ih=>
   cases ds with
   |nil=>cases(l)
   |cons e ds=>
    obtain⟨x,t,z,h,l⟩:=l;have z':=z;cases z';refine⟨_,_,rfl,?_,ih l⟩;show Is K M (if p.1=k then d else e) (if p.1=k then(p.1,v)else p).2;by_cases hk:p.1=k
    ·rw[if_pos hk,if_pos hk];exact hd
    ·rw[if_neg hk,if_neg hk];exact h
 ·rw[if_neg h,if_neg h,List.map_append];exact l.app ⟨v,[],rfl,hd,rfl⟩
theorem GK (hd:lfD d=true):∀ {ds:NS},lfL ds=true->lfL (jY ks ds k d)=true:=λ{ds} h=>by
 unfold jY;split
 ·rename_i hn;clear hn;induction ks generalizing ds with
  |nil=>rfl
  |cons j ks ih=>
   cases ds with
   |nil=>rfl
   |cons e ds=>
    have h':(lfD e&&lfL ds)=true:=h;rw[and_eq_true]at h';show(lfD (if j=k then d else e)&&lfL (List.zipWith _ ks ds))=true;rw[ih h'.2,Bool.and_true];split
    ·exact hd
    ·exact h'.1
 ·rename_i hn;induction ds with
  |nil=>show(lfD d&&true)=true;rw[hd];rfl
  |cons e ds ih=>
   have h':(lfD e&&lfL ds)=true:=h;rw[and_eq_true]at h';show(lfD e&&lfL (ds++[d]))=true;rw[h'.1,ih h'.2];rfl
def iB (U:Ev) (i:Nat):Option (List Key×List D):=(io U i).bind λs=>match s with
 |(.deep,.dct ks ds)=>some (ks,ds)
 |_=>none
theorem jf (h:iB U i=some w):U[i]?=some (some (.deep,.dct w.1 w.2)):=by
 obtain⟨⟨c,d⟩,h1,h2⟩:=Op h;have h2':(match(c,d)with|(.deep,.dct ks ds)=>some _|_=>none)=some w:=h2;split at h2'
 ·rename_i ks ds e;cases h2';cases e;exact d6 h1
 ·cases h2'
section
variable {K:Frag} {B:Bs} {O:NR} {Y:St} {H:Hp} {U:Ev}
theorem EnvOk.dctAt (E:EnvOk K B O Y H U) {i:Nat} (h:U[i]?=some (some (.deep,.dct ks ds))):∃a kvs,Y[i]?=some (some (.ref a))/\H a=some (.dK kvs)/\kvs.map (·.1)=ks/\O a=true/\B.H a=none:=by
 obtain⟨F,h1,h2,h3,h4⟩:=E.fp;obtain⟨v,e,a,kvs,A',z1,z2,z3,z4,l⟩:=h1 i _ h;grind
theorem EnvOk.dput (E:EnvOk K B O Y H U) {i:Nat} (h:U[i]?=some (some (.deep,.dct ks ds))) (lf:lfL ds=true) (ld:lfD d=true) (hv:Is K (msk O H) d v) (k:Key):
  ∃a kvs,Y[i]?=some (some (.ref a))/\H a=some (.dK kvs)/\kvs.map (·.1)=ks/\EnvOk K B O Y (upd H a (.dK (eY kvs k v))) (U.set i (some (.deep,.dct (n5 ks k) (jY ks ds k d))))/\Same (msk O H) (msk O (upd H a (.dK (eY kvs k v)))):=by
 obtain⟨F,h1,h2,h3,h4⟩:=E.fp
 obtain⟨v0,e0,a,kvs,A',z1,z2,z3,z4,l⟩:=h1 i _ h
 subst z1
 have hA:=DeepL.lf ds _ A' lf l
 subst hA
 have haF:a∈F i:=by rw[z4];exact N5
 obtain⟨oa,ba⟩:=h4 i a haF
 have me:msk O (upd H a (.dK (eY kvs k v)))=msk O H:=ie oa
 have le:Same (msk O H) (msk O (upd H a (.dK (eY kvs k v)))):=by rw[me];exact Same.refl _
 refine⟨a,kvs,e0,z2,z3,⟨λb o q=>?_,E.bdom,E.sub,λb hb=>?_,by rw[List.length_set];exact E.len,F,λj s q=>?_,h2,h3,h4⟩,le⟩
 ·rw[ag (au q ba)];exact E.same b o q
 ·by_cases e:b=a
  ·subst e;exact .inr (.inr ⟨_,ai⟩)
  ·rw[ag e];exact E.lis b hb
 ·rcases get_set_some q with⟨e,q'⟩|⟨e,q'⟩
  ·cases q';subst e;refine⟨.ref a,e0,a,_,[],rfl,ai,by rw[zq,z3],z4,?_⟩;rw[me];subst z3;have il:=DeepL.is (NL.of (Same.refl _)) ds _ [] (λ_ h=>(nomatch h)) l;exact IsL.deep _ _ (GK ld lf) (zr hv il)
  ·obtain⟨w,e1,o1⟩:=h1 j s q';refine⟨w,e1,o1.frame le λb hb o z=>?_⟩;have:b≠a:=λz2=>e (h3 j i a (z2▸hb) haF);rw[ag this];exact z
end
section
variable {X:Cx} {e:Expr} {pos:Pos}
def J2:Fm:=λo i v H Q=>∃p kvs k,o=.ref p/\i=kV k/\H p=some (.dK kvs)/\kvs.length<sizeLine/\Q (upd H p (.dK (eY kvs k v)))
theorem zt:Fo X J2:=by
 intro pins s Y H o i v ov iv u Q I ro ri rv h;obtain⟨p,kvs,k,rfl,rfl,hp,hl,q⟩:=h;cases ro;obtain⟨z,hd,vs,rel,dd⟩:=Ew I.hok hp;have hz:vs.length<=sizeLine:=by rw[<-rel.length];exact z
 have hl':(eY kvs k v).length<=sizeLine:=by have:=jN kvs k v;omega
 refine wpAny_setItem_pairs (qL ri) dd λh' dd' hs=>⟨_,?_,q⟩;have he:∃q,h'.get? p=some q:=let⟨q,_,_,hq,_⟩:=dd';⟨q,hq⟩;exact uV I (by rw[hp];exact True.intro) hs he (yz hl' hd (rel.put k rv) dd')
def qX (i:Nat) (fk:wp) (R:wp):Cl:=λU=>(iB U i).bind λw=>(lfO (R (vw U))).bind λd=>(fk (vw U)).bind λy=>(Cd y).bind λk=>if lfL w.2=true/\w.1.length+1<big then some (.nx (U.set i (some (.deep,.dct (n5 w.1 k) (jY w.1 w.2 k d)))))else none
theorem GL (i:Nat) (h:PP X e R) (hk:PP X ik fk) (hN:X.N[i]?=some x) (hv:Vis X.env.scope x) (hd:(!7)=false) (hcd:(!10)=false) (ha:∀v,assign (.Subscript (!17) ik spos) X.env v=(do
   let ov<-holding [v] (eval (!17) X.env)
   let iv<-holding [v,ov] (eval ik X.env)
   standAt spos
   holding [v,ov,iv] (setItem ov iv v)
   release [v,ov,iv] [])) (hs:swapsWithSole [.Subscript (!17) ik spos] e pos.line X.env=pure false) (hw:swappedStores [.Subscript (!17) ik spos] e X.env=pure none) (h1:(assignEach [.Subscript (!17) ik spos] X.env).map (·.2)=[assign (.Subscript (!17) ik spos) X.env]):PR X (.Assign [.Subscript (!17) ik spos] e pos) (qX i fk R):=λB O U=>
 (xU (h noO (vw U)) (xR (cc hN hv hd hcd) (hk noO (vw U)) zt ha) hs hw h1).imp λEn Y H ⟨E,o,q,k⟩=>by
 obtain⟨⟨ks,ds⟩,q1,q⟩:=Op q
 obtain⟨d,q2,q⟩:=Op q
 obtain⟨y,q3,q⟩:=Op q
 obtain⟨j,q4,q⟩:=Op q
 obtain⟨⟨hl,hz⟩,q⟩:=az q
 subst q
 obtain⟨d',p5,p6⟩:=Op q2
 obtain⟨ld,p7⟩:=az p6
 subst p7
 have h0:=jf q1
 refine⟨E.view,d',p5,λv H1 s1 iv=>?_⟩
 have E1:=E.grow s1
 obtain⟨a,kvs,e1,e2,e3,_⟩:=E1.dctAt h0
 refine⟨.ref a,e1,E1.view,y,q3,λyv H2 s2 iy=>?_⟩
 have E2:=E1.grow s2
 have iv':Is X.K (msk O H2) d' v:=Is.nl (by have:=E2.nl;rw[oZ]at*;exact(NL.of s2).trans this) d' v ld iv
 obtain⟨a',kvs',f1,f2,f3,f4,f5⟩:=E2.dput h0 hl ld iv' j
 rw[e1]at f1
 cases f1
 exact⟨a,kvs',j,rfl,oU q4 iy,f2,by
  have:kvs'.length=ks.length:=by have:=congrArg List.length f3;rwa [length_map]at this
  have hz:ks.length+1<big:=hz;rw[gN];omega,k Y _ O (s1.msk.trans (s2.msk.trans f5)) f4⟩
end
section
variable {X:Cx} {a:Expr} {p pos:Pos}
theorem zu:bootBuiltins "sorted"=some (.builtin "sorted"):=by decide+kernel
noncomputable def pF (ns:NQ):NQ:=ns.mergeSort (λa b=>decide (a<=b))
theorem zv (h1:ms.Perm ns) (h2:ms.Pairwise (·<=·)):ms=pF ns:=by
 refine List.Perm.eq_of_pairwise (λa b _ _ h h'=>Int.le_antisymm h h') h2 ?_ (h1.trans (List.mergeSort_perm _ _).symm);have:=List.pairwise_mergeSort (le:=λa b:Int=>decide (a<=b)) (λa b c h1 h2=>decide_eq_true (Int.le_trans (N7 h1) (N7 h2))) (λa b=>by simp;omega) ns;simp_all [pF]
theorem vk:∀ {ns:NQ} {us:NK},Vals (ns.map V.int) us->IntsAre us ns
 |[],_,.nil=>.nil
 |n::ns,_,.cons ⟨t,e⟩ r=>by subst e;exact .cons n t (vk r)
theorem n9:∀ {us:NK} {ns:NQ},IntsAre us ns->Vals (ns.map V.int) us
 |_,_,.nil=>.nil
 |_,_,.cons n t r=>.cons ⟨t,rfl⟩ (n9 r)
def J3 (K:Frag):List V->Hp->VK->Prop:=λvs H Q=>∃l ns,vs=[.ref l]/\SqL K H l (ns.map V.int)/\ns.length<64/\∀q,H q=none->Q (.ref q) (upd H q (.lst ((pF ns).map V.int)))
theorem wW:dD X (.builtin "sorted") (J3 X.K):=by
 intro pins s Y H xs us Q I r h;obtain⟨l,ns,rfl,hx,h64,q⟩:=h;obtain⟨u,rfl,ru⟩:=eW r;cases ru;obtain⟨its,rv,pl,hz⟩:=I.list hx;have hl:=rv.length;rw[length_map]at hl;refine PyProof.Rows.sorted_ints pl.isList (vk rv) (!1) λout ms h1 h2 h3=>?_;obtain⟨e,he⟩:=sortedAll_at s.heap its out;have z:=zv h2 h3;subst z;have fr:=I.hok.fresh (Nat.le_succ _);refine⟨.ref _,_,I.laid (λb o q=>sortedAll_old q) (Nat.le_succ _) (o:=.lst _) ⟨?_,out.toList,e,n9 h1,by simpa using he⟩,rfl,q _ fr⟩;rw[length_map,h2.length_eq];have:(64:Nat)<=sizeLine:=by decide
 omega
def jZ:NS->NI:=un1 λd=>(fu d).bind λds=>(cg ds).bind λns=>if ns.length<64 then some ((pF ns).map D.int)else none
theorem lP {K}:∀ (ns:NQ),IsL K H (ns.map D.int) (ns.map V.int)
 |[]=>rfl
 |n::ns=>⟨_,_,rfl,rfl,lP ns⟩
theorem CU (hg:Gl X "sorted") (hm:X.mg "sorted"=none) (ha:PX X [a] fa) (hs:starEach [a] X.env=[(false,eval a X.env)]):
  PF X (.Call (.Name "sorted" p) [a] [] pos) (λU=>(fa U).bind jZ):=λO U=>(lg wW hg hm zu (ha O U) (!4) (!4) (by rw[hs];rfl) rfl).imp λY H Q ⟨E,ds,q,k⟩=>by
 obtain⟨as,e1,q⟩:=Op q
 refine⟨E,as,e1,λvs H1 s1 il=>?_⟩
 obtain⟨c,rfl,q2⟩:=aW q
 obtain⟨xs,q3,q4⟩:=Op q2
 obtain⟨ns,q5,q6⟩:=Op q4
 obtain⟨h64,q7⟩:=az q6
 subst q7
 obtain⟨v,rfl,h⟩:=is1 il
 obtain⟨l,ys,rfl,t,l2⟩:=cA q3 h
 rw[c6 q5 l2]at t
 exact⟨l,ns,rfl,msk_le.seq t,h64,λb hb=>k b _ H1 s1 hb (lP _)⟩
end
end L2
namespace L2
open PySem PySem.W PyProof.Rows
section
variable {prog:Program} {w:World} {A:Around} {E:NJ} {s:Shared}
structure SortBy (prog:Program) (w:World) (A:Around) (s:Shared) (a:Addr) (vs:NK) (κ:SortKind) (c:Nat->Nat->Bool):Prop where
 kd:∀h',(∀b o,b≠a->s.heap.get? b=some o->h'.get? b=some o)->2<=vs.length->∀ (Q:SortKind->Shared->Prop),Q κ {s with heap:=h'}->wpAny (!2) A (keyKind' vs.toArray) Q (λ_ _=>False) {s with heap:=h'}
 cp:∀h',(∀b o,b≠a->s.heap.get? b=some o->h'.get? b=some o)->∀i j,i<vs.length->j<vs.length->∀ (Q:Bool->Shared->Prop),Q (c i j) {s with heap:=h'}->wpAny (!2) A (keyLt' κ (vs.getD i .none) (vs.getD j .none)) Q (λ_ _=>False) {s with heap:=h'}
end
end L2
namespace L2
open PySem PySem.W PyProof.Rows
noncomputable def gallop':Bool->Keyed->Array Keyed->Nat->Nat->Nat->StateT SortSt Sem (Option Nat):=sortPriv%PySem.Builtin.gallop
noncomputable def mergeLo':Array Keyed->Array Keyed->StateT SortSt Sem (Array Keyed):=sortPriv%PySem.Builtin.mergeLo
noncomputable def mergeHi':Array Keyed->Array Keyed->StateT SortSt Sem (Array Keyed):=sortPriv%PySem.Builtin.mergeHi
section
variable {prog:Program} {w:World} {A:Around} {E:NJ} {s:Shared} {rk:Keyed->Int} {κ:SortKind} {ok:Keyed->Prop}
def bS (prog:Program) (w:World) (A:Around) (s:Shared) (κ:SortKind) (rk:Keyed->Int) (ok:Keyed->Prop):Prop:=
 ∀x y,ok x->ok y->∀Q:Bool->Shared->Prop,Q (decide (rk x<rk y)) s->wpAny (!2) A (keyLt' κ x.1 y.1) Q (λ_ _=>False) s
theorem qY {st:SortSt} (L:bS prog w A s κ rk ok) (hk:kindOf st=κ) (hx:ok x) (hy:ok y) (h:Q (some (decide (rk x<rk y))) st):wpS (!2) A E s (lt' x y) Q st:=by
 rw[lt'_eq];refine NZ (wpS_get ?_);rw[hk];refine NZ (wpS_lift (wpAny_attempt (On (L x y hx hy (λc s'=>c=decide _/\s'=s) ⟨rfl,rfl⟩) (λc s' hc=>?_) λ_ _ hF=>hF.elim)));obtain⟨rfl,rfl⟩:=hc;exact⟨rfl,N0 h⟩
theorem aF {st} (hx:arr[i]?=some x) (h:Q x st):wpS (!2) A E s (elem' arr i) Q st:=by
 rw[elem'_eq,hx];exact N0 h
def gAt (rk:Keyed->Int) (arr:Array Keyed) (i:Nat):Int:=rk (arr.getD i (Value.none,Value.none))
theorem GM (h:i<arr.size):∃x,arr[i]?=some x/\rk x=gAt rk arr i:=by simp_all [gAt]
def AllOk (ok:Keyed->Prop) (arr:Array Keyed):Prop:=∀ (i:Nat) (x:Keyed),arr[i]?=some x->ok x
def bey (rk:Keyed->Int) (left:Bool) (key:Keyed) (arr:Array Keyed) (i:Nat):Bool:=if left=true then decide (gAt rk arr i<rk key)else !decide (rk key<gAt rk arr i)
theorem lQ {st:SortSt} (L:bS prog w A s κ rk ok) (hk:kindOf st=κ) (hkey:ok key) (ha:AllOk ok arr) (hi:i<arr.size) (h:Q (some (bey rk left key arr i)) st):
  wpS (!2) A E s (do let x<-elem' arr i;if left=true then lt' x key else do let r<-lt' key x;pure (r.map (!·))) Q st:=by
 obtain⟨x,hx,hr⟩:=GM (rk:=rk) hi
 refine NZ (aF hx ?_)
 cases left with
 |true=>
  exact qY L hk (ha _ _ hx) hkey (by rw[hr];exact h)
 |false=>
  refine NZ (qY L hk hkey (ha _ _ hx) (N0 ?_));rw[hr];exact h
theorem og {st:SortSt} (L:bS prog w A s κ rk ok) (hk:kindOf st=κ) (hkey:ok key) (ha:AllOk ok arr) (hn:hint<n) (hsz:base+n<=arr.size) (hm:∀i j,i<=j->j<n->bey rk left key arr (base+j)=true->bey rk left key arr (base+i)=true) (h:∀k,k<=n->(∀i,i<k->bey rk left key arr (base+i)=true)->(∀i,k<=i->i<n->bey rk left key arr (base+i)=false)->Q (some k) st):wpS (!2) A E s (gallop' left key arr base n hint) Q st:=by
 have hm2:∀i j,i<=j->j<n->bey rk left key arr (base+i)=false->bey rk left key arr _=false:=λi j hij hj hf=>by
  cases e:bey rk left key arr (base+j)with
  |false=>rfl
  |true=>rw[hm i j hij hj e]at hf;cases hf
 have fin:∀ (f:Nat->Option (Option Nat)×Nat×Nat->StateT SortSt Sem (ForInStep (Option (Option Nat)×Nat×Nat))) (g:Option (Option Nat)×Nat×Nat->StateT SortSt Sem (Option Nat)),
   (∀x l h (Q':ForInStep (Option _×Nat×Nat)->SortSt->Prop),(l≥h->Q' (.done (none,l,h)) st)->(¬l≥h->base+(l+(h-l)/2)<arr.size/\(bey rk left key arr (base+(l+(h-l)/2))=true->Q' (.yield (none,l+(h-l)/2+1,h)) st)/\(bey rk left key arr (base+(l+(h-l)/2))=false->Q' (.yield (none,l,l+(h-l)/2)) st))->wpS (!2) A E s (f x (none,l,h)) Q' st)->
   (∀l h,Q (some h) st->wpS (!2) A E s (g (none,l,h)) Q st)->
   ∀lo hi,lo<=hi->hi<=n->(∀i,i<lo->bey rk left key arr (base+i)=true)->(∀i,hi<=i->i<n->bey rk left key arr (base+i)=false)->wpS (!2) A E s (forIn [:n] (none,lo,hi) f>>=g) Q st:=by
  intro f g hf hg lo hi hlh hhn hl hh
  refine NZ (Oo (wpS_forRange (I:=λi c st'=>st'=st/\∃l h,c=(none,l,h)/\l<=h/\h<=n/\h-l<=n-i/\(∀i,i<l->bey rk left key arr (base+i)=true)/\∀i,h<=i->i<n->bey rk left key arr (base+i)=false)
   (Q:=λc st'=>st'=st/\∃l h,c=(none,l,h)/\l=h/\h<=n/\(∀i,i<l->bey rk left key arr (base+i)=true)/\∀i,h<=i->i<n->bey rk left key arr (base+i)=false) ?_ ?_ ⟨rfl,lo,hi,rfl,hlh,hhn,by omega,hl,hh⟩) ?_)
  ·rintro i c st' _ hi' ⟨rfl,l,h,rfl,h1,h2,h3,h4,h5⟩;refine hf i l h _ (λq=>⟨rfl,l,h,rfl,by omega,h2,h4,h5⟩) λq=>⟨by omega,λe=>⟨rfl,_,_,rfl,by omega,h2,by omega,λj hj=>hm j _ (!1) (!1) e,h5⟩,λe=>⟨rfl,_,_,rfl,by omega,by omega,by omega,h4,λj hj hjn=>hm2 _ j hj hjn e⟩⟩
  ·rintro c st' ⟨rfl,l,h,rfl,h1,h2,h3,h4,h5⟩;exact⟨rfl,l,h,rfl,by omega,h2,h4,h5⟩
  ·rintro c st' ⟨rfl,l,h',rfl,h1,h2,h4,h5⟩;exact hg l h' (h h' h2 (by rw[<-h1];exact h4) h5)
 refine NZ (lQ L hk hkey ha (!1) ?_);cases e:bey rk left key arr (base+hint)with
 |true=>
  refine NZ (Oo (wpS_forRange (I:=λi c st'=>st'=st/\∃l o,c=(none,l,o)/\l<o/\i<o/\hint+l<n/\bey rk left key arr (base+(hint+l))=true)
   (Q:=λc st'=>st'=st/\∃l o,c=(none,l,o)/\l<o/\hint+l<n/\bey rk left key arr (base+(hint+l))=true/\(n-hint<=o\/bey rk left key arr (base+(hint+o))=false)) ?_ ?_ ⟨rfl,0,1,rfl,by omega,by omega,by omega,e⟩) ?_)
  ·rintro i c st' _ hi' ⟨rfl,l,o,rfl,h1,h2,h3,h4⟩;dsimp only;by_cases q:o≥n-hint
   ·rw[if_pos q];exact N0 ⟨rfl,l,o,rfl,h1,h3,h4,.inl q⟩
   ·rw[if_neg q];refine NZ (lQ L hk hkey ha (!1) ?_);cases e2:bey rk left key arr (base+(hint+o))with
    |true=>
     exact N0 ⟨rfl,_,_,rfl,by omega,by omega,by omega,e2⟩
    |false=>
     exact N0 ⟨rfl,l,o,rfl,h1,h3,h4,.inr e2⟩
  ·rintro c st' ⟨rfl,l,o,rfl,h1,h2,h3,h4⟩;exact⟨rfl,l,o,rfl,h1,h3,h4,.inl (!1)⟩
  ·rintro c st' ⟨rfl,l,o,rfl,h1,h3,h4,h5⟩;refine fin _ _ ?_ ?_ (hint+l+1) (hint+min o _) (!1) (!1) (λj hj=>hm j _ (!1) (!1) h4) (λj hj hjn=>?_)
   ·intro x l h Q' q1 q2;dsimp only;by_cases q:l≥h
    ·rw[if_pos q];exact N0 (q1 q)
    ·rw[if_neg q];obtain⟨b1,b2,b3⟩:=q2 q;refine NZ (lQ L hk hkey ha b1 ?_);dsimp only;cases e3:bey rk left key arr (base+(l+(h-l)/2))with
     |true=>rw[if_pos rfl];exact N0 (b2 e3)
     |false=>rw[if_neg Bool.false_ne_true];exact N0 (b3 e3)
   ·exactλl h q=>N0 q
   ·rcases h5 with h5|h5
    ·omega
    ·exact hm2 _ j (!1) hjn h5
 |false=>
  refine NZ (Oo (wpS_forRange (I:=λi c st'=>st'=st/\∃l o,c=(none,l,o)/\l<o/\i<o/\l<=hint/\bey rk left key arr (base+(hint-l))=false)
   (Q:=λc st'=>st'=st/\∃l o,c=(none,l,o)/\l<o/\l<=hint/\bey rk left key arr (base+(hint-l))=false/\(hint+1<=o\/bey rk left key arr (base+(hint-o))=true)) ?_ ?_ ⟨rfl,0,1,rfl,by omega,by omega,by omega,e⟩) ?_)
  ·rintro i c st' _ hi' ⟨rfl,l,o,rfl,h1,h2,h3,h4⟩;dsimp only;by_cases q:o≥hint+1
   ·rw[if_pos q];exact N0 ⟨rfl,l,o,rfl,h1,h3,h4,.inl q⟩
   ·rw[if_neg q];refine NZ (lQ L hk hkey ha (!1) ?_);cases e2:bey rk left key arr (base+(hint-o))with
    |true=>
     exact N0 ⟨rfl,l,o,rfl,h1,h3,h4,.inr e2⟩
    |false=>
     exact N0 ⟨rfl,_,_,rfl,by omega,by omega,by omega,e2⟩
  ·rintro c st' ⟨rfl,l,o,rfl,h1,h2,h3,h4⟩;exact⟨rfl,l,o,rfl,h1,h3,h4,.inl (!1)⟩
  ·rintro c st' ⟨rfl,l,o,rfl,h1,h3,h4,h5⟩;refine fin _ _ ?_ ?_ (hint+1-min o _) (hint-l) (!1) (!1) (λj hj=>?_) (λj hj hjn=>hm2 _ j hj hjn h4)
   ·intro x l h Q' q1 q2;dsimp only;by_cases q:l≥h
    ·rw[if_pos q];exact N0 (q1 q)
    ·rw[if_neg q];obtain⟨b1,b2,b3⟩:=q2 q;refine NZ (lQ L hk hkey ha b1 ?_);dsimp only;cases e3:bey rk left key arr (base+(l+(h-l)/2))with
     |true=>rw[if_pos rfl];exact N0 (b2 e3)
     |false=>rw[if_neg Bool.false_ne_true];exact N0 (b3 e3)
   ·exactλl h q=>N0 q
   ·rcases h5 with h5|h5
    ·omega
    ·exact hm j _ (!1) (!1) h5
end
end L2
namespace L2
open PySem PySem.W PyProof.Rows
section
variable {rk:Keyed->Int}
def Srt (rk:Keyed->Int) (l:List Keyed):Prop:=l.Pairwise λx y=>rk x<=rk y
def Le (rk:Keyed->Int) (l m:List Keyed):Prop:=∀x∈l,∀y∈m,rk x<=rk y
theorem Srt.app (h1:Srt rk l) (h2:Srt rk m) (h:Le rk l m):Srt rk (l++m):=List.pairwise_append.mpr ⟨h1,h2,h⟩
theorem Srt.drop (h:Srt rk l) (i:Nat):Srt rk (l.drop i):=h.sublist (List.drop_sublist _ _)
theorem Srt.take (h:Srt rk l) (i:Nat):Srt rk (l.take i):=h.sublist (List.take_sublist _ _)
theorem Srt.parts (h:Srt rk l) (i:Nat):Le rk (l.take i) (l.drop i):=by
 have:=h;rw[<-List.take_append_drop i l]at this;exact(List.pairwise_append.mp this).2.2
theorem Le.sub (h:Le rk l m) (h1:∀x∈l',x∈l) (h2:∀x∈m',x∈m):Le rk l' m':=λx hx y hy=>h x (h1 x hx) y (h2 y hy)
theorem Le.app (h:Le rk l m) (h':Le rk l' m):Le rk (l++l') m:=by grind [Le]
structure MI (rk:Keyed->Int) (A B O:List Keyed) (i j:Nat):Prop where
 pm:O.Perm (A.take i++B.take j)
 st:Srt rk O
 la:Le rk O (A.drop i)
 lb:Le rk O (B.drop j)
variable {A B O:List Keyed} {i j k:Nat}
theorem MI.extA (h:MI rk A B O i j) (hA:Srt rk A) (hl:Le rk ((A.drop i).take k) (B.drop j)):MI rk A B (O++(A.drop i).take k) (i+k) j where
 pm:=by
  have e:A.take (i+k)=A.take i++(A.drop i).take k:=List.take_add;rw[e];refine(h.pm.append_right _).trans ?_;rw[List.append_assoc,List.append_assoc];exact List.perm_append_comm.append_left _
 st:=h.st.app ((hA.drop i).take k) (h.la.sub (λ_ z=>z) λ_ z=>List.mem_of_mem_take z)
 la:=by
  have e:A.drop (i+k)=(A.drop i).drop k:=(List.drop_drop ..).symm;rw[e];exact(h.la.sub (λ_ z=>z) λ_ z=>List.mem_of_mem_drop z).app ((hA.drop i).parts k)
 lb:=h.lb.app hl
theorem MI.swap (h:MI rk A B O i j):MI rk B A O j i:=⟨h.pm.trans List.perm_append_comm,h.st,h.lb,h.la⟩
theorem MI.extB (h:MI rk A B O i j) (hB:Srt rk B) (hl:Le rk ((B.drop j).take k) (A.drop i)):MI rk A B (O++(B.drop j).take k) i (j+k):=(h.swap.extA hB hl).swap
theorem MI.fin (h:MI rk A B O i j) (hA:Srt rk A) (hB:Srt rk B) (hl:Le rk (A.drop i) (B.drop j)):(O++A.drop i++B.drop j).Perm (A++B)/\Srt rk (O++A.drop i++B.drop j):=by
 refine⟨?_,(h.st.app (hA.drop i) h.la).app (hB.drop j) (h.lb.app hl)⟩;refine((h.pm.append_right _).append_right _).trans ?_;conv=>rhs;rw[<-List.take_append_drop i A,<-List.take_append_drop j B]
 grind
theorem MI.fin' (h:MI rk A B O i j) (hA:Srt rk A) (hB:Srt rk B) (hl:Le rk (B.drop j) (A.drop i)):(O++B.drop j++A.drop i).Perm (A++B)/\Srt rk (O++B.drop j++A.drop i):=
 (h.swap.fin hB hA hl).imp (λp=>p.trans List.perm_append_comm) id
structure MH (rk:Keyed->Int) (A B R:List Keyed) (i j:Nat):Prop where
 pm:R.Perm (A.drop i++B.drop j)
 st:Srt rk R
 la:Le rk (A.take i) R
 lb:Le rk (B.take j) R
theorem Le.appR (h:Le rk l m) (h':Le rk l m'):Le rk l (m++m'):=by grind [Le]
theorem MH.extA {R:List Keyed} {i':Nat} (h:MH rk A B R i j) (hi:i'<=i) (hA:Srt rk A) (hl:Le rk (B.take j) ((A.take i).drop i')):MH rk A B ((A.take i).drop i'++R) i' j where
 pm:=by
  have e:A.drop i'=(A.take i).drop i'++A.drop i:=by
   conv=>lhs;rw[<-List.take_append_drop i A]
   rw[List.drop_append];by_cases hz:i<=A.length
   ·rw[List.length_take,Nat.min_eq_left hz,Nat.sub_eq_zero_of_le hi,List.drop_zero]
   ·rw[List.drop_of_length_le (l:=A) (!1),List.drop_nil]
  rw[e,List.append_assoc];exact h.pm.append_left _
 st:=((hA.take i).drop i').app h.st (h.la.sub (λ_ z=>List.mem_of_mem_drop z) λ_ z=>z)
 la:=by
  have e:A.take i'=(A.take i).take i':=by rw[List.take_take,Nat.min_eq_left hi]
  rw[e];exact((hA.take i).parts i').appR (h.la.sub (λ_ z=>List.mem_of_mem_take z) λ_ z=>z)
 lb:=hl.appR h.lb
theorem MH.swap (h:MH rk A B R i j):MH rk B A R j i:=⟨h.pm.trans List.perm_append_comm,h.st,h.lb,h.la⟩
theorem MH.extB (h:MH rk A B R i j) (hj:j'<=j) (hB:Srt rk B) (hl:Le rk (A.take i) ((B.take j).drop j')):MH rk A B ((B.take j).drop j'++R) i j':=(h.swap.extA hj hB hl).swap
theorem MH.fin (h:MH rk A B R i j) (hA:Srt rk A) (hB:Srt rk B) (hl:Le rk (A.take i) (B.take j)):(A.take i++B.take j++R).Perm (A++B)/\Srt rk (A.take i++B.take j++R):=by
 refine⟨?_,((hA.take i).app (hB.take j) hl).app h.st (h.la.app h.lb)⟩;refine(h.pm.append_left _).trans ?_;conv=>rhs;rw[<-List.take_append_drop i A,<-List.take_append_drop j B]
 rw[List.append_assoc,List.append_assoc];refine List.Perm.append_left _ ?_;rw[<-List.append_assoc,<-List.append_assoc];exact List.perm_append_comm.append_right _
theorem MH.fin' (h:MH rk A B R i j) (hA:Srt rk A) (hB:Srt rk B) (hl:Le rk (B.take j) (A.take i)):(B.take j++A.take i++R).Perm (A++B)/\Srt rk (B.take j++A.take i++R):=
 (h.swap.fin hB hA hl).imp (λp=>p.trans List.perm_append_comm) id
variable {a:Array Keyed} {n:Nat}
theorem pG (h:x∈(a.toList.drop i).take k):∃m,i<=m/\m<i+k/\m<a.size/\a[m]?=some x/\gAt rk a m=rk x:=by
 obtain⟨m,hm⟩:=List.mem_iff_getElem?.mp h;rw[List.getElem?_take]at hm;split at hm
 ·rw[List.getElem?_drop]at hm;have hl:=(N4.mp hm).1;have hx:a[i+m]?=some x:=by rw[<-Array.getElem?_toList];exact hm
  exact⟨i+m,by omega,by omega,hl,hx,by unfold gAt;rw[Array.getD_eq_getD_getElem?,hx];rfl⟩
 ·cases hm
theorem kL (h:x∈a.toList.drop i):∃m,i<=m/\m<a.size/\a[m]?=some x/\gAt rk a m=rk x:=by
 obtain⟨m,h1,_,h3,h4⟩:=pG (a:=a) (i:=i) (k:=a.size) (by rw[List.take_of_length_le (by rw[List.length_drop,Array.length_toList];omega)];exact h);exact⟨m,h1,h3,h4⟩
theorem kM (h:x∈a.toList.take k):∃m,m<k/\m<a.size/\a[m]?=some x/\gAt rk a m=rk x:=by
 obtain⟨m,h1,h2,h3,h4⟩:=pG (by rw[List.drop_zero];exact h);exact⟨m,by omega,h3,h4⟩
theorem gQ (h:Srt rk a.toList) (hij:i<=j) (hj:j<a.size):gAt rk a i<=gAt rk a j:=by
 have hi:i<a.size:=by omega
 have e:∀m (hm:m<a.size),gAt rk a m=rk a.toList[m]:=λm hm=>by unfold gAt;simp[Array.getD,hm]
 rcases Nat.lt_or_eq_of_le hij with q|q
 ·have:=List.pairwise_iff_getElem.mp h i j (by simpa using hi) (by simpa using hj) q;rw[e,e];exact this
 grind
theorem eJ (h:i<a.size):∃x,a[i]?=some x/\gAt rk a i=rk x/\(a.toList.drop i).take 1=[x]/\(a.toList.take (i+1)).drop i=[x]:=by
 refine⟨a[i],by simp[h],by unfold gAt;simp[Array.getD,h],?_,?_⟩
 ·rw[List.drop_eq_getElem_cons (by simpa using h)];simp
 ·rw[List.take_add_one,List.drop_append];simp[h,Nat.min_eq_left (Nat.le_of_lt h)]
end
end L2
namespace L2
open PySem PySem.W PyProof.Rows
def SG (st st':SortSt):Prop:=kindOf st'=kindOf st/\arrOf st'=arrOf st/\pendingOf st'=pendingOf st/\failedOf st'=failedOf st
theorem SG.refl (st:SortSt):SG st st:=⟨rfl,rfl,rfl,rfl⟩
def df (rk:Keyed->Int) (a b r:Array Keyed):Prop:=r.toList.Perm (a.toList++b.toList)/\Srt rk r.toList
section
variable {prog:Program} {w:World} {A:Around} {E:NJ} {s:Shared} {rk:Keyed->Int} {κ:SortKind} {ok:Keyed->Prop} {a b out:Array Keyed} {ia ib k:Nat}
theorem d8 (a:Array Keyed) (i j:Nat):(a.extract i j).toList=(a.toList.drop i).take (j-i):=by
 rw[Array.toList_extract]
theorem kN (a:Array Keyed) (i:Nat):(a.extract i a.size).toList=a.toList.drop i:=by
 rw[d8,List.take_of_length_le (by rw[List.length_drop,Array.length_toList];omega)]
theorem MI.pB (h:MI rk a.toList b.toList out.toList ia ib) (hB:Srt rk b.toList) (hy:b[ib]?=some y) (hl:Le rk [y] (a.toList.drop ia)):MI rk a.toList b.toList (out.push y).toList ia (ib+1):=by
 have hlt:=(Array.getElem?_eq_some_iff.mp hy).1;obtain⟨z,e1,_,e2,_⟩:=eJ (rk:=rk) hlt;rw[hy]at e1;cases e1;have:=h.extB hB (by rw[e2];exact hl);grind
theorem MI.pA (h:MI rk a.toList b.toList out.toList ia ib) (hA:Srt rk a.toList) (hy:a[ia]?=some y) (hl:Le rk [y] (b.toList.drop ib)):MI rk a.toList b.toList (out.push y).toList (ia+1) ib:=by
 have hlt:=(Array.getElem?_eq_some_iff.mp hy).1;obtain⟨z,e1,_,e2,_⟩:=eJ (rk:=rk) hlt;rw[hy]at e1;cases e1;have:=h.extA hA (by rw[e2];exact hl);grind
theorem MI.eA (h:MI rk a.toList b.toList out.toList ia ib) (hA:Srt rk a.toList) (hl:Le rk ((a.toList.drop ia).take k) (b.toList.drop ib)):MI rk a.toList b.toList (out++a.extract ia (ia+k)).toList (ia+k) ib:=by
 rw[Array.toList_append,d8,Nat.add_sub_cancel_left];exact h.extA hA hl
theorem MI.eB (h:MI rk a.toList b.toList out.toList ia ib) (hB:Srt rk b.toList) (hl:Le rk ((b.toList.drop ib).take k) (a.toList.drop ia)):MI rk a.toList b.toList (out++b.extract ib (ib+k)).toList ia (ib+k):=by
 rw[Array.toList_append,d8,Nat.add_sub_cancel_left];exact h.extB hB hl
theorem MI.done (h:MI rk a.toList b.toList out.toList ia ib) (hA:Srt rk a.toList) (hB:Srt rk b.toList) (hl:Le rk (a.toList.drop ia) (b.toList.drop ib)):df rk a b (out++a.extract ia a.size++b.extract ib b.size):=by
 have:=h.fin hA hB hl;unfold df;rw[Array.toList_append,Array.toList_append,kN,kN];exact this
theorem MI.done' (h:MI rk a.toList b.toList out.toList ia ib) (hA:Srt rk a.toList) (hB:Srt rk b.toList) (hl:Le rk (b.toList.drop ib) (a.toList.drop ia)):df rk a b (out++b.extract ib b.size++a.extract ia a.size):=by
 have:=h.fin' hA hB hl;unfold df;rw[Array.toList_append,Array.toList_append,kN,kN];exact this
theorem kO:Le rk l []:=λ_ _ _ h=>nomatch h
theorem kP:Le rk [] l:=λ_ h=>nomatch h
theorem iC (a:Array Keyed) (h:a.size<=i):a.toList.drop i=[]:=List.drop_of_length_le (by rw[Array.length_toList];exact h)
theorem lR (hA:Srt rk a.toList) (h:i<a.size->rk y<=gAt rk a i):Le rk [y] (a.toList.drop i):=λx hx z hz=>by
 cases Oe.mp hx;obtain⟨m,h1,h2,_,h4⟩:=kL (rk:=rk) hz;have:=gQ hA h1 h2;grind
theorem EC (h1:∀m,i<=m->m<i+k->m<p.size->gAt rk p m<=v) (h2:j<q.size->v<=gAt rk q j) (hq:Srt rk q.toList):Le rk ((p.toList.drop i).take k) (q.toList.drop j):=λx hx y hy=>by
 obtain⟨m,a1,a2,a3,_,a5⟩:=pG (rk:=rk) hx;obtain⟨m',c1,c2,_,c4⟩:=kL (rk:=rk) hy;have:=h1 m a1 a2 a3;have:=h2 (by(clear h1 h2 hq hx hy a1 a2 a3 a5 c4 this;omega));have:=gQ hq c1 c2;grind
theorem bey_F:(bey rk false key p i=true↔gAt rk p i<=rk key)/\(bey rk false key p i=false↔rk key<gAt rk p i):=by
 unfold bey;simp
theorem bey_T:(bey rk true key p i=true↔gAt rk p i<rk key)/\(bey rk true key p i=false↔rk key<=gAt rk p i):=by
 unfold bey;simp
theorem zw (h:bey rk l key p i=true):gAt rk p i<=rk key:=by grind [bey,gAt]
theorem zx (h:bey rk l key p i=false):rk key<=gAt rk p i:=by grind [bey,gAt]
theorem qZ (this:gAt rk p i<=gAt rk p j) (h:bey rk l key p j=true):bey rk l key p i=true:=by
 cases l
 ·exact bey_F.1.mpr (Int.le_trans this (bey_F.1.mp h))
 ·exact bey_T.1.mpr (Int.lt_of_le_of_lt this (bey_T.1.mp h))
theorem tU {st:SortSt} (L:bS prog w A s κ rk ok) (hk:kindOf st=κ) (hkey:ok key) (hp:AllOk ok p) (hs:Srt rk p.toList) (hn:hint<n) (hsz:base+n<=p.size) (h:∀k,k<=n->(∀m,base<=m->m<base+k->gAt rk p m<=rk key)->(∀m,base+k<=m->m<base+n->rk key<=gAt rk p m)->Q (some k) st):wpS (!2) A E s (gallop' l key p base n hint) Q st:=
 og L hk hkey hp hn hsz (λ_ _ hij hj=>qZ (gQ hs (Nat.add_le_add_left hij _) (N8 (Nat.add_lt_add_left hj _) hsz))) λk h1 h2 h3=>h k h1
  (λm m1 m2=>by
   obtain⟨d,rfl⟩:=Nat.exists_eq_add_of_le m1;exact zw (h2 d (Nat.lt_of_add_lt_add_left m2)))
  λm m1 m2=>by
   obtain⟨d,rfl⟩:=Nat.exists_eq_add_of_le m1;rw[Nat.add_assoc]at m2⊢;exact zx (h3 _ (Nat.le_add_right _ _) (Nat.lt_of_add_lt_add_left m2))
section
variable {α β γ:Type} {Q:α->SortSt->Prop} {st:SortSt} {p q:StateT SortSt Sem α}
theorem aI (h1:c->wpS (!2) A E s p Q st) (h2:¬c->wpS (!2) A E s q Q st):wpS (!2) A E s (@ite _ c d p q) Q st:=by
 split
 ·exact h1 ‹_›
 ·exact h2 ‹_›
theorem aU {x y:Nat} {d} (h1:x=y->wpS (!2) A E s p Q st) (h2:x≠y->wpS (!2) A E s q Q st):wpS (!2) A E s (@ite _ ((x==y)=true) d p q) Q st:=
 aI (λe=>h1 (eq_of_beq e)) λe=>h2 λz=>e (beq_iff_eq.mpr z)
theorem zy {jp:PUnit->β->StateT SortSt Sem α} (h:∀z,wpS (!2) A E s (jp ⟨⟩ z) Q st):wpS (!2) A E s (@ite _ c d (jp ⟨⟩ x) (jp ⟨⟩ y)) Q st:=
 aI (λ_=>h _) λ_=>h _
theorem tV {jp:PUnit->StateT SortSt Sem α} (P:SortSt->Prop) (hj:∀st',P st'->wpS (!2) A E s (jp ⟨⟩) Q st') (h:(∀st',P st'->wpS (!2) A E s (jp ⟨⟩) Q st')->wpS (!2) A E s p Q st):wpS (!2) A E s p Q st:=h hj
theorem GN {jp:PUnit->β->StateT SortSt Sem α} (P:β->SortSt->Prop) (hj:∀z st',P z st'->wpS (!2) A E s (jp ⟨⟩ z) Q st') (h:(∀z st',P z st'->wpS (!2) A E s (jp ⟨⟩ z) Q st')->wpS (!2) A E s p Q st):wpS (!2) A E s p Q st:=h hj
theorem pH {jp:PUnit->β->γ->StateT SortSt Sem α} (P:β->γ->Prop) (hj:∀o i,P o i->wpS (!2) A E s (jp ⟨⟩ o i) Q st) (h:(∀o i,P o i->wpS (!2) A E s (jp ⟨⟩ o i) Q st)->wpS (!2) A E s p Q st):wpS (!2) A E s p Q st:=h hj
end
def SV (rk:Keyed->Int) (a b:Array Keyed) (n:Nat) (out:Array Keyed) (i j:Nat):Prop:=MI rk a.toList b.toList out.toList i j/\i+1<a.size/\j<b.size/\n<=i+j
theorem SV.o (h:SV rk a b n out i j) (hm:m<=n):SV rk a b m out i j:=⟨h.1,h.2.1,h.2.2.1,Oa hm h.2.2.2⟩
theorem nl1 (h:n<=i+j):n+1<=i+1+j:=by omega
theorem nl2 (h:n<=i+j) (h1:i<=i') (h2:j+1<=j'):n<=i'+1+j':=by omega
theorem nl3 {i n:Nat} (h:i<n):i+(n-i)=n:=by omega
section
variable {α β γ δ ε ζ η U:Type} {st:SortSt}
theorem iv4 {V:α->β->γ->Prop} {P:Option U×α×β×γ×δ->SortSt->Prop} (h:∀st',SG st st'->∀o i j m,V o i j->P (none,o,i,j,m) st'):∀c st',(SG st st'/\∃o i j m,c=(none,o,i,j,m)/\V o i j)->P c st':=by
 rintro c st' ⟨sg,o,i,j,m,rfl,V⟩;exact h _ sg _ _ _ _ V
theorem iv5 {V:α->β->γ->Prop} {P:Option U×α×β×γ×δ×ε->SortSt->Prop} (h:∀st',SG st st'->∀o i j m n,V o i j->P (none,o,i,j,m,n) st'):∀c st',(SG st st'/\∃o i j m n,c=(none,o,i,j,m,n)/\V o i j)->P c st':=by
 rintro c st' ⟨sg,o,i,j,m,n,rfl,V⟩;exact h _ sg _ _ _ _ _ V
theorem iv6 {V:α->β->γ->Prop} {P:Option U×α×β×γ×δ×ε×ζ->SortSt->Prop} (h:∀st',SG st st'->∀o i j m n p,V o i j->P (none,o,i,j,m,n,p) st'):∀c st',(SG st st'/\∃o i j m n p,c=(none,o,i,j,m,n,p)/\V o i j)->P c st':=by
 rintro c st' ⟨sg,o,i,j,m,n,p,rfl,V⟩;exact h _ sg _ _ _ _ _ _ V
theorem io5 {G:U->Prop} {V:α->β->γ->Prop} {P:Option U×α×β×γ×δ×ε->SortSt->Prop} (g:∀st',SG st st'->∀r z,G r->P (some r,z) st') (h:∀st',SG st st'->∀o i j m n,V o i j->P (none,o,i,j,m,n) st'):∀c st',(SG st st'/\((∃r z,c=(some r,z)/\G r)\/∃o i j m n,c=(none,o,i,j,m,n)/\V o i j))->P c st':=by
 rintro c st' ⟨sg,⟨r,z,rfl,k⟩|⟨o,i,j,m,n,rfl,V⟩⟩
 ·exact g _ sg _ _ k
 ·exact h _ sg _ _ _ _ _ V
theorem io6 {G:U->Prop} {V:α->β->γ->Prop} {P:Option U×α×β×γ×δ×ε×ζ->SortSt->Prop} (g:∀st',SG st st'->∀r z,G r->P (some r,z) st') (h:∀st',SG st st'->∀o i j m n p,V o i j->P (none,o,i,j,m,n,p) st'):∀c st',(SG st st'/\((∃r z,c=(some r,z)/\G r)\/∃o i j m n p,c=(none,o,i,j,m,n,p)/\V o i j))->P c st':=by
 rintro c st' ⟨sg,⟨r,z,rfl,k⟩|⟨o,i,j,m,n,p,rfl,V⟩⟩
 ·exact g _ sg _ _ k
 ·exact h _ sg _ _ _ _ _ _ V
end
theorem at_k {P:Prop} (h:i<a.size) (k:∀y,a[i]?=some y->gAt rk a i=rk y->P):P:=by
 obtain⟨x,e1,e2,_⟩:=eJ h;exact k x e1 e2
theorem tW {st:SortSt} (L:bS prog w A s κ rk ok) (hk:kindOf st=κ) (ha:AllOk ok a) (hb:AllOk ok b) (hA:Srt rk a.toList) (hB:Srt rk b.toList) (h1a:1<=a.size) (h1b:1<=b.size) (h0:gAt rk b 0<=gAt rk a 0) (hlast:∀m,m<b.size->gAt rk b m<=gAt rk a (a.size-1)) (h:∀r st',SG st st'->df rk a b r->Q r st'):wpS (!2) A E s (mergeLo' a b) Q st:=by
 have dn1:∀ {out:Array Keyed} {ia ib:Nat},MI rk a.toList b.toList out.toList ia ib->ib=b.size->df rk a b (out++a.extract ia a.size++b.extract ib b.size):=λM e=>M.done hA hB (by rw[iC b (Nat.le_of_eq e.symm)];exact kO);have dn3:∀ {out:Array Keyed} {ia ib:Nat},MI rk a.toList b.toList out.toList ia ib->ia=a.size->df rk a b (out++a.extract ia a.size++b.extract ib b.size):=λM e=>M.done hA hB (by rw[iC a (Nat.le_of_eq e.symm)];exact kP);have dn2:∀ {out:Array Keyed} {ia ib:Nat},MI rk a.toList b.toList out.toList ia ib->ia+1=a.size->df rk a b (out++b.extract ib b.size++a.extract ia a.size):=λM e=>M.done' hA hB λx hx y hy=>by
  obtain⟨m,_,m2,_,m4⟩:=kL hx;obtain⟨m',k1,k2,_,k4⟩:=kL hy;have:=hlast m m2;rw[show a.size-1=m' by(clear L hk ha hb hA hB h1a h1b h0 hlast h dn1 dn3 M hx hy m2 m4 k4 this;omega),m4,k4]at this;exact this
 refine at_k (rk:=rk) h1b λy0 ey0 gy0=>?_;have M0:MI rk a.toList b.toList (#[y0]:Array Keyed).toList 0 1:=by
  have m0:MI rk a.toList b.toList (#[]:Array Keyed).toList 0 0:=⟨.refl _,List.Pairwise.nil,kP,kP⟩;exact m0.pB hB ey0 (lR hA λ_=>gy0▸h0)
 refine NZ (wpS_lift (wpAny_rule ⟨rfl,?_⟩));refine NZ (aF ey0 ?_);refine aU (λe=>N0 (h _ _ (SG.refl _) (dn1 M0 e))) λq1=>?_;refine aU (λe=>N0 (h _ _ (SG.refl _) (dn2 M0 e))) λq2=>?_;refine NZ (wpS_get ?_);refine NZ (Oo (wpS_forRange (I:=λx c st'=>SG st st'/\∃out i j mg,c=(none,out,i,j,mg)/\SV rk a b x out i j)
  (Q:=λc st'=>SG st st'/\∃r z,c=(some r,z)/\df rk a b r) ?_ ?_ ⟨SG.refl _,_,_,_,_,rfl,M0,Nat.lt_of_le_of_ne h1a q2,Nat.lt_of_le_of_ne h1b q1,Nat.zero_le _⟩) ?_)
 ·intro x c st' _ hx;revert c st';refine iv4 λst' sg out ia ib mg V=>?_;have M:=V.1;have b1:=V.2.1;have b2:=V.2.2.1;have hxx:=V.2.2.2;refine NZ (Oo (wpS_forRange (I:=λx1 c st'=>SG st st'/\∃out i j ac bc,c=(none,out,i,j,ac,bc)/\SV rk a b (ia+ib+x1) out i j)
   (Q:=λc st'=>SG st st'/\((∃r z,c=(some r,z)/\df rk a b r)\/∃out i j ac bc,c=(none,out,i,j,ac,bc)/\SV rk a b (ia+ib+1) out i j)) ?_ ?_ ⟨sg,_,_,_,_,_,rfl,M,b1,b2,Om _⟩) ?_)
  ·intro x1 c st1 _ hx1;revert c st1;refine iv5 λst1 sg out ja jb ac bc V=>?_;have M:=V.1;have b1:=V.2.1;have b2:=V.2.2.1;have hxx:=V.2.2.2;have ww:ia+ib+1<=ia+ib+(x1+1):=Nat.add_le_add_left (Nat.le_add_left _ _) _;refine at_k (rk:=rk) b2 λyb eb gb=>?_;refine at_k (rk:=rk) (Nat.lt_of_succ_lt b1) λya ea ga=>?_;refine NZ (aF eb (NZ (aF ea (NZ (qY L (sg.1.trans hk) (hb _ _ eb) (ha _ _ ea) ?_)))));refine aI (λq=>?_) λq=>?_
   ·have M':=M.pB hB eb (lR hA λ_=>ga▸Int.le_of_lt (N7 q));refine NZ (aF eb ?_);refine aU (λe=>N0 ⟨sg,.inl ⟨_,_,rfl,dn1 M' e⟩⟩) λe=>?_;have V:SV rk a b (ia+ib+(x1+1)) _ _ _:=⟨M',b1,Nat.lt_of_le_of_ne b2 e,Nat.succ_le_succ hxx⟩;exact aI (λ_=>N0 ⟨sg,.inr ⟨_,_,_,_,_,rfl,V.o ww⟩⟩) λ_=>N0 ⟨sg,_,_,_,_,_,rfl,V⟩
   ·have M':=M.pA hA ea (lR hB λ_=>gb▸Int.not_lt.mp λz=>q (decide_eq_true z));refine NZ (aF ea ?_);refine aU (λe=>N0 ⟨sg,.inl ⟨_,_,rfl,dn2 M' e⟩⟩) λe=>?_;have V:SV rk a b (ia+ib+(x1+1)) _ _ _:=⟨M',Nat.lt_of_le_of_ne b1 e,b2,nl1 hxx⟩;exact aI (λ_=>N0 ⟨sg,.inr ⟨_,_,_,_,_,rfl,V.o ww⟩⟩) λ_=>N0 ⟨sg,_,_,_,_,_,rfl,V⟩
  ·rintro c st1 ⟨sg,out,ja,jb,ac,bc,rfl,V⟩;exact⟨sg,.inr ⟨_,_,_,_,_,rfl,V.o (Nat.add_le_add_left (by(clear L hk ha hb hA hB h1b h0 hlast h dn1 dn3 dn2 ey0 gy0 M0 q1 q2 hx sg M b1 b2 V;omega)) _)⟩⟩
  ·refine io5 (λst1 sg r z g=>N0 ⟨sg,r,_,rfl,g⟩) λst1 sg out ja jb ac bc V=>?_
   ·refine NZ (wpS_lift (wpAny_rule ⟨rfl,?_⟩));refine NZ (Oo (wpS_forRange (I:=λ_ c st'=>SG st st'/\∃out i j mg ac bc,c=(none,out,i,j,mg,ac,bc)/\SV rk a b (ia+ib+1) out i j)
     (Q:=λc st'=>SG st st'/\((∃r z,c=(some r,z)/\df rk a b r)\/∃out i j mg ac bc,c=(none,out,i,j,mg,ac,bc)/\SV rk a b (ia+ib+1) out i j)) ?_ ?_ ⟨sg,_,_,_,_,_,_,rfl,V⟩) ?_)
    ·intro x2 c st2 _ hx2;revert c st2;refine iv6 λst2 sg out ja jb mg ac bc V=>?_;have M:=V.1;have b1:=V.2.1;have b2:=V.2.2.1;have hxx2:=V.2.2.2;have b3:=Nat.lt_of_succ_lt b1;refine at_k (rk:=rk) b2 λyb eb gb=>?_;extract_lets r0 s0 o' s1 i' s2 j' s3 g' s4 c' d' jp;refine zy λmg'=>?_;refine NZ (wpS_modify ?_);refine NZ (aF eb (NZ (tU L (sg.1.trans hk) (hb _ _ eb) ha hA (Nat.sub_pos_of_lt b3) (Nat.le_of_eq (nl3 b3)) λk hkn hlo hhi=>?_)));rw[nl3 b3]at hhi;have Mk:=M.eA hA (EC (λm m1 m2 _=>hlo m m1 m2) (λ_=>Int.le_of_eq gb.symm) hB);dsimp -zeta only;extract_lets ac2 jp;refine pH (jp:=jp) (λo i=>MI rk a.toList b.toList o.toList i jb/\i+1<a.size/\ja<=i/\rk yb<=gAt rk a i) ?_ λhj=>aI (λqk=>?_) λqk=>?_
     ·rintro o i ⟨Mk,c1,c2,c3⟩;refine at_k (rk:=rk) (Nat.lt_of_succ_lt c1) λya ea ga=>?_;have M2:=Mk.pB hB eb (lR hA λ_=>c3);refine NZ (aF eb ?_);refine aU (λe=>N0 ⟨sg,.inl ⟨_,_,rfl,dn1 M2 e⟩⟩) λe3=>?_;have b4:=Nat.lt_of_le_of_ne b2 e3;refine NZ (aF ea (NZ (tU L (sg.1.trans hk) (ha _ _ ea) hb hB (Nat.sub_pos_of_lt b4) (Nat.le_of_eq (nl3 b4)) λk1 hkn1 hlo1 hhi1=>?_)));rw[nl3 b4]at hhi1;dsimp -zeta only;extract_lets bc2 i2 jp;refine pH (jp:=jp) (λo j=>MI rk a.toList b.toList o.toList i j/\j<b.size/\jb+1<=j/\rk ya<=gAt rk b j) ?_ λhj=>aI (λqk=>?_) λqk=>?_
      ·rintro o j ⟨M3,d1,d2,d3⟩;have M4:=M3.pA hA ea (lR hB λ_=>d3);refine NZ (aF ea ?_);refine aU (λe=>N0 ⟨sg,.inl ⟨_,_,rfl,dn2 M4 e⟩⟩) λe=>?_;have V:SV rk a b (ia+ib+1) _ _ _:=⟨M4,Nat.lt_of_le_of_ne c1 e,d1,nl2 hxx2 c2 d2⟩;exact aI (λ_=>N0 ⟨sg,.inr ⟨_,_,_,_,_,_,rfl,V⟩⟩) λ_=>N0 ⟨sg,_,_,_,_,_,_,rfl,V⟩
      ·have M3:=M2.eB hB (EC (λm m1 m2 _=>hlo1 m m1 m2) (λ_=>Int.le_of_eq ga.symm) hA);exact aU (λe=>N0 ⟨sg,.inl ⟨_,_,rfl,dn1 M3 e⟩⟩) λe=>hj _ _ ⟨M3,Nat.lt_of_le_of_ne (nl3 b4▸Nat.add_le_add_left hkn1 _) e,Nat.le_add_right _ _,hhi1 _ (Om _) (Nat.lt_of_le_of_ne (nl3 b4▸Nat.add_le_add_left hkn1 _) e)⟩
      ·rw[Nat.eq_zero_of_not_pos qk]at hhi1;exact hj _ _ ⟨M2,b4,Om _,hhi1 _ (Om _) b4⟩
     ·refine aU (λe=>N0 ⟨sg,.inl ⟨_,_,rfl,dn2 Mk e⟩⟩) λe1=>?_;refine aU (λe=>N0 ⟨sg,.inl ⟨_,_,rfl,dn3 Mk e⟩⟩) λe2=>?_;have b5:=Nat.lt_of_le_of_ne (nl3 b3▸Nat.add_le_add_left hkn _) e2;exact hj _ _ ⟨Mk,Nat.lt_of_le_of_ne b5 e1,Nat.le_add_right _ _,hhi _ (Om _) b5⟩
     ·rw[Nat.eq_zero_of_not_pos qk]at hhi;exact hj _ _ ⟨M,b1,Om _,hhi _ (Om _) b3⟩
    ·rintro c st2 ⟨sg,out,ja,jb,mg,ac,bc,rfl,V⟩;exact⟨sg,.inr ⟨_,_,_,_,_,_,rfl,V⟩⟩
    ·refine io6 (λst2 sg r z g=>N0 ⟨sg,r,_,rfl,g⟩) λst2 sg out ja jb mg ac bc V=>?_
     ·refine NZ (wpS_modify ?_);exact N0 ⟨sg,_,_,_,_,rfl,V.o (Nat.succ_le_succ hxx)⟩
 ·rintro c st' ⟨sg,out,ia,ib,mg,rfl,M,b1,b2,hxx⟩;(clear L hk ha hb hA hB h1a h1b h0 hlast h dn1 dn3 dn2 ey0 gy0 M0 q1 q2 sg M;omega)
 ·rintro c st' ⟨sg,r,z,rfl,g⟩;exact N0 (h r _ sg g)
end
end L2
namespace L2
open PySem PySem.W PyProof.Rows
section
variable {prog:Program} {w:World} {A:Around} {E:NJ} {s:Shared} {rk:Keyed->Int} {κ:SortKind} {ok:Keyed->Prop} {a b out:Array Keyed} {na nb k:Nat}
theorem MH.pA (h:MH rk a.toList b.toList out.reverse.toList na nb) (h1:1<=na) (hA:Srt rk a.toList) (hy:a[na-1]?=some y) (hl:Le rk (b.toList.take nb) [y]):MH rk a.toList b.toList (out.push y).reverse.toList (na-1) nb:=by
 obtain⟨z,e1,_,_,e2⟩:=eJ (rk:=rk) (Array.getElem?_eq_some_iff.mp hy).1;rw[hy]at e1;cases e1;rw[Nat.sub_add_cancel h1]at e2;have:=h.extA (Nat.sub_le na 1) hA (by rw[e2];exact hl);grind
theorem MH.pB (h:MH rk a.toList b.toList out.reverse.toList na nb) (h1:1<=nb) (hB:Srt rk b.toList) (hy:b[nb-1]?=some y) (hl:Le rk (a.toList.take na) [y]):MH rk a.toList b.toList (out.push y).reverse.toList na (nb-1):=(h.swap.pA h1 hB hy hl).swap
theorem pI (a:Array Keyed) (i j:Nat):(a.extract i j).toList=(a.toList.take j).drop i:=by
 rw[d8,List.drop_take]
theorem MH.eA (h:MH rk a.toList b.toList out.reverse.toList na nb) (hk:k<=na) (hA:Srt rk a.toList) (hl:Le rk (b.toList.take nb) ((a.toList.take na).drop k)):MH rk a.toList b.toList (out++(a.extract k na).reverse).reverse.toList k nb:=by
 have:=h.extA hk hA hl;rw[Array.toList_reverse,Array.toList_append,Array.toList_reverse,List.reverse_append,List.reverse_reverse,pI];simp_all
theorem MH.eB (h:MH rk a.toList b.toList out.reverse.toList na nb) (hk:k<=nb) (hB:Srt rk b.toList) (hl:Le rk (a.toList.take na) ((b.toList.take nb).drop k)):MH rk a.toList b.toList (out++(b.extract k nb).reverse).reverse.toList na k:=by
 have:=h.extB hk hB hl;rw[Array.toList_reverse,Array.toList_append,Array.toList_reverse,List.reverse_append,List.reverse_reverse,pI];simp_all
theorem MH.done (h:MH rk a.toList b.toList out.reverse.toList na nb) (hA:Srt rk a.toList) (hB:Srt rk b.toList) (hl:Le rk (a.toList.take na) (b.toList.take nb)):df rk a b (a.extract 0 na++b.extract 0 nb++out.reverse):=by
 have:=h.fin hA hB hl;unfold df;simp_all
theorem MH.done' (h:MH rk a.toList b.toList out.reverse.toList na nb) (hA:Srt rk a.toList) (hB:Srt rk b.toList) (hl:Le rk (b.toList.take nb) (a.toList.take na)):df rk a b (b.extract 0 nb++a.extract 0 na++out.reverse):=by
 have:=h.fin' hA hB hl;unfold df;simp_all
theorem q0 (hA:Srt rk a.toList) (hi:i<=a.size) (h:0<i->gAt rk a (i-1)<=rk y):Le rk (a.toList.take i) [y]:=λx hx z hz=>by
 cases Oe.mp hz;obtain⟨m,h1,h2,_,h4⟩:=kM (rk:=rk) hx;have:=gQ hA (show m<=i-1 by(clear hA hi h hx hz h2 h4;omega)) (by(clear hA h hx hz h2 h4;omega));have:=h (by(clear hA hi h hx hz h2 h4 this;omega));(clear hA hi hx hz h2 this;omega)
theorem ED (hj:j<=q.size) (h1:0<j->gAt rk q (j-1)<=v) (h2:∀m,k<=m->m<i->m<p.size->v<=gAt rk p m) (hq:Srt rk q.toList):Le rk (q.toList.take j) ((p.toList.take i).drop k):=λx hx y hy=>by
 obtain⟨m,a1,a2,_,a4⟩:=kM (rk:=rk) hx;rw[<-pI,d8]at hy;obtain⟨m',c1,c2,c3,_,c5⟩:=pG (rk:=rk) hy;have:=gQ hq (show m<=j-1 by(clear hj h1 h2 hq hx hy a2 a4 c1 c2 c3 c5;omega)) (by(clear h1 h2 hq hx hy a2 a4 c1 c2 c3 c5;omega));grind
theorem vm {st:SortSt} (L:bS prog w A s κ rk ok) (hk:kindOf st=κ) (hkey:ok key) (hp:AllOk ok p) (hs:Srt rk p.toList) (hn:hint<n) (hsz:n<=p.size) (h:∀k,k<=n->(0<k->gAt rk p (k-1)<=rk key)->(∀m,k<=m->m<n->m<p.size->rk key<=gAt rk p m)->Q (some k) st):wpS (!2) A E s (gallop' l key p 0 n hint) Q st:=
 tU L hk hkey hp hs hn (by rw[Nat.zero_add];exact hsz) λk h1 h2 h3=>by
  rw[Nat.zero_add]at h2 h3;rw[Nat.zero_add]at h3;exact h k h1 (λz=>h2 _ (Nat.zero_le _) (Nat.sub_lt z Nat.one_pos)) λm m1 m2 _=>h3 m m1 m2
def SH (rk:Keyed->Int) (a b:Array Keyed) (N x:Nat) (out:Array Keyed) (i j:Nat):Prop:=MH rk a.toList b.toList out.reverse.toList i j/\1<=i/\2<=j/\i<=a.size/\j<=b.size/\x+i+j<=N
section
variable {N x y i j i' j':Nat} {out':Array Keyed}
theorem SH.o (h:SH rk a b N x out i j) (hm:y<=x):SH rk a b N y out i j:=by grind [SH]
theorem SH.p (h:SH rk a b N x out i j) (M:MH rk a.toList b.toList out'.reverse.toList (i-1) j) (e:i-1≠0):SH rk a b N (x+1) out' (i-1) j:=by grind [SH]
theorem SH.q (h:SH rk a b N x out i j) (M:MH rk a.toList b.toList out'.reverse.toList i (j-1)) (e:j-1≠1):SH rk a b N (x+1) out' i (j-1):=by grind [SH]
theorem SH.c (h:SH rk a b N x out i j) (M:MH rk a.toList b.toList out'.reverse.toList (i'-1) j') (h1:i'<=i) (h2:j'<=j-1) (h3:2<=j') (e:i'-1≠0):SH rk a b N x out' (i'-1) j':=by grind [SH]
theorem nh1 (h:i<=j) (e:¬j-i>0):i=j:=by omega
theorem nh2 (h:i≠1) (e:i≠0):2<=i:=by omega
theorem nh3 (h:1<=i) (e:i<=j):i-1<j:=by omega
theorem nh5 (h:x+i+j<=N) (e:1+i'+j'<=i+j):x+1+i'+j'<=N:=by omega
theorem nh4 (h:2<=i) (e:i-1≠1):2<=i-1:=by omega
end
theorem tX {st:SortSt} (L:bS prog w A s κ rk ok) (hk:kindOf st=κ) (ha:AllOk ok a) (hb:AllOk ok b) (hA:Srt rk a.toList) (hB:Srt rk b.toList) (h1a:1<=a.size) (h1b:1<=b.size) (h0:gAt rk b 0<=gAt rk a 0) (hlast:∀m,m<b.size->gAt rk b m<=gAt rk a (a.size-1)) (h:∀r st',SG st st'->df rk a b r->Q r st'):wpS (!2) A E s (mergeHi' a b) Q st:=by
 have dn1:∀ {out:Array Keyed} {na nb:Nat},MH rk a.toList b.toList out.reverse.toList na nb->na=0->df rk a b (a.extract 0 na++b.extract 0 nb++out.reverse):=λM e=>M.done hA hB (by rw[e,List.take_zero];exact kP);have dn3:∀ {out:Array Keyed} {na nb:Nat},MH rk a.toList b.toList out.reverse.toList na nb->nb=0->df rk a b (a.extract 0 na++b.extract 0 nb++out.reverse):=λM e=>M.done hA hB (by rw[e,List.take_zero];exact kO);have dn2:∀ {out:Array Keyed} {na nb:Nat},MH rk a.toList b.toList out.reverse.toList na nb->nb=1->df rk a b (b.extract 0 nb++a.extract 0 na++out.reverse):=λM e=>M.done' hA hB λx hx y hy=>by
  obtain⟨m,m1,m2,_,m4⟩:=kM (rk:=rk) hx;obtain⟨m',k1,k2,_,k4⟩:=kM (rk:=rk) hy;have:=gQ hA (Nat.zero_le m') k2;rw[Nat.lt_one_iff.mp (Nat.lt_of_lt_of_eq m1 e)]at m4;rw[<-m4,<-k4];exact Int.le_trans h0 this
 refine at_k (rk:=rk) (nh3 h1a (Om _)) λy0 ey0 gy0=>?_;have M0:MH rk a.toList b.toList (#[y0]:Array Keyed).reverse.toList (a.size-1) b.size:=by
  have m0:MH rk a.toList b.toList (#[]:Array Keyed).reverse.toList a.size b.size:=⟨by
   rw[iC a (le_refl _),iC b (le_refl _)];exact .refl _,List.Pairwise.nil,kO,kO⟩
  exact m0.pA h1a hA ey0 (q0 hB (Om _) λz=>gy0▸hlast _ (Nat.sub_lt z Nat.one_pos))
 refine NZ (wpS_lift (wpAny_rule ⟨rfl,?_⟩));refine NZ (aF ey0 ?_);refine aU (λe=>N0 (h _ _ (SG.refl _) (dn1 M0 e))) λq1=>?_;refine aU (λe=>N0 (h _ _ (SG.refl _) (dn2 M0 e))) λq2=>?_;refine NZ (wpS_get ?_);refine NZ (Oo (wpS_forRange (I:=λx c st'=>SG st st'/\∃i j out mg,c=(none,i,j,out,mg)/\SH rk a b (a.size+b.size) x out i j)
  (Q:=λc st'=>SG st st'/\∃r z,c=(some r,z)/\df rk a b r) ?_ ?_ ⟨SG.refl _,_,_,_,_,rfl,M0,Nat.pos_of_ne_zero q1,nh2 q2 (Nat.ne_of_gt h1b),Nat.sub_le _ _,Om _,by(clear L hk ha hb hA hB h1a h1b h0 hlast h dn1 dn3 dn2 ey0 gy0 M0 q1 q2;omega)⟩) ?_)
 ·intro x c st' _ hx;revert c st';refine iv4 λst' sg na nb out mg V=>?_;have M:=V.1;have b1:=V.2.1;have b2:=V.2.2.1;have b3:=V.2.2.2.1;have b4:=V.2.2.2.2.1;have hxx:=V.2.2.2.2.2;refine NZ (Oo (wpS_forRange (I:=λx1 c st'=>SG st st'/\∃i j out ac bc,c=(none,i,j,out,ac,bc)/\SH rk a b (na+nb) x1 out i j)
   (Q:=λc st'=>SG st st'/\((∃r z,c=(some r,z)/\df rk a b r)\/∃i j out ac bc,c=(none,i,j,out,ac,bc)/\SH rk a b (na+nb) 1 out i j)) ?_ ?_ ⟨sg,_,_,_,_,_,rfl,M,b1,b2,b3,b4,by rw[Nat.zero_add];exact Om _⟩) ?_)
  ·intro x1 c st1 _ hx1;revert c st1;refine iv5 λst1 sg ja jb out ac bc V=>?_;have ww:=Nat.le_add_left 1 x1;have M:=V.1;have b1:=V.2.1;have b2:=V.2.2.1;have b3:=V.2.2.2.1;have b4:=V.2.2.2.2.1;refine at_k (rk:=rk) (nh3 (Nat.le_of_succ_le b2) b4) λyb eb gb=>?_;refine at_k (rk:=rk) (nh3 b1 b3) λya ea ga=>?_;refine NZ (aF eb (NZ (aF ea (NZ (qY L (sg.1.trans hk) (hb _ _ eb) (ha _ _ ea) ?_)))));refine aI (λq=>?_) λq=>?_
   ·have M':=M.pA b1 hA ea (q0 hB b4 λ_=>gb▸Int.le_of_lt (N7 q));refine NZ (aF ea ?_);refine aU (λe=>N0 ⟨sg,.inl ⟨_,_,rfl,dn1 M' e⟩⟩) λe=>?_;exact aI (λ_=>N0 ⟨sg,.inr ⟨_,_,_,_,_,rfl,(V.p M' e).o ww⟩⟩) λ_=>N0 ⟨sg,_,_,_,_,_,rfl,V.p M' e⟩
   ·have M':=M.pB (Nat.le_of_succ_le b2) hB eb (q0 hA b3 λ_=>ga▸Int.not_lt.mp λz=>q (decide_eq_true z));refine NZ (aF eb ?_);refine aU (λe=>N0 ⟨sg,.inl ⟨_,_,rfl,dn2 M' e⟩⟩) λe=>?_;exact aI (λ_=>N0 ⟨sg,.inr ⟨_,_,_,_,_,rfl,(V.q M' e).o ww⟩⟩) λ_=>N0 ⟨sg,_,_,_,_,_,rfl,V.q M' e⟩
  ·rintro c st1 ⟨sg,ja,jb,out,ac,bc,rfl,V⟩;exact⟨sg,.inr ⟨_,_,_,_,_,rfl,V.o (by(clear L hk ha hb hA hB h1b h0 hlast h dn1 dn3 dn2 ey0 gy0 M0 q1 q2 hx sg M b1 b2 b3 b4 V hxx;omega))⟩⟩
  ·refine io5 (λst1 sg r z g=>N0 ⟨sg,r,_,rfl,g⟩) λst1 sg ja jb out ac bc V=>?_
   ·refine NZ (wpS_lift (wpAny_rule ⟨rfl,?_⟩));refine NZ (Oo (wpS_forRange (I:=λ_ c st'=>SG st st'/\∃i j out mg ac bc,c=(none,i,j,out,mg,ac,bc)/\SH rk a b (na+nb) 1 out i j)
     (Q:=λc st'=>SG st st'/\((∃r z,c=(some r,z)/\df rk a b r)\/∃i j out mg ac bc,c=(none,i,j,out,mg,ac,bc)/\SH rk a b (na+nb) 1 out i j)) ?_ ?_ ⟨sg,_,_,_,_,_,_,rfl,V⟩) ?_)
    ·intro x2 c st2 _ hx2;revert c st2;refine iv6 λst2 sg ja jb out mg ac bc V=>?_;have M:=V.1;have b1:=V.2.1;have b2:=V.2.2.1;have b3:=V.2.2.2.1;have b4:=V.2.2.2.2.1;have b5:=nh3 (Nat.le_of_succ_le b2) b4;refine at_k (rk:=rk) b5 λyb eb gb=>?_;extract_lets r0 s0 i' s1 j' s2 o' s3 g' s4 c' d' jp;refine zy λmg'=>?_;refine NZ (wpS_modify ?_);refine NZ (aF eb (NZ (vm L (sg.1.trans hk) (hb _ _ eb) ha hA (nh3 b1 (Om _)) b3 λk hkn hlo hhi=>?_)));have Mk:=M.eA hkn hA (ED b4 (λ_=>Int.le_of_eq gb) hhi hB);dsimp -zeta only;extract_lets ac2 k2 jp;refine pH (jp:=jp) (λi o=>MH rk a.toList b.toList o.reverse.toList i jb/\1<=i/\i<=ja/\gAt rk a (i-1)<=rk yb) ?_ λhj=>aI (λqk=>?_) λqk=>?_
     ·rintro i o ⟨Mk,c1,c2,c3⟩;refine at_k (rk:=rk) (nh3 c1 (Oa c2 b3)) λya ea ga=>?_;have M2:=Mk.pB (Nat.le_of_succ_le b2) hB eb (q0 hA (Oa c2 b3) λ_=>c3);refine NZ (aF eb ?_);refine aU (λe=>N0 ⟨sg,.inl ⟨_,_,rfl,dn2 M2 e⟩⟩) λe3=>?_;have b6:=nh4 b2 e3;refine NZ (aF ea (NZ (vm L (sg.1.trans hk) (ha _ _ ea) hb hB (nh3 (Nat.le_of_succ_le b6) (Om _)) (Oi b5) λk1 hkn1 hlo1 hhi1=>?_)));dsimp -zeta only;extract_lets bc2 i2 i3 jp;refine pH (jp:=jp) (λj o=>MH rk a.toList b.toList o.reverse.toList i j/\2<=j/\j<=jb-1/\gAt rk b (j-1)<=rk ya) ?_ λhj=>aI (λqk=>?_) λqk=>?_
      ·rintro j o ⟨M3,d1,d2,d3⟩;have M4:=M3.pA c1 hA ea (q0 hB (Oa d2 (Oi b5)) λ_=>d3);refine NZ (aF ea ?_);refine aU (λe=>N0 ⟨sg,.inl ⟨_,_,rfl,dn1 M4 e⟩⟩) λe=>?_;exact aI (λ_=>N0 ⟨sg,.inr ⟨_,_,_,_,_,_,rfl,V.c M4 c2 d2 d1 e⟩⟩) λ_=>N0 ⟨sg,_,_,_,_,_,_,rfl,V.c M4 c2 d2 d1 e⟩
      ·have M3:=M2.eB hkn1 hB (ED (Oa c2 b3) (λ_=>Int.le_of_eq ga) hhi1 hA);refine aU (λe=>N0 ⟨sg,.inl ⟨_,_,rfl,dn2 M3 e⟩⟩) λe4=>?_;exact aU (λe=>N0 ⟨sg,.inl ⟨_,_,rfl,dn3 M3 e⟩⟩) λe=>hj _ _ ⟨M3,nh2 e4 e,hkn1,hlo1 (Nat.pos_of_ne_zero e)⟩
      ·rw[nh1 hkn1 qk]at hlo1;exact hj _ _ ⟨M2,b6,Om _,hlo1 (Nat.le_of_succ_le b6)⟩
     ·exact aU (λe=>N0 ⟨sg,.inl ⟨_,_,rfl,dn1 Mk e⟩⟩) λe=>hj _ _ ⟨Mk,Nat.pos_of_ne_zero e,hkn,hlo (Nat.pos_of_ne_zero e)⟩
     ·rw[nh1 hkn qk]at hlo;exact hj _ _ ⟨M,b1,Om _,hlo b1⟩
    ·rintro c st2 ⟨sg,ja,jb,out,mg,ac,bc,rfl,V⟩;exact⟨sg,.inr ⟨_,_,_,_,_,_,rfl,V⟩⟩
    ·refine io6 (λst2 sg r z g=>N0 ⟨sg,r,_,rfl,g⟩) λst2 sg ja jb out mg ac bc V=>?_
     ·refine NZ (wpS_modify ?_);exact N0 ⟨sg,_,_,_,_,rfl,V.1,V.2.1,V.2.2.1,V.2.2.2.1,V.2.2.2.2.1,nh5 hxx V.2.2.2.2.2⟩
 ·rintro c st' ⟨sg,na,nb,out,mg,rfl,M,b1,b2,b3,b4,hxx⟩;(clear L hk ha hb hA hB h1a h1b h0 hlast h dn1 dn3 dn2 ey0 gy0 M0 q1 q2 sg M;omega)
 ·rintro c st' ⟨sg,r,z,rfl,g⟩;exact N0 (h r _ sg g)
end
end L2
namespace L2
open PySem PySem.W PyProof.Rows
section
variable {rk:Keyed->Int}
theorem q8:∀ (l:List Keyed) (c:Nat) (arr:Array Keyed) (o:Nat),o+c+l.length<=arr.size->((l.zipIdx c).foldl (λa x=>a.setIfInBounds (o+x.2) x.1) arr).toList=arr.toList.take (o+c)++l++arr.toList.drop (o+c+l.length)
 |[],c,arr,o,h=>by simp
 |x::l,c,arr,o,h=>by
  rw[length_cons]at h;rw[List.zipIdx_cons,List.foldl_cons,q8 l (c+1) _ o (by rw[Array.size_setIfInBounds];omega)];rw[Array.toList_setIfInBounds];have hl:o+c<arr.toList.length:=by rw[Array.length_toList];omega
  have e1:(arr.toList.set (o+c) x).take (o+(c+1))=arr.toList.take (o+c)++[x]:=by
   rw[show o+(c+1)=(o+c)+1 by omega,List.take_add_one,List.take_set_of_le (le_refl _),List.getElem?_set_self hl];rfl
  have e2:(arr.toList.set (o+c) x).drop (o+(c+1)+l.length)=arr.toList.drop (o+c+(l.length+1)):=by
   rw[List.drop_set_of_lt (by(clear h hl e1;omega)),show o+(c+1)+l.length=o+c+(l.length+1)by(clear h hl e1;omega)]
  rw[e1,e2,length_cons];simp
def gL (rk:Keyed->Int) (l:List Keyed) (i:Nat):Int:=rk (l.getD i (Value.none,Value.none))
theorem lS (arr:Array Keyed) (i:Nat):gAt rk arr i=gL rk arr.toList i:=by simp[gAt,gL]
theorem GO {pre s post} (h:i<s.length):gL rk (pre++(s++post)) (pre.length+i)=gL rk s i:=by
 unfold gL;grind
theorem GP (h:Srt rk l) (hij:i<=j) (hj:j<l.length):gL rk l i<=gL rk l j:=by
 have:=gQ h hij (by simpa using hj);rw[lS,lS]at this;exact this
theorem EF {l:List Keyed} {i:Nat} (h:i<l.length):gL rk l i=rk l[i]:=by
 unfold gL;grind
theorem q9 {pre s post:List Keyed} (h:k<=s.length):(pre++(s++post)).take (pre.length+k)=pre++s.take k:=by
 rw[List.take_append,List.take_of_length_le (!1),Nat.add_sub_cancel_left,List.take_append,Nat.sub_eq_zero_of_le h,List.take_zero,List.append_nil]
theorem zA {pre s post:List Keyed} (h:k<=s.length):(pre++(s++post)).drop (pre.length+k)=s.drop k++post:=by
 rw[List.drop_append,List.drop_of_length_le (!1),Nat.add_sub_cancel_left,List.drop_append,Nat.sub_eq_zero_of_le h,List.drop_zero,List.nil_append]
end
section
variable {prog:Program} {w:World} {A:Around} {E:NJ} {s:Shared} {rk:Keyed->Int} {κ:SortKind} {ok:Keyed->Prop}
theorem GQ {st} (h:Q ⟨⟩ x):wpS M A E s (set x:StateT SortSt Sem PUnit) Q st:=by
 exact NY ⟨rfl,h⟩
theorem AllOk.ext (h:AllOk ok a) (i j:Nat):AllOk ok (a.extract i j):=λm x hx=>by
 have:x∈(a.extract i j).toList:=by rw[Array.mem_toList_iff];exact Array.mem_of_getElem? hx
 rw[d8]at this;have h2:=List.mem_of_mem_drop (List.mem_of_mem_take this);rw[Array.mem_toList_iff]at h2;obtain⟨m',hm'⟩:=Array.mem_iff_getElem?.mp h2;exact h m' x hm'
noncomputable abbrev vn (p:Array (Nat×Nat×Nat)) (i sa n pw:Nat):Array (Nat×Nat×Nat):=(p.setIfInBounds i (sa,n,pw)).eraseIdxIfInBounds (i+1)
theorem vo {l:Bool} {key:Keyed} {arr:Array Keyed} {hint:Nat} {st:SortSt} {Q:Option Nat->SortSt->Prop} {pre t post:List Keyed} (L:bS prog w A s κ rk ok) (hk:kindOf st=κ) (hkey:ok key) (ha:AllOk ok arr) (hd:arr.toList=pre++(t++post)) (hs:Srt rk t) (hn:hint<t.length)
  (h:∀k,k<=t.length->(∀x∈t.take k,rk x<=rk key)->(∀x∈t.drop k,rk key<=rk x)->Q (some k) st):wpS (!2) A E s (gallop' l key arr pre.length t.length hint) Q st:=by
 have g:∀j,j<t.length->gAt rk arr (pre.length+j)=gL rk t j:=λj hj=>by rw[lS,hd,GO hj]
 refine og L hk hkey ha hn (by rw[<-Array.length_toList,hd];simp) (λx y hxy hy hb=>qZ ?_ hb) λk h1 h2 h3=>h k h1 (λx hx=>?_) λx hx=>?_
 ·rw[g x (!1),g y hy];exact GP hs hxy hy
 ·obtain⟨j,hj,e⟩:=List.mem_take_iff_getElem.mp hx;have:=zw (h2 j (!1));rw[g j (!1),EF (!1),e]at this;exact this
 ·obtain⟨j,hj,e⟩:=List.mem_drop_iff_getElem.mp hx;have:=zx (h3 (k+j) (Nat.le_add_right _ _) (!1));rw[g _ (!1),EF (!1),e]at this;exact this
theorem zB {st:SortSt} {pre t post:List Keyed} {i j:Nat} (hd:(!12).toList=pre++(t++post)) (hj:j<=t.length):((!12).extract (pre.length+i) (pre.length+j)).toList=(t.take j).drop i:=by
 rw[pI,hd,q9 hj,List.drop_append,List.drop_of_length_le (Nat.le_add_right _ _),Nat.add_sub_cancel_left,List.nil_append]
theorem EG {a:Array Keyed} {l:List Keyed} {m:Nat} (e:a.toList=l) (h:m<a.size):∃x∈l,gAt rk a m=rk x:=by
 obtain⟨x,e1,e2,_⟩:=eJ h;exact⟨x,by rw[<-e,Array.mem_toList_iff];exact Array.mem_of_getElem? e1,e2⟩
theorem tY {st:SortSt} {Q:Bool->SortSt->Prop} {i pw pw2:Nat} {pre s1 s2 post:List Keyed} (L:bS prog w A s κ rk ok) (hk:kindOf st=κ) (hf:failedOf st=none) (ha:AllOk ok (!12)) (hd:(!12).toList=pre++(s1++(s2++post)))
  (p1:(pendingOf st)[i]?=some (pre.length,s1.length,pw)) (p2:(pendingOf st)[i+1]?=some (pre.length+s1.length,s2.length,pw2)) (n1:1<=s1.length) (n2:1<=s2.length) (r1:Srt rk s1) (r2:Srt rk s2)
  (h:∀ (st':SortSt) (m:List Keyed),kindOf st'=κ->failedOf st'=none->pendingOf st'=vn (pendingOf st) i pre.length (s1.length+s2.length) pw->(!15).toList=pre++(m++post)->m.Perm (s1++s2)->Srt rk m->Q true st'):wpS (!2) A E s (mergeAt' i) Q st:=by
 refine NZ (wpS_get ?_)
 have p1':(PyProof.Rows.pendingOf st)[i]?=some _:=p1
 have p2':(PyProof.Rows.pendingOf st)[i+1]?=some _:=p2
 rw[p1',p2']
 clear p1' p2' p1 p2
 have hd2:(!12).toList=(pre++s1)++(s2++post):=by rw[hd,List.append_assoc]
 have hl:(pre++s1).length=pre.length+s1.length:=length_append
 have e1:(!12)[pre.length+(s1.length-1)]?=s1[s1.length-1]?:=by rw[<-Array.getElem?_toList,hd,getElem?_append_right (Nat.le_add_right _ _),Nat.add_sub_cancel_left,getElem?_append_left (Nat.sub_lt n1 Nat.one_pos)]
 have e2:(!12)[pre.length+s1.length]?=s2[0]?:=by rw[<-Array.getElem?_toList,hd2,<-hl,getElem?_append_right (le_refl _),Nat.sub_self,getElem?_append_left n2]
 obtain⟨yb,s2',rfl⟩:∃y t,s2=y::t:=by cases s2 with|nil=>cases n2|cons y t=>exact⟨y,t,rfl⟩
 obtain⟨s1',ya,rfl⟩:∃t y,s1=t++[y]:=⟨_,_,(List.dropLast_concat_getLast (by rintro rfl;cases n1)).symm⟩
 have lb:∀y∈yb::s2',rk yb<=rk y:=λy hy=>by
  rcases mem_cons.mp hy with rfl|hy
  ·exact Int.le_refl _
  ·exact(List.pairwise_cons.mp r2).1 y hy
 have ub:∀x∈s1'++[ya],rk x<=rk ya:=λx hx=>by
  rcases mem_append.mp hx with hx|hx
  ·exact(List.pairwise_append.mp r1).2.2 x hx ya N5
  ·cases Oe.mp hx;exact Int.le_refl _
 have e1:(!12)[pre.length+((s1'++[ya]).length-1)]?=some ya:=by rw[e1];simp
 have join:(∀x∈s1'++[ya],∀y∈yb::s2',rk x<=rk y)->Q true (SortSt.mk' (kindOf st) (!12) (vn (pendingOf st) i pre.length ((s1'++[ya]).length+(yb::s2').length) pw) (gallopOf st) (failedOf st)):=λhj=>h _ _ hk hf rfl (by rw[List.append_assoc];exact hd) (.refl _) (r1.app r2 hj)
 refine NZ (GQ ?_)
 refine NZ (aF e2 (NZ (vo L hk (ha _ _ e2) ha hd r1 (n1) λk hkn f1 f2=>?_)))
 refine aU (λq=>N0 (join λx hx y hy=>?_)) λq1=>?_
 ·rw[List.take_of_length_le (!1)]at f1;exact Int.le_trans (f1 x hx) (lb y hy)
 have hix:pre.length+k+((s1'++[ya]).length-k)-1=pre.length+((s1'++[ya]).length-1):=by omega
 rw[hix];refine NZ (aF e1 (NZ ?_));rw[<-hl];refine vo L hk (ha _ _ e1) ha hd2 r2 (Nat.sub_lt n2 Nat.one_pos) λnb hnb f3 f4=>?_;refine aU (λq=>N0 (join λx hx y hy=>?_)) λq2=>?_
 ·subst q;exact Int.le_trans (ub x hx) (f4 y hy)
 have xl:((!12).extract (pre.length+k) (pre++(s1'++[ya])).length).toList=(s1'++[ya]).drop k:=by rw[hl,zB hd (le_refl _),List.take_length]
 have yl:((!12).extract (pre++(s1'++[ya])).length ((pre++(s1'++[ya])).length+nb)).toList=(yb::s2').take nb:=zB (i:=0) hd2 hnb;extract_lets X σ jp;have xl:X.toList=(s1'++[ya]).drop k:=xl;have xs:X.size=(s1'++[ya]).length-k:=by rw[<-Array.length_toList,xl,List.length_drop]
 have ys:σ.size=nb:=by rw[<-Array.length_toList,yl,List.length_take];omega
 have sx:Srt rk X.toList:=by rw[xl];exact r1.drop k
 have sy:Srt rk σ.toList:=by rw[yl];exact r2.take nb
 have h0:gAt rk σ 0<=gAt rk X 0:=by
  obtain⟨x,hx,ex⟩:=EG xl (show 0<X.size by omega);rw[ex,show gAt rk σ 0=rk yb by rw[lS,yl];cases nb with|zero=>exact absurd rfl q2|succ n=>rfl];exact f2 x hx
 have hlast:∀m,m<σ.size->gAt rk σ m<=gAt rk X (X.size-1):=λm hm=>by
  obtain⟨y,hy,ey⟩:=EG yl hm;rw[ey,show gAt rk X (X.size-1)=rk ya by
   rw[lS,xl,xs];unfold gL;rw[List.getD_eq_getElem?_getD,List.getElem?_drop,show k+((s1'++[ya]).length-k-1)=s1'.length by rw[length_append]at q1⊢;simp at q1⊢;omega];simp]
  exact f3 y hy
 have hjp:∀ (r:Array Keyed) (st2:SortSt),kindOf st2=κ->arrOf st2=arrOf st->pendingOf st2=vn _ i pre.length _ pw->failedOf st2=none->df rk X σ r->wpS (!2) A E s (jp r) Q st2:=λr st2 w1 w2 w3 w4 ⟨pm,sr⟩=>by
  rw[xl,yl]at pm;have rl:r.toList.length=(s1'++[ya]).length-k+nb:=by rw[pm.length_eq,length_append,List.length_drop,List.length_take];omega
  have tk:(!12).toList.take (pre.length+k)=pre++(s1'++[ya]).take k:=by rw[hd,q9 hkn]
  have dr:(!12).toList.drop (pre.length+k+((s1'++[ya]).length-k+nb))=(yb::s2').drop nb++post:=by rw[hd2,show pre.length+k+((s1'++[ya]).length-k+nb)=(pre++(s1'++[ya])).length+nb by rw[hl];omega,zA hnb]
  have e:(failedOf st2).isNone=true:=by rw[w4];rfl
  refine NZ (wpS_modify (NZ (wpS_get (N0 ?_))));rw[e];refine h _ ((s1'++[ya]).take k++(r.toList++(yb::s2').drop nb)) w1 w4 w3 ?_ ?_ ?_
  ·show(r.toList.zipIdx.foldl _ (arrOf st2)).toList=_;rw[w2];refine(q8 r.toList 0 _ _ ?_).trans ?_
   ·have z1:=(congrArg List.length hd2).trans length_append;have z2:(yb::s2'++post).length=(yb::s2').length+post.length:=length_append;rw[Array.length_toList]at z1;omega
   ·rw[Nat.add_zero,rl,tk,dr];simp[List.append_assoc]
  ·refine((pm.append_right _).append_left _).trans ?_;rw[List.append_assoc,List.take_append_drop,<-List.append_assoc,List.take_append_drop]
  ·have le1:∀x∈(s1'++[ya]).take k,∀y∈yb::s2',rk x<=rk y:=λx hx y hy=>Int.le_trans (f1 x hx) (lb y hy);refine(r1.take k).app (sr.app (r2.drop nb) λx hx y hy=>?_) (Le.appR (λx hx y hy=>?_) λx hx y hy=>le1 x hx y (List.mem_of_mem_drop hy))
   ·rcases mem_append.mp (pm.mem_iff.mp hx)with q|q
    ·exact Int.le_trans (ub x (List.mem_of_mem_drop q)) (f4 y hy)
    ·exact r2.parts nb x q y hy
   ·rcases mem_append.mp (pm.mem_iff.mp hy)with q|q
    ·exact r1.parts k x hx y q
    ·exact le1 x hx y (List.mem_of_mem_take q)
 exact aI (λ_=>NZ (tW L hk (ha.ext _ _) (ha.ext _ _) sx sy (!1) (!1) h0 hlast λr st2 sg g=>hjp r st2 (sg.1.trans hk) sg.2.1 sg.2.2.1 (sg.2.2.2.trans hf) g)) λ_=>NZ (tX L hk (ha.ext _ _) (ha.ext _ _) sx sy (!1) (!1) h0 hlast λr st2 sg g=>hjp r st2 (sg.1.trans hk) sg.2.1 sg.2.2.1 (sg.2.2.2.trans hf) g)
end
end L2
namespace L2
open PySem PySem.W PyProof.Rows
section
variable {prog:Program} {w:World} {A:Around} {E:NJ} {s:Shared} {rk:Keyed->Int} {κ:SortKind} {ok:Keyed->Prop}
structure SK (κ:SortKind) (ok:Keyed->Prop) (a0:Array Keyed) (p0:Array (Nat×Nat×Nat)) (lo:Nat) (st:SortSt):Prop where
 kd:kindOf st=κ
 fl:failedOf st=none
 pd:pendingOf st=p0
 pm:(!12).Perm a0
 low:∀m:Nat,m<lo->(!12)[m]?=a0[m]?
 ok:AllOk ok (!12)
def UpF (rk:Keyed->Int) (arr:Array Keyed) (lo n:Nat):Prop:=∀i j,i<=j->j<n->gAt rk arr (lo+i)<=gAt rk arr (lo+j)
def DnF (rk:Keyed->Int) (arr:Array Keyed) (lo n:Nat):Prop:=∀i j,i<=j->j<n->gAt rk arr (lo+j)<=gAt rk arr (lo+i)
variable {a0:Array Keyed} {p0:Array (Nat×Nat×Nat)} {lo:Nat}
theorem SK.size {st} (h:SK κ ok a0 p0 lo st):(!12).size=a0.size:=h.pm.size_eq
theorem AllOk.perm (h:AllOk ok a) (p:b.Perm a):AllOk ok b:=λm x hx=>by
 have:x∈a:=p.mem_iff.mp (Array.mem_of_getElem? hx);obtain⟨m',hm'⟩:=Array.mem_iff_getElem?.mp this;exact h m' x hm'
theorem f7 {st} (L:bS prog w A s κ rk ok) (h:SK κ ok a0 p0 lo st) (hi:i<a0.size) (hj:j<a0.size) (hq:Q (some (decide (gAt rk (!12) i<gAt rk (!12) j))) st):wpS (!2) A E s (ltAt' i j) Q st:=by
 obtain⟨x,ex,gx,_⟩:=eJ (by rw[h.size];exact hi);obtain⟨y,ey,gy,_⟩:=eJ (by rw[h.size];exact hj);rw[gx,gy]at hq;refine NZ (wpS_get ?_);exact NZ (aF ex (NZ (aF ey (qY L h.kd (h.ok _ _ ex) (h.ok _ _ ey) hq))))
theorem SK.set {st} (h:SK κ ok a0 p0 lo st) (p:xs.Perm (!12)) (hl:∀m:Nat,m<lo->xs[m]?=(!12)[m]?):SK κ ok a0 p0 lo (setArr st xs):=⟨h.kd,h.fl,h.pd,p.trans h.pm,λm hm=>(hl m hm).trans (h.low m hm),h.ok.perm p⟩
theorem pJ {st} (h:SK κ ok a0 p0 lo st) (hi:lo<=i) (hj:j<=a0.size) (hq:SK κ ok a0 p0 lo (setArr st (mirror (!12) i j ((j-i)/2)))->(∀k:Nat,gAt rk (arrOf (setArr st (mirror (!12) i j ((j-i)/2)))) k=if i<=k/\k<j then gAt rk (!12) (i+j-1-k)else gAt rk (!12) k)->Q () (setArr st (mirror (!12) i j ((j-i)/2)))):wpS (!2) A E s (reverseSlice' i j) Q st:=by
 have e:=λk=>getElem?_mirror_all (i:=i) (by rw[h.size];exact hj) k;refine wpS_modify (hq (h.set (mirror_perm _ _ _ _) λm hm=>?_) λk=>?_)
 ·rw[e,if_neg (!1)]
 ·show gAt rk (mirror (!12) i j ((j-i)/2)) k=_;unfold gAt;rw[Array.getD_eq_getD_getElem?,e];split
  ·rw[Array.getD_eq_getD_getElem?]
  ·rw[Array.getD_eq_getD_getElem?]
theorem GR {st} (L:bS prog w A s κ rk ok) (h:SK κ ok a0 p0 lo st) (hn:lo+n<=a0.size) (ho:o<=n) (up:UpF rk (!12) lo o) (hq:∀st',SK κ ok a0 p0 lo st'->UpF rk (!15) lo n->Q true st'):wpS (!2) A E s (binarySort' lo n o) Q st:=by
 refine NZ (Oo (wpS_forRange (I:=λk c st'=>c=(none,())/\SK κ ok a0 p0 lo st'/\UpF rk (!15) lo k) (Q:=λc st'=>c=(none,())/\SK κ ok a0 p0 lo st'/\UpF rk (!15) lo n) ?_ ?_ ⟨rfl,h,λi j hij hj=>?_⟩) ?_)
 ·rintro k c st' hk1 hkn ⟨rfl,h,up⟩;refine NZ (Oo (wpS_forRange (I:=λi c st2=>st2=st'/\∃l r,c=(none,l,r)/\l<=r/\r<=k/\r-l<=k-i/\(∀i,i<l->gAt rk (!15) (lo+i)<=gAt rk (!15) (lo+k))/\∀i,r<=i->i<k->gAt rk (!15) (lo+k)<=gAt rk (!15) (lo+i))
   (Q:=λc st2=>st2=st'/\∃l r,c=(none,l,r)/\l=r/\r<=k/\(∀i,i<l->gAt rk (!15) (lo+i)<=gAt rk (!15) (lo+k))/\∀i,r<=i->i<k->gAt rk (!15) (lo+k)<=gAt rk (!15) (lo+i)) ?_ ?_ ⟨rfl,0,k,rfl,by omega,by omega,by omega,λi hi=>by omega,λi hi hi2=>by omega⟩) ?_)
  ·rintro i c st2 _ hi ⟨rfl,l,r,rfl,h1,h2,h3,h4,h5⟩;dsimp only;by_cases q:l≥r
   ·rw[if_pos q];exact N0 ⟨rfl,l,r,rfl,by omega,h2,h4,h5⟩
   rw[if_neg q];refine NZ (f7 L h (!1) (!1) ?_);dsimp only;by_cases e:gAt rk (arrOf st2) (lo+k)<gAt rk (arrOf st2) (lo+(l+r)/2)
   ·rw[if_pos (decide_eq_true e)];refine N0 ⟨rfl,l,(l+r)/2,rfl,by omega,by omega,by omega,h4,λm hm hm2=>?_⟩;have:=up _ m hm hm2;omega
   ·rw[if_neg (by simpa using e)];refine N0 ⟨rfl,(l+r)/2+1,r,rfl,by omega,h2,by omega,λm hm=>?_,h5⟩;have:=up m ((l+r)/2) (!1) (!1);omega
  ·rintro c st2 ⟨rfl,l,r,rfl,h1,h2,h3,h4,h5⟩;exact⟨rfl,l,r,rfl,by omega,h2,h4,h5⟩
  ·rintro c st2 ⟨rfl,l,r,rfl,rfl,h2,h4,h5⟩;have e:=λm=>getElem?_bubble (src:=lo+k) (by rw[h.size];omega) (lo+k-(lo+l)) (!1) m;have ge:∀m,gAt rk (bubble (arrOf st2) (lo+k) (lo+k-(lo+l))) (lo+m)=if m=l then gAt rk (arrOf st2) _ else if l<m/\m<=k then gAt rk (arrOf st2) _ else gAt rk (arrOf st2) _:=λm=>by
    unfold gAt;rw[Array.getD_eq_getD_getElem?,e];by_cases c1:m=l
    ·rw[if_pos c1,if_pos (!1),Array.getD_eq_getD_getElem?]
    ·rw[if_neg c1,if_neg (!1)];by_cases c2:l<m/\m<=k
     ·rw[if_pos c2,if_pos (!1),Array.getD_eq_getD_getElem?,show lo+m-1=lo+(m-1)by omega]
     ·rw[if_neg c2,if_neg (!1),Array.getD_eq_getD_getElem?]
   have hs:=h.set (bubble_perm _ _ _) λm hm=>by
    rw[e,if_neg (!1),if_neg (!1)]
   refine NZ (wpS_modify (N0 ⟨rfl,hs,λi j hij hj=>?_⟩));show gAt rk (bubble (arrOf st2) (lo+k) (lo+k-(lo+l))) (lo+i)<=gAt rk (bubble (arrOf st2) (lo+k) (lo+k-(lo+l))) (lo+j);rw[ge,ge];by_cases c1:i=l
   ·rw[if_pos c1];by_cases c2:j=l
    ·rw[if_pos c2];exact Int.le_refl _
    ·rw[if_neg c2,if_pos (!1)];exact h5 (j-1) (!1) (!1)
   ·rw[if_neg c1];by_cases c3:l<i/\i<=k
    ·rw[if_pos c3,if_neg (!1),if_pos (!1)];exact up (i-1) (j-1) (!1) (!1)
    ·rw[if_neg c3];by_cases c2:j=l
     ·rw[if_pos c2];exact h4 i (!1)
     ·rw[if_neg c2];by_cases c4:l<j/\j<=k
      ·rw[if_pos c4];exact up i (j-1) (!1) (!1)
      ·rw[if_neg c4];exact up i j hij (!1)
 ·rintro c st' ⟨rfl,h,up⟩;exact⟨rfl,h,λi j hij hj=>up i j hij (!1)⟩
 ·by_cases z:o=0
  ·have:i=j:=by omega
   rw[this];exact Int.le_refl _
  ·exact up i j hij (!1)
 ·rintro c st' ⟨rfl,h,up⟩;exact N0 (hq st' h up)
end
end L2
namespace L2
open PySem PySem.W PyProof.Rows
section
variable {prog:Program} {w:World} {A:Around} {E:NJ} {s:Shared} {rk:Keyed->Int} {κ:SortKind} {ok:Keyed->Prop} {a0:Array Keyed} {p0:Array (Nat×Nat×Nat)} {lo:Nat}
theorem zC {st} (h:SK κ ok a0 p0 lo st) (hf:∀x n (Q':ForInStep (Option (Option Nat)×Nat)->SortSt->Prop),lo+n<a0.size->1<=n->(gAt rk (!12) (lo+n)<gAt rk (!12) (lo+n-1)->Q' (.done (none,n)) st)->(¬gAt rk (!12) (lo+n)<gAt rk (!12) (lo+n-1)->Q' (.yield (none,n+1)) st)->wpS (!2) A E s (f x (none,n)) Q' st) (hn:lo+nrem<=a0.size) (h1:1<=n0) (h2:n0<=nrem) (up:UpF rk (!12) lo n0) (hq:∀n,n0<=n->n<=nrem->UpF rk (!12) lo n->(n=nrem\/gAt rk (!12) (lo+n)<gAt rk (!12) (lo+n-1))->Q (none,n) st):wpS (!2) A E s (forIn [n0:nrem] (none,n0) f) Q st:=by
 refine wpS_forRange (I:=λi c st'=>st'=st/\c=(none,i)/\UpF rk _ lo i) ?_ ?_ ⟨rfl,rfl,up⟩
 ·rintro i c st' hi1 hi2 ⟨rfl,rfl,up⟩;refine hf i i _ (!1) (!1) (λq=>hq i hi1 (!1) up (.inr q)) λq=>⟨rfl,rfl,λx y hxy hy=>?_⟩;rw[show lo+i-1=lo+(i-1)by omega]at q;by_cases e:y=i
  ·by_cases e2:x=i
   ·rw[e,e2];exact Int.le_refl _
   ·have:=up x (i-1) (!1) (!1);rw[e];omega
  ·exact up x y hxy (!1)
 grind
theorem tZ {st} (heq:∀m,a<=m->m<b->gAt rk (!12) m=v) (m:Nat):(if a<=m/\m<b then gAt rk (!12) (a+b-1-m)else gAt rk (!12) m)=gAt rk (!12) m:=by grind
theorem pK {st st2} (hd:DnF rk (!12) lo i) (hg:∀m,gAt rk (arrOf st2) m=gAt rk (!12) m) (hle:gAt rk (!12) (lo+i)<=gAt rk (!12) (lo+i-1)):DnF rk (arrOf st2) lo (i+1):=λx y hxy hy=>by
 rw[hg,hg];by_cases e:y=i
 ·by_cases e2:x=i
  ·rw[e,e2];exact Int.le_refl _
  ·have:=hd x (i-1) (!1) (!1);rw[show lo+(i-1)=lo+i-1 by omega]at this;rw[e];exact Int.le_trans hle this
 ·exact hd x y hxy (!1)
theorem zD {st} {g:Nat->Int} (hd:DnF rk (!12) lo i) (hg:∀m,g m=if lo<=m/\m<lo+i then gAt rk (!12) (lo+(lo+i)-1-m)else gAt rk (!12) m):∀x y,x<=y->y<i->g (lo+x)<=g (lo+y):=λx y hxy hy=>by
 rw[hg,hg,if_pos (!1),if_pos (!1),show lo+(lo+i)-1-(lo+x)=lo+(i-1-x)by omega,show lo+(lo+i)-1-(lo+y)=lo+(i-1-y)by omega];exact hd _ _ (!1) (!1)
theorem ra {st:SortSt} {g:Nat->Int} (h:∀i,i<n->g (lo+i)=v) (hl:g (lo+n)<v):∀x y,x<=y->y<n+1->g (lo+y)<=g (lo+x):=by grind
theorem zE {st} (L:bS prog w A s κ rk ok) (h:SK κ ok a0 p0 lo st) (hn:lo+nrem<=a0.size) (h1:1<=nrem) (hq:∀n st',1<=n->n<=nrem->SK κ ok a0 p0 lo st'->UpF rk (!15) lo n->Q (some n) st'):wpS (!2) A E s (countRun' lo nrem) Q st:=by
 refine NZ (zC h (λx n Q' b1 b2 q1 q2=>NZ (f7 L h b1 (N9 (Nat.sub_le _ _) b1) (aI (λq=>N0 (q1 (N7 q))) λq=>N0 (q2 λz=>q (decide_eq_true z))))) hn (Om _) h1 (λi j hij hj=>by rw[show i=j by omega];exact Int.le_refl _) λn n1 n2 up hend=>?_);refine aU (λe=>N0 (hq n st n1 n2 h up)) λqe=>?_;have hlt:=hend.resolve_left qe;have b0:lo+n<a0.size:=by omega
 extract_lets x1 x2 jp;refine tV (λst'=>SK κ ok a0 p0 lo st'/\DnF rk (!15) lo (n+1)) ?_ λhj=>aI (λqn=>?_) λqn=>hj _ ⟨h,?_⟩
 ·rintro st0 ⟨hs,hd⟩;refine NZ (wpS_lift (wpAny_rule ⟨rfl,?_⟩));refine NZ (Oo (wpS_forRange (I:=λi c st'=>∃q,c=(none,i,q)/\SK κ ok a0 p0 lo st'/\DnF rk (!15) lo i/\q+1<=i/\∀m,lo+i-(q+1)<=m->m<lo+i->gAt rk (!15) m=gAt rk (!15) (lo+i-1))
   (Q:=λc st'=>∃i q,c=(none,i,q)/\n+1<=i/\i<=nrem/\SK κ ok a0 p0 lo st'/\DnF rk (!15) lo i/\q+1<=i/\∀m,lo+i-(q+1)<=m->m<lo+i->gAt rk (!15) m=gAt rk (!15) (lo+i-1)) ?_ ?_ ⟨0,rfl,hs,hd,Nat.le_add_left _ _,λm m1 m2=>by rw[show m=lo+(n+1)-1 by omega]⟩) ?_)
  ·rintro i c st1 hi1 hi2 ⟨q,rfl,hs,hd,hqi,heq⟩;have b1:lo+i<a0.size:=by omega
   have b2:lo+i-1<a0.size:=N9 (Nat.sub_le _ _) b1;have one:∀ {g:Nat->Int} (m:Nat),lo+(i+1)-(0+1)<=m->m<lo+(i+1)->g m=g _:=λm m1 m2=>by rw[show m=lo+(i+1)-1 by omega]
   refine NZ (f7 L hs b1 b2 (aI (λq1=>?_) λq1=>?_))
   ·have q1:=Int.le_of_lt (N7 q1);refine aI (λq2=>NZ (pJ (rk:=rk) hs (show lo<=lo+i-(q+1)by omega) (Oi b1) λhs2 hg2=>?_)) λq2=>N0 ⟨0,rfl,hs,pK hd (λ_=>rfl) q1,Nat.le_add_left _ _,one⟩;exact N0 ⟨0,rfl,hs2,pK hd (λm=>(hg2 m).trans (tZ heq m)) q1,Nat.le_add_left _ _,one⟩
   ·refine NZ (f7 L hs b2 b1 (aI (λq2=>N0 ⟨i,q,rfl,hi1,Oi hi2,hs,hd,hqi,heq⟩) λq2=>?_));have q1:=Int.not_lt.mp λz=>q1 (decide_eq_true z);have q2:=Int.not_lt.mp λz=>q2 (decide_eq_true z);refine N0 ⟨q+1,rfl,hs,pK hd (λ_=>rfl) q2,Nat.succ_le_succ hqi,λm m1 m2=>?_⟩;rw[show lo+(i+1)-1=lo+i by omega];by_cases e:m=lo+i
    ·rw[e]
    ·rw[heq m (!1) (!1)];exact Int.le_antisymm q1 q2
  ·rintro c st1 ⟨q,rfl,hs,hd,hqi,heq⟩;rw[show max (n+1) nrem=nrem by omega]at hd hqi heq⊢;exact⟨nrem,q,rfl,by omega,Om _,hs,hd,hqi,heq⟩
  ·rintro c st1 ⟨i,q,rfl,hi1,hi2,hs,hd,hqi,heq⟩;have b1:=Oa (Nat.add_le_add_left hi2 _) hn;extract_lets r1 s1 n3 q3 jp;refine tV (λst'=>SK κ ok a0 p0 lo st'/\DnF rk _ lo i) ?_ λhj=>aI (λq2=>NZ (pJ (rk:=rk) hs (show lo<=lo+i-(q+1)by omega) b1 λhs2 hg2=>hj _ ⟨hs2,λx y hxy hy=>?_⟩)) λq2=>hj _ ⟨hs,hd⟩
   ·rintro st2 ⟨hs,hd⟩;refine NZ (pJ (rk:=rk) hs (Om _) b1 λhs3 hg3=>?_);exact NZ (zC hs3 (λx n Q' b1 b2 q1 q2=>NZ (f7 L hs3 b1 (N9 (Nat.sub_le _ _) b1) (aI (λq=>N0 (q1 (N7 q))) λq=>N0 (q2 λz=>q (decide_eq_true z))))) hn (Oa (Nat.le_add_left 1 n) hi1) hi2 (zD hd hg3) λn' m1 m2 up' _=>N0 (hq n' _ (Oa (Oa (Nat.le_add_left 1 n) hi1) m1) m2 hs3 up'))
   ·rw[(hg2 _).trans (tZ heq _),(hg2 _).trans (tZ heq _)];exact hd x y hxy hy
 ·refine NZ (f7 L h (N9 (Nat.le_add_right _ _) b0) (N9 (Nat.sub_le _ _) b0) (aI (λ_=>N0 (hq n st n1 n2 h up)) λqr=>?_));have qr:=Int.not_lt.mp λz=>qr (decide_eq_true z);refine NZ (pJ (rk:=rk) h (Om _) (Oi b0) λhs hg=>hj _ ⟨hs,ra (st:=st) (v:=gAt rk (!12) (lo+n-1)) (λi hi=>?_) ?_⟩)
  ·rw[hg,if_pos (!1),show lo+(lo+n)-1-(lo+i)=lo+(n-1-i)by omega];have u1:=up 0 (n-1-i) (!1) (!1);have u2:=up (n-1-i) (n-1) (!1) (!1);rw[show lo+(n-1)=lo+n-1 by omega]at u2;exact Int.le_antisymm u2 (Int.le_trans qr u1)
  ·rw[hg,if_neg (!1)];exact hlt
 ·have e:n=1:=Nat.le_antisymm (Nat.not_lt.mp qn) n1;subst e;exact ra (st:=st) (λi hi=>by rw[show i=0 by omega];rfl) hlt
end
end L2
namespace L2
open PySem PySem.W PyProof.Rows
noncomputable def jg:Nat->List (List Keyed)->List (Nat×Nat)
 |_,[]=>[]
 |o,r::rs=>(o,r.length)::jg (o+r.length) rs
theorem fE:∀ (P R:List (List Keyed)) (o:Nat),jg o (P++R)=jg o P++jg (o+P.flatten.length) R
 |[],R,o=>rfl
 |r::P,R,o=>by
  show(o,r.length)::jg (o+r.length) (P++R)=(o,r.length)::(jg (o+r.length) P++_);rw[fE P R,List.flatten_cons,length_append,Nat.add_assoc]
theorem cH:∀ (P:List (List Keyed)) (o:Nat),(jg o P).length=P.length
 |[],o=>rfl
 |r::P,o=>by show(jg _ P).length+1=P.length+1;rw[cH P]
theorem vp {α β:Type} (f:α->β):∀ (l:List α) (q:Nat),(l.eraseIdx q).map f=(l.map f).eraseIdx q
 |[],_=>rfl
 |a::l,0=>rfl
 |a::l,q+1=>by
  show f a::(l.eraseIdx q).map f=f a::(l.map f).eraseIdx q;rw[vp f l q]
section
variable {prog:Program} {w:World} {A:Around} {E:NJ} {s:Shared} {rk:Keyed->Int} {κ:SortKind} {ok:Keyed->Prop} {a0:Array Keyed}
structure SR (κ:SortKind) (ok:Keyed->Prop) (rk:Keyed->Int) (a0:Array Keyed) (runs:List (List Keyed)) (rest:List Keyed) (st:SortSt):Prop where
 kd:kindOf st=κ
 fl:failedOf st=none
 ok:AllOk ok (!12)
 pm:(!12).toList.Perm a0.toList
 ar:(!12).toList=runs.flatten++rest
 sr:∀r∈runs,Srt rk r/\1<=r.length
 pd:(pendingOf st).toList.map (λp=>(p.1,p.2.1))=jg 0 runs
theorem SR.at_ {rest} {st} (h:SR κ ok rk a0 (P++r::R) rest st):∃pw,(pendingOf st)[P.length]?=some (P.flatten.length,r.length,pw):=by
 have e:((pendingOf st).toList.map (λp=>(p.1,p.2.1)))[P.length]?=some (P.flatten.length,r.length):=by
  rw[h.pd,fE,getElem?_append_right (by rw[cH];exact Om _),cH,Nat.sub_self,Nat.zero_add];rfl
 grind
theorem SR.len {rest} {st} (h:SR κ ok rk a0 runs rest st):(pendingOf st).size=runs.length:=by
 have:=congrArg List.length h.pd;rw[length_map,cH,Array.length_toList]at this;exact this
theorem vq {st} {r1 r2 rest} (L:bS prog w A s κ rk ok) (h:SR κ ok rk a0 (P++r1::r2::R) rest st) (hq:∀ (st':SortSt) (m:List Keyed),SR κ ok rk a0 (P++m::R) rest st'->Q true st'):wpS (!2) A E s (mergeAt' P.length) Q st:=by
 obtain⟨pw,p1⟩:=h.at_;have h2:SR κ ok rk a0 ((P++[r1])++r2::R) rest st:=by rw[List.append_assoc];exact h
 obtain⟨pw2,p2⟩:=h2.at_;rw[length_append,List.flatten_append,length_append]at p2;have e0:[r1].flatten.length=r1.length:=by simp
 rw[e0]at p2;obtain⟨s1,n1⟩:=h.sr r1 (by simp);obtain⟨s2,n2⟩:=h.sr r2 (by simp);refine tY (post:=R.flatten++rest) L h.kd h.fl h.ok (by rw[h.ar];simp[List.append_assoc]) p1 p2 n1 n2 s1 s2 λst' m k1 k2 k3 k4 k5 k6=>hq st' m ?_;have ml:m.length=r1.length+r2.length:=by rw[k5.length_eq,length_append]
 have pmA:(!15).toList.Perm (!12).toList:=by
  rw[k4,h.ar,List.flatten_append,List.flatten_cons,List.flatten_cons,List.append_assoc];refine List.Perm.append_left _ ?_;rw[List.append_assoc,List.append_assoc,<-List.append_assoc r1];exact k5.append_right _
 refine⟨k1,k2,h.ok.perm (Array.perm_iff_toList_perm.mpr pmA),pmA.trans h.pm,by rw[k4];simp[List.append_assoc],λr hr=>?_,?_⟩
 ·rcases mem_append.mp hr with z|z
  ·exact h.sr r (Of _ z)
  ·rcases mem_cons.mp z with rfl|z
   ·exact⟨k6,by omega⟩
   ·exact h.sr r (Og _ (N6 _ (N6 _ z)))
 ·rw[k3];have e1:(vn (pendingOf st) P.length P.flatten.length (r1.length+r2.length) pw).toList=((pendingOf st).toList.set P.length (P.flatten.length,r1.length+r2.length,pw)).eraseIdx (P.length+1):=by
   rw[Array.toList_eraseIdxIfInBounds,Array.toList_setIfInBounds]
  rw[e1,vp,List.map_set,h.pd,fE,fE];rw[List.set_append_right _ _ (by rw[cH];exact Om _),cH,Nat.sub_self,List.eraseIdx_append_of_length_le (by rw[cH];omega),cH,Nat.add_sub_cancel_left];show jg 0 P++((P.flatten.length,r1.length+r2.length)::jg (0+P.flatten.length+r1.length+r2.length) R)=jg 0 P++((0+P.flatten.length,m.length)::jg (0+P.flatten.length+m.length) R);rw[ml,Nat.zero_add,Nat.add_assoc]
end
end L2
namespace L2
open PySem PySem.W PyProof.Rows
section
variable {prog:Program} {w:World} {A:Around} {E:NJ} {s:Shared} {rk:Keyed->Int} {κ:SortKind} {ok:Keyed->Prop} {a0:Array Keyed}
theorem SR.run {rest} {st st'} (h:SR κ ok rk a0 runs rest st) (k:SK κ ok (!12) (pendingOf st) runs.flatten.length st') (up:UpF rk (!15) runs.flatten.length n) (hn:runs.flatten.length+n<=(!12).size):
  ∃r rest',r.length=n/\Srt rk r/\SR κ ok rk a0 runs (r++rest') st':=by
 have sz:=k.size
 have e1:(!15).toList.take runs.flatten.length=runs.flatten:=by
  have e2:(!15).toList.take runs.flatten.length=(!12).toList.take runs.flatten.length:=by
   apply List.ext_getElem?;intro m;rw[List.getElem?_take,List.getElem?_take];split
   ·rw[Array.getElem?_toList,Array.getElem?_toList];exact k.low m (by assumption)
   ·rfl
  rw[e2,h.ar,List.take_append,List.take_length,Nat.sub_self,List.take_zero,List.append_nil]
 have dl:((!15).toList.drop runs.flatten.length).length=(!12).size-runs.flatten.length:=by rw[List.length_drop,Array.length_toList,sz]
 refine⟨((!15).toList.drop runs.flatten.length).take n,((!15).toList.drop runs.flatten.length).drop n,by rw[List.length_take,dl];omega,?_,k.kd,k.fl,k.ok,(Array.perm_iff_toList_perm.mp k.pm).trans h.pm,?_,h.sr,by rw[k.pd];exact h.pd⟩
 ·refine List.pairwise_iff_getElem.mpr λi j hi hj hij=>?_;rw[List.length_take,dl]at hj;have:=up i j (!1) (!1);rw[lS,lS]at this;unfold gL at this;have q1:runs.flatten.length+i<(!15).toList.length:=by have tl:(!15).toList.length=(!15).size:=rfl;omega
  have q2:runs.flatten.length+j<(!15).toList.length:=by have tl:(!15).toList.length=(!15).size:=rfl;omega
  rw[List.getD_eq_getElem?_getD,List.getD_eq_getElem?_getD,getElem?_eq_getElem q1,getElem?_eq_getElem q2]at this;simpa using this
 ·rw[List.take_append_drop];conv=>lhs;rw[<-List.take_append_drop runs.flatten.length (!15).toList]
  rw[e1]
theorem SR.sk {rest} {st} (h:SR κ ok rk a0 runs rest st):SK κ ok (!12) (pendingOf st) runs.flatten.length st:=⟨h.kd,h.fl,rfl,.refl _,λ_ _=>rfl,h.ok⟩
theorem SR.size {rest} {st} (h:SR κ ok rk a0 runs rest st):(!12).size=a0.size:=by
 have:=h.pm.length_eq;exact this
theorem SR.lo {rest} {st} (h:SR κ ok rk a0 runs rest st):runs.flatten.length+rest.length=a0.size:=by
 rw[<-h.size,<-Array.length_toList,h.ar,length_append]
theorem SR.few {rest} {st} (h:SR κ ok rk a0 runs rest st):runs.length<=runs.flatten.length:=by
 have hh:=h.sr;clear h;induction runs with
 |nil=>exact Om _
 |cons r rs ih=>
  have:=ih λx hx=>hh x (N6 _ hx);have:=(hh r N5).2;rw[List.flatten_cons,length_append,length_cons];omega
theorem SR.push {r rest} {st} {lo n} (h:SR κ ok rk a0 runs (r++rest) st) (hs:Srt rk r) (h1:1<=r.length) (hlo:runs.flatten.length=lo) (hn:r.length=n):SR κ ok rk a0 (runs++[r]) rest (SortSt.mk' (kindOf st) (!12) ((pendingOf st).push (lo,n,0)) (gallopOf st) (failedOf st)):=by
 refine⟨h.kd,h.fl,h.ok,h.pm,?_,λx hx=>?_,?_⟩
 ·show(!12).toList=_;rw[h.ar];simp[List.append_assoc]
 ·rcases mem_append.mp hx with z|z
  ·exact h.sr x z
  ·rw[mem_singleton.mp z];exact⟨hs,h1⟩
 ·show((pendingOf st).push (lo,n,0)).toList.map _=_;rw[Array.toList_push,List.map_append,h.pd,fE,Nat.zero_add,hlo];show _++[(lo,n)]=_++[(lo,r.length)];rw[hn]
theorem SR.pw {rest} {st} (h:SR κ ok rk a0 runs rest st) (i p:Nat):SR κ ok rk a0 runs rest (SortSt.mk' (kindOf st) (!12) ((pendingOf st).modify i λx=>(x.1,x.2.1,p)) (gallopOf st) (failedOf st)):=by
 refine⟨h.kd,h.fl,h.ok,h.pm,h.ar,h.sr,?_⟩;rw[<-h.pd];apply List.ext_getElem?;grind
theorem J5 {α:Type} {l:List α} (h:2<=l.length):∃P a b,l=P++a::b::[]/\P.length=l.length-2:=by
 refine⟨l.take (l.length-2),l[l.length-2],l[l.length-1],?_,by rw[List.length_take];omega⟩;conv=>lhs;rw[<-List.take_append_drop (l.length-2) l]
 congr 1;rw[List.drop_eq_getElem_cons (!1),List.drop_eq_getElem_cons (!1),List.drop_of_length_le (!1)];grind
theorem GS {α:Type} {l:List α} (h:i+1<l.length):∃P a b R,l=P++a::b::R/\P.length=i:=by
 refine⟨l.take i,l[i],l[i+1],l.drop (i+2),?_,by rw[List.length_take];omega⟩;simp_all
theorem Mc [Decidable c] (h1:a+1<n) (h2:b+1<n):(if c then a else b)+1<n:=by grind
theorem CV {st} (L:bS prog w A s κ rk ok) (h:SR κ ok rk a0 [] a0.toList st) (hq:∀st':SortSt,failedOf st'=none->(!15).toList.Perm a0.toList->Srt rk (!15).toList->Q () st'):wpS (!2) A E s sortRuns' Q st:=by
 have hsz:=h.size;refine NZ (wpS_get ?_);extract_lets n0 mr l0;have e0:n0=a0.size:=hsz;clear_value mr n0;subst e0;refine NZ (Oo (wpS_forRange (I:=λx c st'=>∃lo runs rest,c=(none,lo)/\runs.flatten.length=lo/\SR κ ok rk a0 runs rest st'/\x<=lo) (Q:=λc st'=>∃runs,c=(none,a0.size)/\SR κ ok rk a0 runs [] st') ?_ ?_ ⟨0,[],_,rfl,rfl,h,Om _⟩) ?_)
 ·rintro x c st1 _ hx ⟨lo,runs,rest,rfl,rfl,h,hxl⟩;have hl:=h.lo;have hsz:=h.size;refine aI (λq=>?_) λq=>?_
  ·have q:runs.flatten.length≥a0.size:=q;have z:rest=[]:=List.length_eq_zero_iff.mp (!1);subst z;exact N0 ⟨runs,by rw[show runs.flatten.length=a0.size by omega],h⟩
  have b0:runs.flatten.length+(a0.size-runs.flatten.length)<=(arrOf st1).size:=by omega
  refine NZ (zE L h.sk b0 (!1) λn st2 n1 n2 k up=>?_);have body:∀ (N:Nat) (st3:SortSt),1<=N->N<=a0.size-runs.flatten.length->SK κ ok (arrOf st1) (pendingOf st1) runs.flatten.length st3->UpF rk (arrOf st3) runs.flatten.length N->∃r rest',r.length=N/\1<=r.length/\Srt rk r/\SR κ ok rk a0 runs _ st3:=λN st3 h1 hN k up=>by
   obtain⟨r,rest',e,rs,h3⟩:=h.run k up (!1);exact⟨r,rest',e,e▸h1,rs,h3⟩
  dsimp -zeta only;extract_lets m jp;refine GN (λN st3=>∃r rest',r.length=N/\1<=r.length/\Srt rk r/\SR κ ok rk a0 runs (r++rest') st3) ?_ λhj=>aI (λqm=>?_) λqm=>hj _ _ (body n st2 n1 n2 k up)
  ·rintro N st3 ⟨r,rest',rfl,r1,rs,h3⟩;have hl3:=h3.lo;rw[length_append]at hl3;refine NZ (wpS_get ?_);extract_lets l2 jp;refine tV (jp:=jp) (λst4=>∃runs',SR κ ok rk a0 runs' (r++rest') st4) ?_ λhj=>?_
   ·rintro st4 ⟨runs',h4⟩;have hl4:=h4.lo;rw[length_append]at hl4;have e4:runs'.flatten.length=runs.flatten.length:=by omega
    refine NZ (wpS_modify (N0 ⟨_,runs'++[r],rest',rfl,?_,h4.push rs r1 e4 rfl,?_⟩))
    ·rw[List.flatten_append,length_append,e4,show[r].flatten=r from List.append_nil r]
    ·show x+1<=runs.flatten.length+r.length;omega
   ·rcases hb:(PyProof.Rows.pendingOf st3).back? with _|⟨s1,c1,pw1⟩
    ·exact hj _ ⟨runs,h3⟩
    ·dsimp -zeta only;extract_lets pw;clear_value pw;refine NZ (Oo (wpS_forRange (I:=λ_ c st4=>c=(none,())/\∃runs',SR κ ok rk a0 runs' _ st4) ?_ (λ_ _ z=>z) ⟨rfl,runs,h3⟩) ?_)
     ·rintro x4 c st4 _ _ ⟨rfl,runs',h4⟩;refine NZ (wpS_get ?_);have hl4:=h4.len;dsimp only;by_cases q4:(PyProof.Rows.pendingOf st4).size>1
      ·rw[if_pos q4];obtain⟨P,x1,x2,rfl,hP⟩:=J5 (l:=runs') (!1);obtain⟨pw',hpw⟩:=h4.at_;rw[show(PyProof.Rows.pendingOf st4).size-2=P.length by omega,hpw];refine aI (λ_=>N0 ⟨rfl,_,h4⟩) λ_=>NZ (vq L h4 λst5 m h5=>?_);exact aI (λz=>absurd z (!4)) λ_=>N0 ⟨rfl,_,h5⟩
      ·rw[if_neg q4];exact N0 ⟨rfl,_,h4⟩
     ·rintro c st4 ⟨rfl,runs',h4⟩;exact NZ (wpS_modify (hj _ ⟨runs',h4.pw _ _⟩))
  ·refine NZ (wpS_lift (wpAny_rule ⟨rfl,?_⟩));refine NZ (GR L k (!1) (!1) up λst3 k3 up3=>?_);exact aI (λz=>absurd z (!4)) λ_=>hj _ _ (body _ st3 (!1) (Nat.min_le_left _ _) k3 up3)
 ·rintro c st1 ⟨lo,runs,rest,rfl,hlo,h,hxl⟩;have hl:=h.lo;have z:rest=[]:=List.length_eq_zero_iff.mp (!1);subst z;exact⟨runs,by rw[show lo=a0.size by omega],h⟩
 ·rintro c st1 ⟨runs,rfl,h⟩;have hl:=h.lo;refine NZ (Oo (wpS_forRange (I:=λx c st2=>c=(none,())/\∃runs,SR κ ok rk a0 runs [] st2/\(runs.length+x<=a0.size\/runs.length<=1)) (Q:=λc st2=>c=(none,())/\∃runs,SR κ ok rk a0 runs [] st2/\runs.length<=1) ?_ ?_ ⟨rfl,runs,h,.inl ?_⟩) ?_)
  ·rintro x c st2 _ hx ⟨rfl,runs,h,hb⟩;refine NZ (wpS_get ?_);have hl2:=h.len;by_cases q:(PyProof.Rows.pendingOf st2).size<=1
   ·rw[if_pos q];exact N0 ⟨rfl,runs,h,by omega⟩
   rw[if_neg q];have key:∀i,i+1<runs.length->wpS (!2) A E s (mergeAt' i) (λb st3=>b=true/\∃runs',SR κ ok rk a0 runs' [] st3/\runs'.length+1=runs.length) st2:=λi hi=>by
    obtain⟨P,x1,x2,R,rfl,rfl⟩:=GS hi;refine vq L h λst3 m h3=>⟨rfl,_,h3,?_⟩;simp[length_append];omega
   refine NZ (Oo (key _ ?_) ?_)
   ·exact Mc (show(PyProof.Rows.pendingOf st2).size-2-1+1<runs.length by omega) (show(PyProof.Rows.pendingOf st2).size-2+1<runs.length by omega)
   ·rintro bb st3 ⟨rfl,runs',h3,hl3⟩;exact N0 ⟨rfl,runs',h3,by omega⟩
  ·rintro c st2 ⟨rfl,runs,h,hb⟩;exact⟨rfl,runs,h,by omega⟩
  ·have:=h.few;omega
  ·rintro c st2 ⟨rfl,runs,h,hb⟩;refine N0 (hq st2 h.fl h.pm ?_);rw[h.ar,List.append_nil];match runs,hb,h with
   |[],_,_=>exact List.Pairwise.nil
   |[r],_,h=>
    rw[List.flatten_cons,List.flatten_nil,List.append_nil];exact(h.sr r N5).1
end
end L2
namespace L2
open PySem PySem.W PyProof.Rows
section
variable {prog:Program} {w:World} {A:Around} {E:NJ} {s:Shared} {rv:Value->Int}
structure SortAll (prog:Program) (w:World) (A:Around) (s:Shared) (a:Addr) (vs:NK) (κ:SortKind) (rv:Value->Int):Prop where
 kd:∀h',(∀b o,b≠a->s.heap.get? b=some o->h'.get? b=some o)->2<=vs.length->∀ (Q:SortKind->Shared->Prop),Q κ {s with heap:=h'}->wpAny (!2) A (keyKind' vs.toArray) Q (λ_ _=>False) {s with heap:=h'}
 cp:∀h',(∀b o,b≠a->s.heap.get? b=some o->h'.get? b=some o)->∀x y,x∈vs->y∈vs->∀ (Q:Bool->Shared->Prop),Q (decide (rv x<rv y)) {s with heap:=h'}->wpAny (!2) A (keyLt' κ x y) Q (λ_ _=>False) {s with heap:=h'}
theorem rc:∀l:NK,l.zip l=l.map λv=>(v,v)
 |[]=>rfl
 |x::l=>by
  show(x,x)::l.zip l=_;rw[rc l];rfl
theorem wX (ho:s.heap.get? a=some (seqObj "list" vs.toArray n)) (hz:vs.length<=sizeLine) (B:SortAll prog w A s a vs κ rv) (h:∀o:NK,o.Perm vs->(o.Pairwise λx y=>rv x<=rv y)->P (.done (.ret .none)) {s with heap:=sortedHeap s.heap a vs o.toArray}):wpAny (!2) A (Builtin.«list.sort» ⟨[.ref a],[]⟩) P E s:=by
  obtain⟨m,hm⟩:∃m,(s.heap.update a (Obj.mapSeq λ_=>#[])).get? a=some (seqObj "list" #[] m):=⟨_,get?_update_seq ho λ_=>#[]⟩
  have hL:(((s.heap.update a (Obj.mapSeq λ_=>#[])).push (seqObj "tuple" vs.toArray 0)).push (seqObj "list" #[] 0)).get? a=some _:=
    NX _ (NX _ hm)
  have sz:vs.toArray.size=vs.length:=rfl
  rw[list_sort_plain]
  refine NW (listItems_at ho rfl (NW (listUpdate_at ho rfl ?_ (by rw[sz];exact hz) (Nat.zero_le _))))
  refine NW (seqEpoch_at hm rfl (NW (wpAny_newTuple ?_ hz)))
  refine NW (wpAny_newList (wpAny_holding ?_) (Nat.zero_le _))
  dsimp only
  rw[sz]
  have zp:(vs.toArray.zip vs.toArray).toList=vs.map λv=>(v,v):=by
    rw[Array.toList_zip]
    exact rc vs
  by_cases q:vs.length<2
  · rw[if_pos q,if_pos q]
    refine NW (NY ?_)
    refine NW (NY ?_)
    have e:(arrOf (SortSt.mk' general' (vs.toArray.zip vs.toArray) #[] 7 none)).map (·.2)=vs.toArray:=by
      apply Array.toList_inj.mp
      rw[Array.toList_map,zp,List.map_map]
      exact List.map_id _
    dsimp only
    rw[e]
    refine NW (seqEpoch_at hL rfl (NW (listUpdate_at hL rfl ?_ (Nat.zero_le _) (by show vs.length<=_;omega))))
    simp only[bne_self_eq_false,Bool.false_eq_true,if_false]
    refine NY (h vs (.refl _) ?_)
    match vs,q with
    |[],_=>exact List.Pairwise.nil
    |[x],_=>exact List.pairwise_singleton _ _
  · rw[if_neg q,if_neg q]
    have kp:∀b o,b≠a->s.heap.get? b=some o->(((s.heap.update a (Obj.mapSeq λ_=>#[])).push (seqObj "tuple" vs.toArray 0)).push (seqObj "list" #[] 0)).get? b=some o:=λb o hb ho=>
      NX _ (NX _ (by rw[Heap.get?_update_ne _ _ _ _ hb];exact ho))
    refine NW (On (B.kd _ kp (!1) (λκ' s'=>κ'=κ/\s'=_) ⟨rfl,rfl⟩) ?_ λ_ _ z=>z.elim)
    rintro κ' _ ⟨e0,rfl⟩
    rw[e0]
    have ok0:AllOk (λx:Keyed=>x.1∈vs/\x.2=x.1) _:=λi x hx=>by
      have:x∈(vs.toArray.zip vs.toArray).toList:=by rw[Array.mem_toList_iff];exact Array.mem_of_getElem? hx
      rw[zp]at this
      obtain⟨v,hv,rfl⟩:=Oc.mp this
      exact⟨hv,rfl⟩
    have run:=CV (E:=E) (st:=SortSt.mk' κ _ #[] 7 none)
      (Q:=λ_ st'=>failedOf st'=none/\(!15).toList.Perm (vs.toArray.zip vs.toArray).toList/\Srt (λx:Keyed=>rv x.1) (!15).toList)
     
      (λx y hx hy Q' hQ=>B.cp _ kp x.1 y.1 hx.1 hy.1 Q' hQ) ⟨rfl,rfl,ok0,.refl _,rfl,λ_ z=>(nomatch z),rfl⟩ λst' a1 a2 a3=>⟨a1,a2,a3⟩
    refine NW (On run ?_ λ_ _ z=>z)
    rintro⟨⟨⟩,st'⟩ _ ⟨rfl,e1,e2,e3⟩
    have hall:∀x∈(!15).toList,x.2=x.1:=λx hx=>by
      have:=e2.mem_iff.mp hx
      rw[zp]at this
      obtain⟨v,_,rfl⟩:=Oc.mp this
      rfl
    have eo:(!15).map (·.2)=((!15).toList.map (·.2)).toArray:=by
      apply Array.toList_inj.mp
      rw[Array.toList_map]
    have po:((!15).toList.map (·.2)).Perm vs:=by
      refine(e2.map _).trans ?_
      rw[zp,List.map_map]
      exact(List.map_id _)▸.refl _
    have so:((!15).toList.map (·.2)).Pairwise λx y=>rv x<=rv y:=by
      refine List.pairwise_map.mpr ?_
      refine List.Pairwise.imp_of_mem (λ{x y} hx hy hxy=>?_) e3
      rw[hall x hx,hall y hy]
      exact hxy
    have hl:=po.length_eq
    rw[show(PyProof.Rows.arrOf st').map (·.2)=((!15).toList.map (·.2)).toArray from eo]
    refine NW (seqEpoch_at hL rfl (NW (listUpdate_at hL rfl ?_ (Nat.zero_le _) ?_)))
    · rw[show PyProof.Rows.failedOf st'=none from e1]
      simp only[bne_self_eq_false,Bool.false_eq_true,if_false]
      exact NY (h _ po so)
    · show((!15).toList.map (·.2)).length<=_
      omega
theorem t3 (hl:s.heap.IsList l vs.toArray) (hz:vs.length<=sizeLine) (B:∀h':Heap,(∀b o,s.heap.get? b=some o->h'.get? b=some o)->SortAll prog w A.in1.in1 {s with heap:=h'} (!16) vs κ rv) (h:∀o:NK,o.Perm vs->(o.Pairwise λx y=>rv x<=rv y)->Q (.ref (!16)) {s with heap:=sortedAll s.heap vs o.toArray}):wpAny (!2) A (call (.builtin "sorted") [.ref l]) Q E s:=by
 refine Calls.call_function_entry kind_sorted plain_sorted entry_sorted (args_sorted1 _) ?_;refine NW (NY (NW (collect_list hl (NW (wpAny_newList ?_ hz)) hz)));have e:((s.heap.push (seqObj "list" #[] 0)).update s.heap.objs.size (Obj.mapSeq (·++vs.toArray))).objs.size=s.heap.objs.size+1:=by rw[Heap.size_update,size_push']
 have hn:(((s.heap.push (seqObj "list" #[] 0)).update s.heap.objs.size (Obj.mapSeq (·++vs.toArray))).push (seqObj "list" vs.toArray 0)).get? (!16)=some (seqObj "list" vs.toArray 0):=by
  rw[<-e];exact N2 _ rfl
 have kp:∀b o,s.heap.get? b=some o->(((s.heap.push (seqObj "list" #[] 0)).update s.heap.objs.size (Obj.mapSeq (·++vs.toArray))).push (seqObj "list" vs.toArray 0)).get? b=some o:=λb o z=>by
  have lt:=N1 z;exact NX _ (by rw[Heap.get?_update_ne _ _ _ _ (Nat.ne_of_lt lt)];exact NX _ z)
 rw[e];exact NW (wpAny_holding (wpAny_call_entry slot_list_sort ⟨_,hn,rfl⟩ entry_list_sort (wX hn hz (B _ kp) λo p q=>⟨_,rfl,NY ⟨_,rfl,h o p q⟩⟩) (args_list_sort _)))
end
theorem zF:∀a:NQ,HT.lexLt a a=false
 |[]=>rfl
 |x::a=>by rw[HT.lexLt_cons,if_pos rfl];exact zF a
theorem pL:∀a b:NQ,HT.lexLt a b=true->HT.lexLt b a=false
 |[],[],_=>rfl
 |[],_::_,_=>rfl
 |_::_,[],h=>by cases h
 |x::a,y::b,h=>by
  rw[HT.lexLt_cons]at h⊢;by_cases q:x=y
  ·rw[if_pos q]at h;rw[if_pos q.symm];exact pL a b h
  ·rw[if_neg q]at h;rw[if_neg (Ne.symm q)];have:=N7 h;exact decide_eq_false (!1)
theorem lT:∀k j i:NQ,HT.lexLt k j=true->HT.lexLt i j=false->HT.lexLt k i=true
 |[],[],_,h,_=>by cases h
 |_::_,[],_,h,_=>by cases h
 |_,_::_,[],_,h=>by cases h
 |[],_::_,_::_,_,_=>rfl
 |x::k,y::j,z::i,h,g=>by
  rw[HT.lexLt_cons]at h g⊢;by_cases q:x=y
  ·rw[if_pos q]at h;by_cases r:z=y
   ·rw[if_pos r]at g;rw[if_pos (q.trans r.symm)];exact lT k j i h g
   ·rw[if_neg r]at g;have:=of_decide_eq_false g;rw[if_neg (!1)];exact decide_eq_true (!1)
  ·rw[if_neg q]at h;have h:=N7 h;by_cases r:z=y
   ·rw[if_neg (!1)];exact decide_eq_true (!1)
   ·rw[if_neg r]at g;have:=of_decide_eq_false g;rw[if_neg (!1)];exact decide_eq_true (!1)
theorem GT (h:HT.lexLt a b=true) (g:HT.lexLt b c=true):HT.lexLt a c=true:=lT a b c h (pL b c g)
theorem zH:∀a b:NQ,HT.lexLt a b=false->HT.lexLt b a=false->a=b
 |[],[],_,_=>rfl
 |[],_::_,h,_=>by cases h
 |_::_,[],_,h=>by cases h
 |x::a,y::b,h,g=>by
  rw[HT.lexLt_cons]at h g;by_cases q:x=y
  ·rw[if_pos q]at h;rw[if_pos q.symm]at g;rw[q,zH a b h g]
  ·rw[if_neg q]at h;rw[if_neg (Ne.symm q)]at g;have:=of_decide_eq_false h;have:=of_decide_eq_false g;omega
theorem GU {l:NO} (h:∀x,p x=true->q x=true) (hy:y∈l) (h1:q y=true) (h2:p y=false):l.countP p<l.countP q:=by
 induction l with
 |nil=>cases hy
 |cons a l ih=>
  have m:l.countP p<=l.countP q:=List.countP_mono_left λx _ z=>h x z;rcases mem_cons.mp hy with rfl|hy
  ·rw[List.countP_cons,List.countP_cons,h1,h2];simp;omega
  ·have:=ih hy;rw[List.countP_cons,List.countP_cons];have z:(if p a=true then 1 else 0)<=(if q a=true then 1 else 0):=by
    cases e:p a with
    |true=>rw[h a e];simp
    |false=>simp
   omega
noncomputable def rk (n:Nat) (f:Nat->NQ) (i:Nat):Int:=(((!6).countP λk=>HT.lexLt (f k) (f i):Nat):Int)
theorem EH (hi:i<n):HT.lexLt (f i) (f j)=decide (rk n f i<rk n f j):=by
 unfold rk;cases e:HT.lexLt (f i) (f j)with
 |true=>
  refine(decide_eq_true ?_).symm;have:=GU (λx h=>GT h e) (Oj.mpr hi) e (zF _);omega
 |false=>
  refine(decide_eq_false ?_).symm;have:(!6).countP (λk=>HT.lexLt (f k) (f j))<=(!6).countP (λk=>HT.lexLt (f k) (f i)):=List.countP_mono_left λx _ h=>lT _ _ _ h e;omega
noncomputable def Md (f:Nat->NQ) (i j:Nat):Bool:=HT.lexLt (f i) (f j)
def iD:D->Option (Option Nat×List Int)
 |.int i=>some (none,[i])
 |.tup ds=>(cg ds).bind λns=>some (some ns.length,ns)
 |_=>none
def dN:NS->Option (List (Option Nat)×List Int)
 |[]=>some ([],[])
 |d::ds=>(iD d).bind λa=>(dN ds).bind λr=>some (a.1::r.1,a.2++r.2)
def lU:D->Option (List (Option Nat)×List Int)
 |.tup ds=>dN ds
 |_=>none
theorem bo:∀ {ds:NS} {ns:NQ},cg ds=some ns->ds=ns.map D.int
 |[],ns,h=>by cases h;rfl
 |d::ds,ns,h=>by
  cases d with
  |int i=>
   obtain⟨ms,e1,e2⟩:=Op (show(cg ds).bind (λxs=>some (i::xs))=some ns from h);cases e2;rw[bo e1];rfl
  |_=>cases h
theorem wY (h:iD d=some (a,f)) (g:iD e=some (a,f)):d=e:=by
 cases d with
 |int i=>
  cases h;cases e with
  |int j=>cases g;rfl
  |tup es=>obtain⟨ns,_,z⟩:=Op g;cases z
  |_=>cases g
 |tup ds=>
  obtain⟨ns,h1,h2⟩:=Op h;cases h2;cases e with
  |int j=>cases g
  |tup es=>
   obtain⟨ms,g1,g2⟩:=Op g;injection g2 with g2;injection g2 with g3 g4;subst g4;rw[bo h1,bo g1]
  |_=>cases g
 |_=>cases h
noncomputable def wid:Option Nat->Nat
 |none=>1
 |some n=>n
theorem f8 (h:iD d=some (a,f)):f.length=wid a:=by
 cases d with
 |int i=>cases h;rfl
 |tup ds=>obtain⟨ns,h1,h2⟩:=Op h;cases h2;rfl
 |_=>cases h
theorem lV:∀ {ds es:NS} {sh:List (Option Nat)} {f:NQ},dN ds=some (sh,f)->dN es=some (sh,f)->ds=es
 |[],[],_,_,_,_=>rfl
 |[],e::es,_,_,h,g=>by
  cases h;obtain⟨a,_,g⟩:=Op g;obtain⟨r,_,g⟩:=Op g;cases g
 |d::ds,[],_,_,h,g=>by
  cases g;obtain⟨a,_,h⟩:=Op h;obtain⟨r,_,h⟩:=Op h;cases h
 |d::ds,e::es,sh,f,h,g=>by
  obtain⟨⟨a,x⟩,h1,h⟩:=Op h;obtain⟨⟨r,y⟩,h2,h⟩:=Op h;cases h;obtain⟨⟨a',x'⟩,g1,g⟩:=Op g;obtain⟨⟨r',y'⟩,g2,g⟩:=Op g;injection g with g;injection g with ga gb;injection ga with ga1 ga2;dsimp only at ga1 ga2 gb;subst ga1 ga2;obtain⟨q1,q2⟩:=List.append_inj gb ((f8 g1).trans (f8 h1).symm);subst q1 q2;rw[wY h1 g1,lV h2 g2]
def flt (d:D):NQ:=match lU d with
 |some (_,f)=>f
 |none=>[]
def gR (ds:NS):Prop:=∃sh,sh≠[]/\∀d∈ds,∃f,lU d=some (sh,f)
instance (ds:NS):Decidable (gR ds):=Classical.propDecidable _
def pM (ds:NS):NS:=ds.mergeSort λa b=>!HT.lexLt (flt b) (flt a)
def re:NS->NI:=un1 λd=>(fu d).bind λds=>if ds.length<1024/\gR ds then some (pM ds)else none
theorem zI (h:gR ds) (ha:a∈ds) (hb:b∈ds) (e:flt a=flt b):a=b:=by
 obtain⟨sh,_,z⟩:=h;obtain⟨f,e1⟩:=z a ha;obtain⟨g,e2⟩:=z b hb;unfold flt at e;rw[e1,e2]at e;subst e;cases a with
 |tup as=>
  cases b with
  |tup bs=>rw[lV (e1) (e2)]
  |_=>cases e2
 |_=>cases e1
theorem jh (ds:NS):(pM ds).Perm ds:=List.mergeSort_perm _ _
theorem rg (ds:NS):(pM ds).Pairwise λa b=>HT.lexLt (flt b) (flt a)=false:=by
 refine(List.pairwise_mergeSort (λa b c h1 h2=>?_) (λa b=>?_) ds).imp λh=>by simpa using h
 ·simp only[Bool.not_eq_true']at h1 h2⊢;cases e:HT.lexLt (flt c) (flt a)with
  |false=>rfl
  |true=>rw[lT _ _ _ e h1]at h2;cases h2
 ·cases e:HT.lexLt (flt b) (flt a)with
  |false=>rfl
  |true=>rw[pL _ _ e];rfl
theorem vt (h:gR ds) (h1:rs.Perm ds) (h2:rs.Pairwise λa b=>HT.lexLt (flt b) (flt a)=false):rs=pM ds:=
 List.Perm.eq_of_pairwise (λa b ha hb x y=>zI h (h1.mem_iff.mp ha) ((jh ds).mem_iff.mp hb) (zH _ _ y x)) h2 (rg ds) (h1.trans (jh ds).symm)
theorem bT {α:Type} (x:α):∀l:List α,(List.range l.length).map (λi=>l.getD i x)=l:=λl=>by
 apply List.ext_getElem
 ·simp
 grind
section
variable {X:Cx} {pins:NG} {Y:St} {H:Hp} {s:Shared}
theorem zJ:∀ {a b:NQ} (x y:NQ),a.length=b.length->HT.lexLt (a++x) (b++y)=if a=b then HT.lexLt x y else HT.lexLt a b
 |[],[],x,y,_=>by rw[if_pos rfl];rfl
 |[],_::_,_,_,h=>by cases h
 |_::_,[],_,_,h=>by cases h
 |u::a,v::b,x,y,h=>by
  rw[List.cons_append,List.cons_append,HT.lexLt_cons,HT.lexLt_cons,zJ x y (Nat.succ.inj h)];by_cases q:u=v
  ·rw[if_pos q,if_pos q];by_cases r:a=b
   ·rw[if_pos r,if_pos (by rw[q,r])]
   ·rw[if_neg r,if_neg (λz=>r (List.cons.inj z).2)]
  ·rw[if_neg q,if_neg q,if_neg (λz=>q (List.cons.inj z).1)]
theorem rh:∀ (a b:NQ),eqL (a.map D.int) (b.map D.int)=decide (a=b)
 |[],[]=>by simp[eqL]
 |[],_::_=>by simp[eqL]
 |_::_,[]=>by simp[eqL]
 |x::a,y::b=>by
  show((x==y)&&eqL (a.map D.int) (b.map D.int))=_;rw[rh a b];by_cases q:x=y
  ·by_cases r:a=b
   ·simp[q,r]
   ·simp[q,r]
  ·simp[q]
theorem lW (h:iD d=some z):okE d=true/\dep d<=1:=by
 cases d with
 |int i=>exact⟨rfl,Nat.zero_le _⟩
 |tup ds=>
  obtain⟨ns,h1,_⟩:=Op h;rw[bo h1];have:∀ns:NQ,okL (ns.map D.int)=true/\de (ns.map D.int)<=0:=λns=>by
   induction ns with
   |nil=>exact⟨rfl,Om _⟩
   |cons n ns ih=>
    refine⟨?_,?_⟩
    ·show(okE (.int n)&&okL (ns.map D.int))=true;rw[ih.1];rfl
    ·show max (dep (.int n)) (de (ns.map D.int))<=0;have:dep (.int n)=0:=rfl;omega
  exact⟨(this ns).1,by have:=(this ns).2;show de _+1<=1;omega⟩
 |_=>cases h
theorem zK (I:Inv X pins Y H s) (hu:A.units+1<cLine) (h1:iD d=some (a,f)) (h2:iD e=some (a,g)) (ix:Is X.K H d x) (iy:Is X.K H e y) (rx:RelV x p) (ry:RelV y q):
  SeqAt.EqAt A s p q (decide (f=g))/\∀ (b:Bool) (Q:Bool->Shared->Prop),(b=true->a=none)->Q (HT.lexLt f g) s->wpAny (!3) A (oneLt' b p q) Q (λ_ _=>False) s:=by
 have eq:=yH I 1 A d e x y p q (lW h1).2 (!1) (lW h1).1 (lW h2).1 ix iy rx ry
 cases d with
 |int i=>
  cases h1;cases e with
  |int j=>
   cases h2;refine⟨?_,λb Q hb hq=>?_⟩
   ·have z:eqD (.int i) (.int j)=decide ([i]=[j]):=by
     show(i==j)=_;by_cases c:i=j
     ·simp[c]
     ·simp[c]
    rw[<-z];exact eq
   ·cases(ix);cases(iy);obtain⟨t,rfl⟩:=rx;obtain⟨u,rfl⟩:=ry;have hq':Q (decide (i<j)) s:=by
     have z:HT.lexLt [i] [j]=decide (i<j):=by
      rw[HT.lexLt_cons];by_cases c:i=j
      ·rw[if_pos c];exact(decide_eq_false (!1)).symm
      ·rw[if_neg c]
     rw[<-z];exact hq
    cases b with
    |true=>exact oneLt_int hq'
    |false=>exact PySem.W.kat_one _ _ (lt_int hq')
  |tup es=>obtain⟨ms,_,z⟩:=Op h2;cases z
  |_=>cases h2
 |tup ds=>
  obtain⟨ns,h3,h4⟩:=Op h1;injection h4 with h4;injection h4 with h4 h4';subst h4 h4';cases e with
  |int j=>cases h2
  |tup es=>
   obtain⟨ms,h5,h6⟩:=Op h2;injection h6 with h6;injection h6 with h7 h8;subst h8;refine⟨?_,λb Q hb hq=>?_⟩
   ·have z:eqD (.tup ds) (.tup es)=decide (ns=ms):=by
     show eqL ds es=_;rw[bo h3,bo h5,rh]
    rw[<-z];exact eq
   ·cases b with
    |true=>cases hb rfl
    |false=>
     obtain⟨a1,xs,rfl,t1,l1⟩:=ix;obtain⟨a2,ys,rfl,t2,l2⟩:=iy;rw[c6 h3 l1]at t1;rw[c6 h5 l2]at t2;cases rx;cases ry;obtain⟨its,r1,p1,_⟩:=I.tuple t1;obtain⟨its2,r2,p2,_⟩:=I.tuple t2;exact PySem.W.kat_one _ _ (HT.lt_tupInts p1 p2 (vk r1) (vk r2) (!1) hq)
  |_=>cases h2
 |_=>cases h1
theorem oh (I:Inv X pins Y H s) (hu:A.units+1<cLine):∀ {ds es:NS} {sh:List (Option Nat)} {f g:NQ} {xs ys:List V} {ps qs:NK} (i:Nat),dN ds=some (sh,f)->dN es=some (sh,g)->IsL X.K H ds xs->IsL X.K H es ys->Vals xs ps->Vals ys qs->
  (b=true->i=0->sh.head?=some none)->fin=false->Q (HT.lexLt f g) s->PySem.W.KatLex X.prog X.w A b fin Q (ps.zip qs) i s
 |[],[],sh,f,g,xs,ys,ps,qs,i,h1,h2,l1,l2,r1,r2,hb,hf,hq=>by
  cases h1;cases h2;cases(show xs=[]from l1);cases(show ys=[]from l2);cases r1;cases r2;rw[hf];exact hq
 |[],e::es,sh,f,g,xs,ys,ps,qs,i,h1,h2,l1,l2,r1,r2,hb,hf,hq=>by
  cases h1;obtain⟨a,_,h2⟩:=Op h2;obtain⟨r,_,h2⟩:=Op h2;cases h2
 |d::ds,[],sh,f,g,xs,ys,ps,qs,i,h1,h2,l1,l2,r1,r2,hb,hf,hq=>by
  cases h2;obtain⟨a,_,h1⟩:=Op h1;obtain⟨r,_,h1⟩:=Op h1;cases h1
 |d::ds,e::es,sh,f,g,xs,ys,ps,qs,i,h1,h2,l1,l2,r1,r2,hb,hf,hq=>by
  obtain⟨⟨a,f1⟩,h3,h1⟩:=Op h1;obtain⟨⟨s1,f2⟩,h4,h1⟩:=Op h1;cases h1;obtain⟨⟨a',g1⟩,h5,h2⟩:=Op h2;obtain⟨⟨s2,g2⟩,h6,h2⟩:=Op h2;injection h2 with h2;injection h2 with h7 h8;injection h7 with h9 h10;dsimp only at h8 h9 h10;subst h8 h9 h10;obtain⟨x,xr,rfl,ix,l1⟩:=l1;obtain⟨y,yr,rfl,iy,l2⟩:=l2;cases r1 with
  |cons rx r1=>
   cases r2 with
   |cons ry r2=>
    obtain⟨c1,c2⟩:=zK I hu h3 h5 ix iy rx ry;dsimp only at hq;rw[zJ f2 g2 ((f8 h3).trans (f8 h5).symm)]at hq;rw[List.zip_cons_cons];refine PySem.W.kat_cons (c1 X.prog X.w _ _ ?_);by_cases q:f1=g1
    ·rw[if_pos q]at hq;rw[decide_eq_true q];exact PySem.W.kat_yes (oh I hu (i+1) h4 h6 l1 l2 r1 r2 (λ_ z=>absurd z (!1)) hf hq)
    ·rw[if_neg q]at hq;rw[decide_eq_false q];refine PySem.W.kat_no (c2 _ _ (λz=>?_) hq);rw[and_eq_true,beq_iff_eq]at z;have:=hb z.1 z.2;injection this
end
theorem lX {α β:Type} {f}:∀ {o:List β} {l:List α},o.Perm (l.map f)->∃l':List α,l'.Perm l/\o=l'.map f
 |[],l,h=>by
  have:=h.length_eq;rw[length_map]at this;have e:l=[]:=List.eq_nil_of_length_eq_zero this.symm;subst e;exact⟨[],.refl _,rfl⟩
 |x::o,l,h=>by
  obtain⟨a,ha,rfl⟩:=Oc.mp (h.mem_iff.mp N5);obtain⟨s,t,rfl⟩:=List.append_of_mem ha;have h2:(f a::o).Perm (f a::(s++t).map f):=by
   refine h.trans ?_;rw[List.map_append,List.map_append,List.map_cons];exact List.perm_middle
  obtain⟨l',p,rfl⟩:=lX (List.Perm.cons_inv h2);exact⟨a::l',(p.cons a).trans List.perm_middle.symm,rfl⟩
def zL (vs:NK) (rk:Nat->Int) (v:Value):Int:=@dite _ (∃i,i<vs.length/\vs.getD i .none=v) (Classical.propDecidable _) (λh=>rk (Classical.choose h)) λ_=>0
theorem pN {rk} (h:v∈vs):∃i,i<vs.length/\vs.getD i .none=v/\zL vs rk v=rk i:=by
 have q:∃i,i<vs.length/\vs.getD i .none=v:=by
  obtain⟨i,hi,e⟩:=List.mem_iff_getElem.mp h;exact⟨i,hi,by rw[List.getD_eq_getElem?_getD,getElem?_eq_getElem hi];exact e⟩
 refine⟨Classical.choose q,(Classical.choose_spec q).1,(Classical.choose_spec q).2,?_⟩;unfold zL;rw[dif_pos]
theorem wZ {rk} (B:SortBy prog w A s a vs κ c) (hc:∀i j,i<vs.length->j<vs.length->c i j=decide (rk i<rk j)):
  SortAll prog w A s a vs κ (zL vs rk):=by
 refine⟨B.kd,λh' k x y hx hy Q hq=>?_⟩
 obtain⟨i,hi,ei,ri⟩:=pN hx
 obtain⟨j,hj,ej,rj⟩:=pN hy
 rw[ri,rj,<-hc i j hi hj]at hq
 have:=B.cp h' k i j hi hj Q hq
 rwa [ei,ej]at this
section
variable {X:Cx} {pins:NG} {Y:St} {H:Hp} {s:Shared}
theorem zM (I:Inv X pins Y H s) (h:iD d=some z) (g:iD e=some z') (ix:Is X.K H d x) (iy:Is X.K H e x):d=e:=by
 cases d with
 |int i=>
  cases(ix);cases e with
  |int j=>cases(iy);rfl
  |tup es=>obtain⟨b,ys,q,_⟩:=iy;cases q
  |_=>cases g
 |tup ds=>
  obtain⟨b,xs,rfl,t1,l1⟩:=ix;obtain⟨ns,h1,_⟩:=Op h;cases e with
  |int j=>cases(iy)
  |tup es=>
   obtain⟨b',ys,q,t2,l2⟩:=iy;cases q;obtain⟨ms,g1,_⟩:=Op g;have e1:=I.tuple_inj t1 t2;rw[c6 h1 l1,c6 g1 l2]at e1;have e2:=(List.map_inj_right λ_ _ q=>V.int.inj q).mp e1;rw[bo h1,bo g1,e2]
  |_=>cases g
 |_=>cases h
theorem oi (I:Inv X pins Y H s):∀ {ds es:NS} {z z':List (Option Nat)×List Int} {xs:List V},dN ds=some z->dN es=some z'->IsL X.K H ds xs->IsL X.K H es xs->ds=es
 |[],[],_,_,_,_,_,_,_=>rfl
 |[],e::es,_,_,xs,_,_,l1,l2=>by
  cases(show xs=[]from l1);obtain⟨_,_,q,_⟩:=l2;cases q
 |d::ds,[],_,_,xs,_,_,l1,l2=>by
  cases(show xs=[]from l2);obtain⟨_,_,q,_⟩:=l1;cases q
 |d::ds,e::es,_,_,xs,h,g,l1,l2=>by
  obtain⟨a,h1,h⟩:=Op h;obtain⟨r,h2,h⟩:=Op h;obtain⟨a',g1,g⟩:=Op g;obtain⟨r',g2,g⟩:=Op g;obtain⟨x,xr,rfl,ix,l1⟩:=l1;obtain⟨y,yr,q,iy,l2⟩:=l2;injection q with q1 q2;subst q1 q2;rw[zM I h1 g1 ix iy,oi I h2 g2 l1 l2]
theorem zN (I:Inv X pins Y H s) (h:lU d=some z) (g:lU e=some z') (ix:Is X.K H d x) (iy:Is X.K H e y) (rx:RelV x u) (ry:RelV y u):d=e:=by
 have q:=Option.some.inj (rx.abs.symm.trans ry.abs);subst q;cases d with
 |tup ds=>
  cases e with
  |tup es=>
   obtain⟨b,xs,rfl,t1,l1⟩:=ix;obtain⟨b',ys,q,t2,l2⟩:=iy;cases q;have e1:=I.tuple_inj t1 t2;subst e1;rw[oi I (h) (g) l1 l2]
  |_=>cases g
 |_=>cases h
end
section
variable {X:Cx} {a:Expr} {p pos:Pos}
theorem bw {as:List α} {bs:List β} (h:Paired F as bs) (hi:i<as.length) (x:α) (y:β):F (as.getD i x) (bs.getD i y):=by
 obtain⟨z,e,f⟩:=gK h (getElem?_eq_getElem hi);grind
theorem fF {as:List α} {bs:List β} (h:Paired F as bs) (x:α) (y:β):∀ {l:NO},(∀i∈l,i<as.length)->Paired F (l.map λi=>as.getD i x) (l.map λi=>bs.getD i y)
 |[],_=>.nil
 |i::l,z=>.cons (bw h (z i N5) x y) (fF h x y λj hj=>z j (N6 _ hj))
theorem lY (h:lU d=some z):∃ds,d=.tup ds/\dN ds=some z:=by
 cases d with
 |tup ds=>exact⟨ds,rfl,h⟩
 |_=>cases h
noncomputable def kindT (sh:List (Option Nat)):Bool:=decide (sh.head?=some none)
theorem CW {Y:St} (I:Inv X pins Y H s) (hu:A.units+1<cLine) (il:IsL X.K H ds xs) (r:Vals xs us) (hne:sh≠[]) (hs:∀d∈ds,∃f,lU d=some (sh,f)) {a:Addr} (ha:s.heap.objs.size<=a) (h1:Heap) (k1:∀b o,s.heap.get? b=some o->h1.get? b=some o):SortBy X.prog X.w A {s with heap:=h1} a us (tuples' (kindT sh)) (Md λi=>flt (ds.getD i .non)):=by
 have keep:∀h',(∀b o,b≠a->h1.get? b=some o->h'.get? b=some o)->Inv X pins Y H {s with heap:=h'}:=λh' k=>I.kept λb o q=>k b o (Ob (N8 (N1 q) ha)) (k1 b o q);have len1:=il.len;have len2:=r.length;refine⟨λh' k h2 Q hq=>?_,λh' k i j hi hj Q hq=>?_⟩
 ·have J:=keep h' k;-- the first items
  have first:∀ {ds:NS} {xs:List V} {us:NK},IsL X.K H ds xs->Vals xs us->(∀d∈ds,∃f,lU d=some (sh,f))->∃fs,PySem.W.KatTups h' us fs/\fs.length=us.length/\∀v∈fs,∀M,PySem.W.Looks M h' (typeOf v) (if kindT sh then .type "int"else .type "tuple"):=by
   intro ds;induction ds with
   |nil=>
    intro xs us il r _;cases(il);cases r;exact⟨[],trivial,rfl,λ_ z=>nomatch z⟩
   |cons d ds ih=>
    intro xs us il r hs;obtain⟨x,xr,rfl,ix,il⟩:=il;cases r with
    |cons rx r=>
     obtain⟨fs,q1,q2,q3⟩:=ih il r λe he=>hs e (N6 _ he);obtain⟨f,e⟩:=hs d N5;obtain⟨is,rfl,e⟩:=lY e;obtain⟨b,ys,rfl,t,l⟩:=ix;cases rx;obtain⟨its,rv,⟨o,p1,p2,n,p3⟩,_⟩:=J.tuple t;cases is with
     |nil=>cases e;exact absurd rfl hne
     |cons i0 is=>
      obtain⟨⟨a0,f1⟩,e1,e⟩:=Op e;obtain⟨⟨s1,f2⟩,e2,e⟩:=Op e;cases e;obtain⟨y,yr,rfl,iy,l⟩:=l;cases rv with
      |@cons _ v _ vr ry rv=>
       refine⟨v::fs,⟨⟨b,o,_,n,rfl,p1,p2,p3,rfl⟩,q1⟩,by rw[length_cons,length_cons,q2],λv' hv M=>?_⟩;rcases mem_cons.mp hv with rfl|hv
       ·cases i0 with
        |int i=>
         cases e1;cases(iy);obtain⟨tk,rfl⟩:=ry;exact PySem.W.Looks.of_pure rfl
        |tup js=>
         obtain⟨ns,_,z⟩:=Op e1;cases z;obtain⟨c,zs,rfl,t2,l2⟩:=iy;cases ry;obtain⟨its2,rv2,⟨o2,w1,w2,_⟩,_⟩:=J.tuple t2;rw[<-w2];exact(PySem.W.Looks.ld w1).andThen .now
        |_=>cases e1
       ·exact q3 v' hv M
  obtain⟨fs,q1,q2,q3⟩:=first il r hs
  refine PySem.W.kat_kind q1 (!1) (λv hv=>q3 v hv _) (by cases kindT sh<;>decide) ?_;have e:((if kindT sh then Value.type "int"else .type "tuple") !=Value.type "tuple")=kindT sh:=by cases kindT sh<;>decide
  rw[e];exact hq
 ·have J:=keep h' k;have hi':i<ds.length:=by omega
  have hj':j<ds.length:=by omega
  have ix:=bw il.paired hi' .non .non;have iy:=bw il.paired hj' .non .non;have rx:=bw r (i:=i) (!1) .non .none;have ry:=bw r (i:=j) (!1) .non .none;obtain⟨f,e1⟩:=hs (ds.getD i .non) (by rw[List.getD_eq_getElem?_getD,getElem?_eq_getElem hi'];exact List.getElem_mem hi');obtain⟨g,e2⟩:=hs (ds.getD j .non) (by rw[List.getD_eq_getElem?_getD,getElem?_eq_getElem hj'];exact List.getElem_mem hj');have hq:Q (HT.lexLt (flt (ds.getD i .non)) (flt (ds.getD j .non))) {s with heap:=h'}:=hq;generalize ds.getD i .non=d at ix e1 hq;generalize ds.getD j .non=e at iy e2 hq;generalize xs.getD i .non=x at ix rx;generalize xs.getD j .non=y at iy ry;generalize us.getD i .none=u at rx;generalize us.getD j .none=v at ry;unfold flt at hq;rw[e1,e2]at hq;obtain⟨as,rfl,e1⟩:=lY e1;obtain⟨bs,rfl,e2⟩:=lY e2;obtain⟨b1,x1,rfl,t1,l1⟩:=ix;obtain⟨b2,x2,rfl,t2,l2⟩:=iy;cases rx;cases ry;obtain⟨it1,rv1,⟨o1,p1,_,n1,p3⟩,_⟩:=J.tuple t1;obtain⟨it2,rv2,⟨o2,w1,_,n2,w3⟩,_⟩:=J.tuple t2;have sz:∀ {ds:NS} {sh:List (Option Nat)} {f:NQ},dN ds=some (sh,f)->ds.length=sh.length:=λ{ds}=>by
   induction ds with
   |nil=>intro sh f h;cases h;rfl
   |cons d ds ih=>
    intro sh f h;obtain⟨z,_,h⟩:=Op h;obtain⟨⟨r1,r2⟩,h2,h⟩:=Op h;cases h;rw[length_cons,length_cons,ih h2]
  have z1:it1.length=sh.length:=by rw[<-rv1.length,<-l1.len,sz e1]
  have z2:it2.length=sh.length:=by rw[<-rv2.length,<-l2.len,sz e2]
  refine PySem.W.kat_lt p1 p3 w1 w3 (oh J hu 0 e1 e2 l1 l2 rv1 rv2 (λhb _=>N7 hb) (decide_eq_false ?_) hq);show¬it1.length<it2.length;omega
def GV (K:Frag):List V->Hp->VK->Prop:=λvs H Q=>∃l ds xs,vs=[.ref l]/\SqL K H l xs/\IsL K H ds xs/\ds.length<1024/\gR ds/\
 ∀ (q:Addr) (ls:NO),H q=none->(∀i∈ls,i<ds.length)->ls.map (λi=>ds.getD i .non)=pM ds->Q (.ref q) (upd H q (.lst (ls.map λi=>xs.getD i .non)))
theorem ji {α:Type} {l:List α} (h:i<l.length) (x:α):l.getD i x∈l:=by grind
theorem t4 (hr:Room k X.A):dD X (.builtin "sorted") (GV X.K):=by
 intro pins s Y H xs us Q I r h;obtain⟨l,ds,ys,rfl,hx,il,h64,hs,q⟩:=h;obtain⟨u,rfl,ru⟩:=eW r;cases ru;obtain⟨its,rv,pl,hz⟩:=I.list hx;have hl:=rv.length;have hd:=il.len;obtain⟨sh,hne,hs'⟩:=id hs;have big:(1024:Nat)<=sizeLine:=by decide
 refine t3 (rv:=zL its (rk ds.length λi=>flt _)) pl.isList (!1) (λh' k'=>wZ (CW I (by have:=hr.un;show X.A.units+1+1+1<_;omega) il rv hne hs' (Nat.le_succ _) h' k') λi j hi hj=>by exact EH (f:=λi=>flt (ds.getD i .non)) (!1)) λo op os=>?_;have op':o.Perm ((List.range its.length).map λi=>its.getD i .none):=by rw[bT];exact op
 obtain⟨ls,lp,rfl⟩:=lX op';have e2:∀i∈ls,i<ds.length:=λi hi=>by
  have:=Oj.mp (lp.mem_iff.mp hi);omega
 have one:∀i,i<ds.length->∃j,j<ds.length/\flt (ds.getD j .non)=flt (ds.getD i .non)/\zL its (rk ds.length λi=>flt (ds.getD i .non)) _=rk ds.length (λi=>flt _) j:=λi hi=>by
  obtain⟨j,hj,e,z⟩:=pN (ji (show i<its.length by omega) Value.none);have hj':j<ds.length:=by omega
  refine⟨j,hj',?_,z⟩;obtain⟨f,f1⟩:=hs' _ (ji hi .non);obtain⟨g,g1⟩:=hs' _ (ji hj' .non);have rj:=bw rv (i:=j) (!1) .non .none;rw[e]at rj;rw[zN I g1 f1 (bw il.paired hj' .non .non) (bw il.paired hi .non .non) rj (bw rv (!1) .non .none)]
 have e3:ls.map (λi=>ds.getD i .non)=pM ds:=by
  refine vt hs ?_ ?_
  ·have:=lp.map λi=>ds.getD i .non;rwa [show its.length=ds.length by omega,bT]at this
  ·refine List.pairwise_map.mpr ((List.pairwise_map.mp os).imp_of_mem λ{i j} hi hj h=>?_);obtain⟨i',hi',e4,e5⟩:=one i (e2 i hi);obtain⟨j',hj',e6,e7⟩:=one j (e2 j hj);rw[<-e4,<-e6,EH (f:=λi=>flt (ds.getD i .non)) hj'];exact decide_eq_false (!1)
 obtain⟨e,he⟩:=sortedAll_at s.heap its (ls.map λi=>its.getD i .none).toArray;have fr:=I.hok.fresh (Nat.le_succ _);have hln:(ls.map λi=>ys.getD i V.non).length<1024:=by
  have:=congrArg List.length e3;rw[length_map,(jh ds).length_eq]at this;rw[length_map];omega
 refine⟨.ref _,_,I.laid (λb o q=>sortedAll_old q) (Nat.le_succ _) (o:=.lst (ls.map λi=>ys.getD i V.non)) ⟨?_,ls.map (λi=>its.getD i .none),e,fF rv .non .none (λi hi=>by have:=e2 i hi;omega),by simpa using he⟩,rfl,q _ ls fr e2 e3⟩;omega
theorem zO (hr:Room k X.A) (hg:Gl X "sorted") (hm:X.mg "sorted"=none) (ha:PX X [a] fa) (hs:starEach [a] X.env=[(false,eval a X.env)]):
  PF X (.Call (.Name "sorted" p) [a] [] pos) (λU=>(fa U).bind re):=λO U=>(lg (t4 hr) hg hm zu (ha O U) (!4) (!4) (by rw[hs];rfl) rfl).imp λY H Q ⟨E,ds,q,k⟩=>by
 obtain⟨as,e1,q⟩:=Op q
 refine⟨E,as,e1,λvs H1 s1 il=>?_⟩
 obtain⟨c,rfl,q2⟩:=aW q
 obtain⟨xs,q3,q4⟩:=Op q2
 obtain⟨⟨h64,hs⟩,q7⟩:=az q4
 subst q7
 obtain⟨v,rfl,h⟩:=is1 il
 obtain⟨l,ys,rfl,t,l2⟩:=cA q3 h
 refine⟨l,xs,ys,rfl,msk_le.seq t,l2.full,h64,hs,λb ls hb hls e=>k b _ H1 s1 hb ?_⟩
 rw[<-e]
 exact IsL.of (fF l2.paired .non .non hls)
def cb (ds:NS):NI:=match jZ ds with
 |some r=>some r
 |none=>re ds
theorem kQ (h:jZ ds=some r):cb ds=some r:=by unfold cb;rw[h]
theorem CY (h:jZ ds=none) (g:re ds=some r):cb ds=some r:=by unfold cb;rw[h];exact g
theorem zP (hr:Room k X.A) (hg:Gl X "sorted") (hm:X.mg "sorted"=none) (ha:PX X [a] fa) (hs:starEach [a] X.env=[(false,eval a X.env)]):
  PF X (.Call (.Name "sorted" p) [a] [] pos) (λU=>(fa U).bind cb):=λO U=>by
 have h1:=CU (p:=p) (pos:=pos) hg hm ha hs O U
 have h2:=zO (p:=p) (pos:=pos) hr hg hm ha hs O U
 dsimp only at h1 h2⊢
 cases e:fa U with
 |none=>rw[e]at h1;exact h1
 |some ds=>
  rw[e]at h1 h2;cases e2:jZ ds with
  |some r=>
   have z:(some ds).bind cb=(some ds).bind jZ:=by show cb ds=jZ ds;rw[kQ e2,e2]
   rw[z];exact h1
  |none=>
   have z:(some ds).bind cb=(some ds).bind re:=by show cb ds=re ds;unfold cb;rw[e2]
   rw[z];exact h2
end
section
variable {X:Cx} {a:Expr} {p p2 pos pos2:Pos}
theorem lZ:∀ (l:NK) (k:Int),(∀ (i:Nat) (v:Value),l[i]?=some v->∃t,v=Value.int (k+(i:Int)) t)->Vals ((List.range l.length).map λ(i:Nat)=>V.int (k+(i:Int))) l
 |[],_,_=>.nil
 |v::l,k,h=>by
  rw[length_cons,List.range_succ_eq_map,List.map_cons,List.map_map];obtain⟨t,e⟩:=h 0 v rfl;refine .cons ⟨t,by simpa using e⟩ ?_;have:=lZ l (k+1) λi w q=>by
   obtain⟨t,e⟩:=h (i+1) w (by simpa using q);exact⟨t,by rw[e];congr 1;omega⟩
  have e2:((List.range l.length).map λ(i:Nat)=>V.int (k+1+(i:Int)))=(List.range l.length).map ((λ(i:Nat)=>V.int (k+(i:Int)))∘Nat.succ):=by
   apply List.map_congr_left;intro i _;show V.int _=V.int _;congr 1;simp;omega
  rw[<-e2];exact this
def tLr (ta:TA):TE:=λY H Q=>ta Y H λvs H1=>∃j:Int,vs=[.int j]/\inR j/\j<1000000/\∀q,H1 q=none->Q (.ref q) (upd H1 q (.lst ((List.range j.toNat).map λ(i:Nat)=>V.int (i:Int))))
theorem CZ (hc:X.calm=true) (hg:Gl X "list") (hm:X.mg "list"=none) (hg2:Gl X "range") (hm2:X.mg "range"=none) (ha:PA X [a] ta) (hs:starEach [a] X.env=[(false,eval a X.env)]):
  PE X (.Call (.Name "list" p) [.Call (.Name "range" p2) [a] [] pos2] [] pos) (tLr ta):=by
 intro pins s Y H Q I h
 refine wpAny_Call_Name_kw (ce I hg hm EB (PyProof.Rows.callWith_type1 ?_ rfl rfl))
 show wpAny _ _ (spliced ((false,eval (.Call (.Name "range" p2) [a] [] pos2) X.env)::[])) _ _ s
 refine Calls.spliced_cons ?_
 refine wpAny_Call_Name_kw (ce I hg2 hm2 boot_range (PyProof.Rows.callWith_type1 (thn (ha pos2 pins s Y H _ I h) λus s1 ⟨vs,H1,I1,r1,q1⟩=>?_) (by rw[hs];rfl) rfl))
 obtain⟨j,rfl,hj,hj2,q⟩:=q1
 obtain⟨u,rfl,ru⟩:=eW r1
 obtain⟨t,rfl⟩:=ru
 have hj':=hj
 refine call_range_1 (Calls.spliced_nil ?_)
 have up:∀d o,s1.heap.get? d=some o->(s1.heap.push {cls:=.type "range",data:=.fields #[.int 0 s1.toks,.int j t,.int 1 (s1.toks+1)]}).get? d=some o:=λd o e=>NX _ e
 have I2:Inv X pins Y H1 {s1 with heap:=s1.heap.push {cls:=.type "range",data:=.fields #[.int 0 s1.toks,.int j t,.int 1 _]},toks:=s1.toks+1+1}:=I1.kept up
 have hn:Builtin.Range.rangeSize 0 j 1=(j.toNat:Nat):=by rw[rangeSize_one];split<;>omega
 refine call_list_range (I1.ok.hd hc) (IsRange.new ..) (small_one (!1) (!1) hj'.1 hj'.2) hn (!1) λg tk acc c k hgS hi=>?_
 have fr:H1 (s1.heap.push {cls:=.type "range",data:=.fields #[.int 0 s1.toks,.int j t,.int 1 _]}).objs.size=none:=I2.hok.fresh (Om _)
 refine⟨.ref _,_,I2.laid (o:=.lst ((List.range j.toNat).map λ(i:Nat)=>V.int (i:Int))) k (Om _) ⟨?_,acc.toList,c,?_,by simpa using hgS⟩,rfl,q _ fr⟩
 ·rw[length_map,length_range,sizeLine_eq];omega
 ·have:=lZ acc.toList 0 λi v e=>by
   obtain⟨t,z⟩:=hi.2 i v (by rw[<-Array.getElem?_toList];exact e);exact⟨t,by rw[z];congr 1;omega⟩
  rw[Array.length_toList,hi.1]at this;simpa using this
def lrD:NS->NI:=un1 λd=>(lJ d).bind λj=>if inR j/\j<1000000 then some (kf 0 j.toNat)else none
theorem C0 (hc:X.calm=true) (hg:Gl X "list") (hm:X.mg "list"=none) (hg2:Gl X "range") (hm2:X.mg "range"=none) (ha:PX X [a] fa) (hs:starEach [a] X.env=[(false,eval a X.env)]):
  PF X (.Call (.Name "list" p) [.Call (.Name "range" p2) [a] [] pos2] [] pos) (λU=>(fa U).bind lrD):=λO U=>(CZ hc hg hm hg2 hm2 (ha O U) hs).imp λY H Q ⟨E,ds,q,k⟩=>by
 obtain⟨as,e1,q⟩:=Op q
 refine⟨E,as,e1,λvs H1 s1 il=>?_⟩
 obtain⟨c,rfl,q2⟩:=aW q
 obtain⟨j,q3,q4⟩:=Op q2
 obtain⟨h1,h2⟩:=az q4
 subst h2
 obtain⟨v,rfl,h⟩:=is1 il
 cases intD_some q3
 refine⟨j,by rw[show v=.int j from h],h1.1,h1.2,λb hb=>k b _ H1 s1 hb ?_⟩
 have e:kf 0 j.toNat=((List.range j.toNat).map λ(i:Nat)=>(i:Int)).map D.int:=by unfold kf;rw[List.map_map];apply List.map_congr_left;intro i _;simp
 have e2:((List.range j.toNat).map λ(i:Nat)=>V.int (i:Int))=((List.range j.toNat).map λ(i:Nat)=>(i:Int)).map V.int:=by rw[List.map_map];rfl
 rw[e,e2]
 exact lP _
end
section
variable {X:Cx} {e:Expr} {pos:Pos}
theorem oj:∀ (bs:List Bool),((List.range bs.length).any λi=>bs.getD i false)=bs.any (λz=>z)
 |[]=>rfl
 |b::bs=>by
  rw[length_cons,List.range_succ_eq_map,List.any_cons,List.any_map,List.any_cons,<-oj bs];rfl
theorem call_any (hc:X.calm=true):dD X (.builtin "any") (λxs H Q=>∃ (p:Addr) (bs:List Bool),xs=[.ref p]/\SqL X.K H p (bs.map V.bl)/\Q (.bl (bs.any (λz=>z))) H):=by
 intro pins s Y H xs us Q I r h;obtain⟨l,bs,rfl,hl,q⟩:=h;obtain⟨u,rfl,ru⟩:=eW r;cases ru;obtain⟨its,rv,pl,hz⟩:=I.list hl;have eb:=lF rv;subst eb;have hL:=pl.isList;have hlt:l<s.heap.objs.size:=by obtain⟨_,e,_⟩:=hL;exact N1 e
 refine call_any_walk (wpAny_pyIter_list hL ?_);refine⟨s.heap.objs.size,[s.heap.objs.size,l],[s.heap.objs.size],_,_,_,λi=>bs.getD i false,rfl,Walks.list (A:=X.A.in1) (I.ok.hd hc) _ l (Ob hlt) (bs.map Value.bool).toArray,
  ⟨⟨_,N2 _ rfl,rfl,rfl⟩,hL.push _⟩,λi v s' Q' E' hP hQ=>?_,λh' tk hk=>?_⟩
 ·have hP':(bs.map Value.bool)[i]?=some v:=by simpa using hP
  rw[getElem?_map]at hP';cases e:bs[i]? with
  |none=>rw[e]at hP';cases hP'
  |some b=>
   rw[e]at hP';cases hP';have e':bs.getD i false=b:=by rw[List.getD_eq_getElem?_getD,e];rfl
   dsimp only at hQ;rw[e']at hQ;exact wpAny_truthy_bool hQ
 ·have e:((List.range (bs.map Value.bool).toArray.size).any λi=>bs.getD i false)=bs.any (λz=>z):=by
   rw[size_toArray,length_map];exact oj bs
  rw[e];exact⟨.bl _,H,I.kept λb o ho=>hk b o (λhm=>by rw[mem_singleton.mp hm]at ho;exact Oh _ (N1 ho)) (NX _ ho),rfl,q⟩
def zQ:NS->NU:=un1 λd=>(fu d).bind λds=>(wH ds).bind λbs=>some (.bl (bs.any (λz=>z)))
theorem rn_any:RnD X.K (λxs H Q=>∃ (p:Addr) (bs:List Bool),xs=[.ref p]/\SqL X.K H p (bs.map V.bl)/\Q (.bl (bs.any (λz=>z))) H) zQ:=λO H xs ds d Q hd l e k=>by
 obtain⟨c,rfl,e⟩:=aW e;obtain⟨es,e1,e2⟩:=Op e;obtain⟨bs,e3,e4⟩:=Op e2;cases e4;obtain⟨v,rfl,h⟩:=is1 l;obtain⟨p,ys,rfl,q,l2⟩:=cA e1 h;rw[oV e3 l2]at q;exact⟨p,bs,rfl,msk_le.seq q,k _ H (Same.refl _) rfl⟩
end
noncomputable def gj (k:Nat) {α:Type} (l:List α) (x:α):List α:=l.take k++x::l.drop k
theorem DeepL.appR {K} (h2:DeepL K M H es ys C):∀ {ds:NS} {xs:List V} {A:List Addr},DeepL K M H ds xs A->DeepL K M H (ds++es) (xs++ys) (A++C)
 |[],xs,A,h=>by obtain⟨rfl,rfl⟩:=h;exact h2
 |d::ds,xs,A,⟨x,r,A1,A2,e1,e2,g1,g2⟩=>by
  subst e1 e2;exact⟨x,r++ys,A1,A2++C,rfl,List.append_assoc ..,g1,DeepL.appR h2 g2⟩
theorem DeepL.cutAt {K}:∀ {ds:NS} {xs:List V} {A:List Addr} (k:Nat),DeepL K M H ds xs A->∃A1 A2,A=A1++A2/\DeepL K M H (ds.take k) (xs.take k) A1/\DeepL K M H (ds.drop k) (xs.drop k) A2
 |ds,xs,A,0,h=>⟨[],A,rfl,⟨rfl,rfl⟩,h⟩
 |[],xs,A,k+1,h=>by obtain⟨rfl,rfl⟩:=h;exact⟨[],[],rfl,⟨rfl,rfl⟩,⟨rfl,rfl⟩⟩
 |d::ds,xs,A,k+1,⟨x,r,A1,A2,e1,e2,g1,g2⟩=>by
  subst e1 e2;obtain⟨B1,B2,e,q1,q2⟩:=DeepL.cutAt k g2;subst e;exact⟨A1++B1,B2,(List.append_assoc ..).symm,⟨x,_,A1,B1,rfl,rfl,g1,q1⟩,q2⟩
theorem J6 (k:Nat):lsW (gj k):=λ{K M H ds xs A A1 d v} h q nd=>by
 obtain⟨B1,B2,rfl,q1,q2⟩:=DeepL.cutAt k h;have q3:DeepL K M H (d::ds.drop k) (v::xs.drop k) (A1++B2):=⟨v,_,A1,B2,rfl,rfl,q,q2⟩;refine⟨B1++(A1++B2),DeepL.appR q3 q1,?_,λb hb=>?_⟩;all_goals grind
theorem IsL.takeD {K}:∀ {ds:NS} {xs:List V} (k:Nat),IsL K M ds xs->IsL K M (ds.take k) (xs.take k)/\IsL K M (ds.drop k) (xs.drop k)
 |ds,xs,0,h=>⟨rfl,h⟩
 |[],xs,k+1,h=>by cases(show xs=[]from h);exact⟨rfl,rfl⟩
 |d::ds,xs,k+1,⟨x,r,e,g1,g2⟩=>by
  subst e;obtain⟨q1,q2⟩:=IsL.takeD k g2;exact⟨⟨x,_,rfl,g1,q1⟩,q2⟩
theorem J7 (k:Nat):lsI (gj k):=λh q=>(IsL.takeD k h).1.app ⟨_,_,rfl,q,(IsL.takeD k h).2⟩
theorem Vals.ins (k:Nat) (r:Vals xs us) (ru:RelV y u):Vals (gj k xs y) (gj k us u):=(r.take k).append (.cons ru (r.drop k))
def C1:V->List V->Hp->VK->Prop:=λx vs H Q=>∃ (l:Addr) (xs:List V) (i:Int) (k:Nat) (y:V),x=.ref l/\vs=[.int i,y]/\i=(k:Int)/\H l=some (.lst xs)/\k<=xs.length/\xs.length<sizeLine/\Q .non (upd H l (.lst (gj k xs y)))
theorem C2 (its:NK) (x:Int) (k:Nat) (u:Value) (hx:x=(k:Int)) (hk:k<=its.length):(its.toArray.extract 0 (if x<0 then(x+((its.toArray.size:Nat):Int)).toNat else min x.toNat its.toArray.size)).push u++its.toArray.extract (if x<0 then(x+((its.toArray.size:Nat):Int)).toNat else min x.toNat its.toArray.size)=(gj k its u).toArray:=by grind [gj]
theorem w5:MtM X "list.insert" C1:=by
 intro pins s Y H x vs v us Q I rx rv h;obtain⟨l,xs,i,k,y,rfl,rfl,hi,hH,hk,hz,q⟩:=h;cases rx;cases rv with
 |cons r1 r2=>
 obtain⟨u,rfl,ru⟩:=(show Vals [y] _ from r2).one;obtain⟨t,rfl⟩:=r1;obtain⟨z,its,n,r,hl,e⟩:=I.lstM hH;have hf:Builtin.List.listFitsIndex i=true:=by
  have:sizeLine<2^63:=by decide
  unfold Builtin.List.listFitsIndex;simp only[and_eq_true,decide_eq_true_eq];omega
 refine call_meets F.slot_list_insert ⟨_,e,rfl⟩ F.entry_list_insert (F.args_list_insert_3 _ _ _) (AutoSeq1.list_insert_list_int_val_1 l its.toArray n i t u (by simp[hf]) (by rw[size_toArray];omega)) ⟨e,?_⟩;refine⟨.non,_,I.lset hH e ?_ (r.ins k ru) ?_,rfl,q⟩
 ·exact C2 its i k u hi (!1)
 ·unfold gj;rw[length_append,length_cons,List.length_take,List.length_drop];omega
section
variable {X:Cx} {e:Expr} {pos:Pos}
noncomputable def C3 (n:Nat) (d:D):Option Nat:=match d with
 |.int i=>if 0<=i/\i<=(n:Int)then some i.toNat else none
 |_=>none
theorem w6 (h:C3 n d=some k):d=.int (k:Int)/\k<=n:=by
 unfold C3 at h;grind
def zR (i:Nat) (fk R:wp):Cl:=λU=>(ownL U i).bind λw=>(fk (shv U)).bind λy=>(C3 w.2.length y).bind λk=>(lfO (R (shv U))).bind λd=>
 if w.2.length+1<big then some (.nx (U.set i (some (newCat w.1 (.deep,d),.lst (gj k w.2 d)))))else none
theorem xa (i:Nat) (hk:PP X ek fk) (h:PP X e R) (hN:X.N[i]?=some x) (hv:Vis X.env.scope x) (hd:(!7)=false) (hcd:(!10)=false) (hst:starEach [ek,e] X.env=(false,eval ek X.env)::starEach [e] X.env) (hst2:starEach [e] X.env=(false,eval e X.env)::starEach [] X.env) (hline:(!25)=true):
  PR X (.Expr (.Call (.Attribute (!17) "insert" apos) [ek,e] [] cpos) pos) (zR i fk R):=λB O U=>
 (eD (qI PySem.F.plainAttrs_list PySem.F.slot_list_insert PySem.F.type_list_insert w5 (cc hN hv hd hcd) (dE (hk O _) (dE (h O _) pa_nil hst2) hst) rfl (by rw[hst,hst2];rfl) hline hst (by rw[hst2];rfl))).imp λEn Y H ⟨E,o,q,k⟩=>by
 obtain⟨⟨c,ds⟩,q1,q⟩:=Op q
 obtain⟨y,q2,q⟩:=Op q
 obtain⟨j,q3,q⟩:=Op q
 obtain⟨d,q4,q⟩:=Op q
 obtain⟨hz,q⟩:=az q
 subst q
 obtain⟨h0,hc0⟩:=bN q1
 obtain⟨d',p5,p6⟩:=Op q4
 obtain⟨lf,p7⟩:=az p6
 subst p7
 obtain⟨ey,hj⟩:=w6 q3
 subst ey
 obtain⟨a,xs0,e1,r3,_⟩:=E.ownAt h0 hc0
 refine⟨.ref a,e1,.inl ⟨rfl,_,SqL.of r3⟩,E.viewS,_,q2,λyv H1 s1 iy=>?_⟩
 cases(iy)
 have E1:=E.grow s1
 refine⟨E1.viewS,d',p5,λv H2 s2 iv=>?_⟩
 have E2:=E1.grow s2
 have E3:=E2.moreS iv
 have ex:extS d'=(.deep,d'):=by unfold extS;rw[if_pos lf]
 rw[ex]at E3
 obtain⟨a',xs,e2,r4,hl,O2,E4,s4⟩:=E3.change (gj j) (J6 j) (J7 j) h0 hc0
 rw[e1]at e2
 cases e2
 exact⟨a,xs,_,j,v,rfl,rfl,rfl,r4,by rw[<-hl];exact hj,by rw[gN,<-hl];exact Nat.lt_of_succ_lt hz,k Y _ O2 (s1.msk.trans (s2.msk.trans s4)) E4⟩
end
noncomputable def C4 {α:Type} (l:List α) (_:α):List α:=l.reverse
theorem DeepL.rev {K}:∀ {ds:NS} {xs:List V} {A:List Addr},DeepL K M H ds xs A->∃A',DeepL K M H ds.reverse xs.reverse A'/\A'.Perm A
 |[],xs,A,h=>by obtain⟨rfl,rfl⟩:=h;exact⟨[],⟨rfl,rfl⟩,.refl _⟩
 |d::ds,xs,A,⟨x,r,A1,A2,e1,e2,g1,g2⟩=>by
  subst e1 e2;obtain⟨A',q,p⟩:=DeepL.rev g2;refine⟨A'++A1,?_,(p.append_right _).trans List.perm_append_comm⟩;rw[List.reverse_cons,List.reverse_cons];exact DeepL.snoc g1 q
theorem J8:lsW C4:=λh q nd=>by
 obtain⟨A',l,p⟩:=DeepL.rev h;grind [lsW,C4]
theorem IsL.revD {K}:∀ {ds:NS} {xs:List V},IsL K M ds xs->IsL K M ds.reverse xs.reverse
 |[],xs,h=>by cases(show xs=[]from h);exact rfl
 |d::ds,xs,⟨x,r,e,g1,g2⟩=>by
  subst e;rw[List.reverse_cons,List.reverse_cons];exact(IsL.revD g2).app ⟨_,[],rfl,g1,rfl⟩
theorem J9:lsI C4:=λh _=>IsL.revD h
section
variable {X:Cx} {e:Expr} {pos:Pos}
def xb (i:Nat):Cl:=λU=>(ownL U i).bind λw=>some (.nx (U.set i (some (newCat w.1 (.deep,.non),.lst w.2.reverse))))
theorem t5 (i:Nat) (hN:X.N[i]?=some x) (hv:Vis X.env.scope x) (hd:(!7)=false) (hcd:(!10)=false) (hline:(!25)=true):PR X (.Expr (.Call (.Attribute (!17) "reverse" apos) [] [] cpos) pos) (xb i):=λB O U=>
 (eD (FG PySem.F.plainAttrs_list PySem.F.slot_list_reverse PySem.F.type_list_reverse tf (cc hN hv hd hcd) rfl hline)).imp λEn Y H ⟨E,o,q,k⟩=>by
 obtain⟨⟨c,ds⟩,q1,q⟩:=Op q;cases q;obtain⟨h0,hc0⟩:=bN q1;have E3:=E.moreS (d:=.non) rfl;obtain⟨a,xs,e1,r4,hl,O2,E4,s4⟩:=E3.change C4 J8 J9 h0 hc0;exact⟨.ref a,e1,.inl ⟨rfl,_,SqL.of r4⟩,a,xs,rfl,rfl,r4,k Y _ O2 s4 E4⟩
theorem PS.ex {e} {ι:Type} {t:ι->TS} (h:∀z,PS X e (t z)):PS X e (λD Y H=>∃z,t z D Y H):=λpins s Y H D I ⟨z,q⟩=>h z pins s Y H D I q
theorem GW {st} (is:NO) (h:PR X st F):PR X st (λU=>F (frzS is U)):=λB O U=>(PS.ex λO'=>h B O' _).imp λEn Y H ⟨E,out,q,k⟩=>by
 obtain⟨O',E',le⟩:=E.frzS is;exact⟨O',E',out,q,k.mono le⟩
end
def whF (c:Fr) (F:Cl):Nat->Cl
 |0,_=>none
 |n+1,U=>(c (vw U)).bind λb=>if b=true then(F U).bind λo=>match o with
  |.nx U'=>whF c F n U'
  |.ct U'=>whF c F n U'
  |.bk U'=>some (.nx U')
  |.rt s=>some (.rt s)else some (.nx U)
def wlF (c:Fr) (F:Cl):Cl:=whF c F 400
section
variable {X:Cx} {pos:Pos}
theorem PT.ex {ι:Type} {t:ι->TT} (h:∀z,PT X c (t z)):PT X c (λY H Q=>∃z,t z Y H Q):=λpins s Y H D I ⟨z,q⟩=>h z pins s Y H D I q
theorem zS (hp:PassesOwn (!3) X.A X.env X.xe) (hc:PQ X c fc) (hb:PRs X body F):PR X (.While c body [] pos) (wlF fc F):=λB O U=>
 (xV hp (PT.ex λz:Vv=>hc noO z) (PSs.ex λz:(NR)×Ev=>hb B z.1 z.2)).imp λEn Y H ⟨E,o,q,k⟩=>by
 refine⟨λm Y' H'=>∃O' U',whF fc F m U'=some o/\EnvOk X.K B O' Y' H' U'/\Same _ (msk O' H'),⟨400,O,U,q,E,Same.refl _⟩,?_⟩;rintro m Y1 H1 ⟨O1,U1,q1,E1,s1⟩;cases m with
 |zero=>cases q1
 |succ n=>
  obtain⟨b,q2,q3⟩:=Op (show((fc (vw U1)).bind λb=>if b=true then(F U1).bind λo=>match o with
   |.nx U'=>whF fc F n U'
   |.ct U'=>whF fc F n U'
   |.bk U'=>some _
   |.rt s=>some (.rt s)else some _)=some o from q1)
  refine⟨vw U1,E1.view,b,q2,λH2 s2=>?_⟩;cases b with
  |false=>
   cases q3;exact k Y1 H2 O1 (s1.trans s2.msk) (E1.grow s2)
  |true=>
   obtain⟨o1,q4,q5⟩:=Op q3;refine⟨λY' H'=>∃O' U',whF fc F n U'=some o/\EnvOk X.K B O' Y' H' U'/\Same _ _,λY' H' h=>⟨n,Nat.lt_succ_self n,h⟩,(O1,U1),E1.grow s2,o1,q4,?_⟩;have s3:=s1.trans s2.msk;cases o1 with
   |nx U2=>exactλY' H' O' s' E'=>⟨O',U2,q5,E',s3.trans s'⟩
   |ct U2=>exactλY' H' O' s' E'=>⟨O',U2,q5,E',s3.trans s'⟩
   |bk U2=>
    cases q5;exactλY' H' O' s' E'=>k Y' H' O' (s3.trans s') E'
   |rt s=>
    cases q5;exactλv H' r=>k v H' r
end
def Stl (M M1:Hp):Prop:=∀b u,M b=some u->M1 b=some u\/∃o kvs,u=.dK kvs/\M1 b=some (.frz o u)
theorem Stl.rd (s:Stl M M1) (h:Rd M a u):Rd M1 a u:=by
 rcases h with h|⟨o,h⟩
 ·rcases s _ _ h with h|⟨o,_,_,h⟩
  ·exact .inl h
  ·exact .inr ⟨o,h⟩
 ·rcases s _ _ h with h|⟨_,_,z,_⟩
  ·exact .inr ⟨o,h⟩
  ·cases z
theorem Stl.sq {K} (s:Stl M M1) (h:SqL K M a xs):SqL K M1 a xs:=h.imp s.rd id
theorem Stl.sqT {K} (s:Stl M M1) (h:SqT K M a xs):SqT K M1 a xs:=h.imp s.rd id
mutual
theorem Is.stl {K:Frag} {H H':Hp} (s:Stl H H'):∀ (d:D) (v:V),Is K H d v->Is K H' d v
 |.non,_,h=>h
 |.bl _,_,h=>h
 |.int _,_,h=>h
 |.str _,_,h=>h
 |.ty _,_,h=>h
 |.adr _,_,h=>h
 |.tup ds,_,⟨a,xs,e,q,l⟩=>⟨a,xs,e,s.sqT q,IsL.stl s ds xs l⟩
 |.lst ds,_,⟨a,xs,e,q,l⟩=>⟨a,xs,e,s.sq q,IsL.stl s ds xs l⟩
 |.obj _ _ ds,_,⟨a,Ca,dx,fs,e,c,q,z,l⟩=>⟨a,Ca,dx,fs,e,c,(s _ _ q).elim id (λ⟨_,_,z,_⟩=>nomatch z),z,IsL.stl s ds _ l⟩
 |.dct _ ds,_,⟨a,kvs,e,q,z,l⟩=>⟨a,kvs,e,s.rd q,z,IsL.stl s ds _ l⟩
theorem IsL.stl {K:Frag} {H H':Hp} (s:Stl H H'):∀ (ds:NS) (xs:List V),IsL K H ds xs->IsL K H' ds xs
 |[],_,h=>h
 |d::ds,_,⟨x,r,e,h,l⟩=>⟨x,r,e,Is.stl s d x h,IsL.stl s ds r l⟩
end
theorem C5 (o:Obj) (e:H a=some (.dK kvs)):Stl H (upd H a (.frz o (.dK kvs))):=λb u h=>by
 by_cases hb:b=a
 ·subst hb;rw[e]at h;cases h;exact .inr ⟨o,kvs,rfl,ai⟩
 ·exact .inl (by rw[ag hb];exact h)
theorem C6 (s:Stl H H1):Stl (msk O H) (msk O H1):=by simp_all [Hp,Stl,msk]
section
variable {X:Cx} {pins:NG} {Y:St} {H:Hp} {s:Shared} {a:Addr} {u w:HO} {kvs:List (Key×V)}
def DkO (kvs:List (Key×V)) (u:HO):Prop:=u=.dK kvs\/∃o,u=.frz o (.dK kvs)
def Ka (H₀:Hp) (a:Addr):Prop:=∀o,H₀ a=some o->(∀b u,o≠.frz b u)/\(∀xs,o≠.tup xs)/\∀ps,o≠.tbl ps
theorem Inv.noSt (I:Inv X pins Y H s) (e:H a=some (.dK kvs)):Ka X.H₀ a:=λo h=>by
 refine⟨λb u z=>?_,λxs z=>?_,λps z=>?_⟩
 ·subst z;rw[I.base.frzs a b u h]at e;cases e
 ·subst z;rw[I.base.tups a xs h]at e;cases e
 ·subst z;obtain⟨m,q⟩:=I.base.tbls a ps h;rw[q]at e;cases e
theorem Inv.reset (I:Inv X pins Y H s) (e:H a=some u) (hu:DkO kvs u) (h0:Ka X.H₀ a) (new:ObjOk X.prog X.w (upd H a w) s.heap a w):Inv X pins Y (upd H a w) s:=by
 have ne:∀b,H b=none->b≠a:=λb h z=>by subst z;rw[e]at h;cases h
 have n1:∀b xs,H b=some (.tup xs)->b≠a:=λb xs h z=>by
  subst z;rw[e]at h;cases h;rcases hu with z|⟨_,z⟩<;>cases z
 have n2:∀b y,H b=some (.own y)->b≠a:=λb y h z=>by
  subst z;rw[e]at h;cases h;rcases hu with z|⟨_,z⟩<;>cases z
 refine⟨I.ok,I.os,I.bare,⟨I.base.keep,I.base.slot,λb o q n x=>?_,I.base.there,λb xs q=>?_,λb o st q=>?_,λb ps q=>?_⟩,I.loc,I.cell,?_,λx c q=>?_,λp hp=>?_,λb o q=>?_,I.len⟩
 ·have:=I.base.free b o q n x;rw[ag (ne b this)];exact this
 ·by_cases z:b=a
  ·subst z;exact absurd rfl ((h0 _ q).2.1 xs)
  ·rw[ag z];exact I.base.tups b xs q
 ·by_cases z:b=a
  ·subst z;exact absurd rfl ((h0 _ q).1 o st)
  ·rw[ag z];exact I.base.frzs b o st q
 ·by_cases z:b=a
  ·subst z;exact absurd rfl ((h0 _ q).2.2 ps)
  ·rw[ag z];exact I.base.tbls b ps q
 ·rw[ag (ne _ I.free)];exact I.free
 ·rw[ag (ne _ (I.freeC x c q))];exact I.freeC x c q
 ·obtain⟨p1,p2,p3⟩:=I.pin p hp;exact⟨p1,by rw[ag (ne _ p2)];exact p2,p3⟩
 ·by_cases z:b=a
  ·subst z;rw[ai]at q;cases q;exact new
  ·rw[ag z]at q;refine(I.hok b o q).stay (λ_ _ _ r=>r) (λc r=>?_) (λc xs r=>?_)
   ·rw[ag (n2 c b r)];exact r
   ·rw[ag (n1 c xs r)];exact r
end
noncomputable def zT:Key->D
 |.inl n=>.int n
 |.inr x=>.str x
theorem GX {K} (k:Key):Is K M (zT k) (kV k):=by cases k<;>rfl
noncomputable def Itk (a:Addr) (o:Obj) (kvs:List (Key×V)):It:=
 ⟨λi H=>H a=some (.frz o (.dK kvs))/\i<kvs.length,λi H x H'=>H'=H/\∃p,kvs[i]?=some p/\x=kV p.1,λi H=>H a=some (.frz o (.dK kvs))/\kvs.length<=i⟩
theorem EI (ok:HOk P w H h) (e:H a=some (.frz o (.dK kvs))) (hd:o.data=.dict es ep):∃vs,KV kvs vs/\h.DictAt (aP P w) a vs ep:=by
 obtain⟨e1,_,_,vs,rel,o',es',ep',e2,x1,x2,x3⟩:=ok a _ e;rw[e1]at e2;cases e2;rw[hd]at x2;cases x2;exact⟨vs,rel,o,es,e1,x1,hd,x3⟩
theorem KV.at (r:KV kvs vs):∀ {i:Nat} {p:Key×V},kvs[i]?=some p->∃u,vs[i]?=some (p.1,u):=by
 induction r with
 |nil=>intro i p h;cases i<;>cases h
 |@cons a b _ _ h _ ih=>
  intro i p q;cases i with
  |zero=>cases q;exact⟨b.2,by show some b=some _;rw[h.1]⟩
  |succ i=>exact ih q
theorem C7 (h:(aP P w).is k v=true):RelV (kV k) v:=by
 rcases keyIs_shape (h)with⟨i,t,rfl,rfl⟩|⟨x,t,rfl,rfl⟩
 ·exact⟨t,rfl⟩
 ·exact⟨t,rfl⟩
theorem C8 {P:Program} {w:World} {K:Frag} {tg:Expr} (a it:Addr) {o:Obj} {kvs:List (Key×V)} {es:Array DictEntry} {ep:Nat} (hd:o.data=.dict es ep):Turn P w K tg (Itk a o kvs) [it] it (λi h=>h.IsKeyIter it a i kvs.length ep) where
 mem:=by simp
 obj:=λi h st b hb=>by
  have e:b=it:=by simpa using hb
  subst e;obtain⟨o,e,c,d⟩:=st;exact⟨o,e,λv z=>by rw[d]at z;cases z⟩
 keep:=λi h h' st k=>by
  obtain⟨o,e,r⟩:=st;exact⟨o,k it (by simp) o e,r⟩
 item:=by
  intro X hP hw hK hc i pins s Y H E I hf st hg;subst hP hw hK;obtain⟨hg,hi⟩:=hg;obtain⟨vs,rel,da⟩:=EI I.hok hg hd;obtain⟨u,hu⟩:=rel.at (getElem?_eq_getElem hi);obtain⟨f0,f1,f2,f3,f4,f5⟩:=hf it (by simp);rw[rel.length]at st;refine wpAny_pyNext_dict_item st da hu λkey h' hk st' sb=>?_;have I1:Inv X pins Y H {s with heap:=h'}:=I.turned (λb o hb e=>(sb.2 b hb).trans e) f0 f1 f3 f4 f5;obtain⟨o2,e,c,d⟩:=id st';exact⟨key,rfl,qF e c d (!4) ⟨_,H,I1,C7 hk,⟨rfl,_,getElem?_eq_getElem hi,rfl⟩,by rw[rel.length];exact st',λb hb=>(hf b hb).1⟩⟩
 done:=by
  intro X hP hw hK hc i pins s Y H E I hf st hg;subst hP hw hK;obtain⟨hg,hi⟩:=hg;obtain⟨vs,rel,da⟩:=EI I.hok hg hd;obtain⟨f0,f1,f2,f3,f4,f5⟩:=hf it (by simp);have hl:=rel.length;rw[hl]at st;exact wpAny_pyNext_dict_end (I.ok.hd hc) st da (List.getElem?_eq_none (!1)) λh' eb=>⟨rfl,I.turned (λb o hb e=>eb b o hb e) f0 f1 f3 f4 f5⟩
 self:=λA i s Q E st h=>wpAny_pyIter_keyiter st h
theorem C9 {K} (h:Hm a=some (.frz o (.dK kvs))):jS K Hm (Itk a o kvs) ((kvs.map (·.1)).map zT):=λi H O s hd=>by
 have h':H a=some (.frz o _):=(aJ (s _ _ h)).2;refine⟨λd hi=>?_,λhi=>⟨h',by rw[length_map,length_map]at hi;exact hi⟩⟩;rw[List.map_map,getElem?_map]at hi;cases e:kvs[i]? with
 |none=>rw[e]at hi;cases hi
 |some p=>
  rw[e]at hi;cases hi;refine⟨⟨h',(N4.mp e).1⟩,λy H3 ⟨z,q,hq,hy⟩=>?_⟩;subst z hy;rw[e]at hq;cases hq;exact⟨Same.refl _,GX _⟩
def iDk (i:Nat):TI:=λY H R=>∃a kvs,Y[i]?=some (some (.ref a))/\Rd H a (.dK kvs)/\∀o H1,(H a=some (.dK kvs)/\H1=upd H a (.frz o (.dK kvs)))\/(H a=some (.frz o (.dK kvs))/\H1=H)->R (Itk a o kvs) H1
section
variable {X:Cx} {tg:Expr} {i:Nat} {x:Str} {px pos:Pos}
theorem Kb (hN:X.N[i]?=some x) (hv:Vis X.env.scope x) (hd:(!7)=false) (hcd:(!10)=false):PI X tg (!17) (iDk i):=by
 intro pins s Y H R I ⟨a,kvs,hY,hR,q⟩;refine thn (cc hN hv hd hcd pins s Y H (λv H1=>v=.ref a/\H1=H) I ⟨_,hY,rfl,rfl⟩) λv s1 ⟨x1,H1,I1,r1,e1,e2⟩=>?_;subst e1 e2;cases r1;obtain⟨z,hsm,vs,rel,o,es,ep,e,x1,x2,x3⟩:=uU I1.hok hR;have key:∃H2,Inv X pins Y H2 s1/\H2 a=some (.frz o (.dK kvs))/\R (Itk a o kvs) H2:=by
  rcases hR with hR|⟨o',hR⟩
  ·exact⟨_,I1.reset hR (.inl rfl) (I1.noSt hR) (w:=.frz o (.dK kvs)) ⟨e,z,hsm,vs,rel,o,es,ep,e,x1,x2,x3⟩,ai,q o _ (.inl ⟨hR,rfl⟩)⟩
  ·have:=(I1.hok a _ hR).1;rw[e]at this;cases this;exact⟨_,I1,hR,q o _ (.inr ⟨hR,rfl⟩)⟩
 obtain⟨H2,I2,h2,q2⟩:=key;refine wpAny_pyIter_dict hsm ⟨o,es,e,x1,x2,x3⟩ ?_;refine⟨s1.heap.objs.size,[s1.heap.objs.size],_,_,H2,rfl,I2.kept λb o e=>NX _ e,C8 a _ x2,⟨_,N2 _ rfl,rfl,by rw[rel.length];rfl⟩,λb hb=>?_,q2⟩;have e:b=s1.heap.objs.size:=by simpa using hb
 subst e;exact I2.fpOk (Om _) (I2.hok.fresh (Om _))
end
section
variable {K:Frag} {B:Bs} {O:NR} {Y:St} {H:Hp} {U:Ev}
theorem EnvOk.still (E:EnvOk K B O Y H U) (o:Obj) (e:H a=some (.dK kvs)) (oa:O a=false) (ba:B.H a=none):EnvOk K B O Y (upd H a (.frz o (.dK kvs))) U:=by
 obtain⟨F,h1,h2,h3,h4⟩:=E.fp;have st:Stl (msk O H) (msk O (upd H a (.frz o (.dK kvs)))):=C6 (C5 o e);refine⟨λb u q=>?_,E.bdom,E.sub,λb hb=>?_,E.len,F,λi s q=>?_,h2,h3,h4⟩
 ·rw[ag (au q ba)];exact E.same b u q
 ·rw[ag (λz=>by subst z;rw[oa]at hb;cases hb)];exact E.lis b hb
 ·obtain⟨v,e1,o1⟩:=h1 i s q;have ne:∀b∈F i,b≠a:=λb hb z=>by subst z;rw[(h4 i b hb).1]at oa;cases oa
  refine⟨v,e1,?_⟩;obtain⟨c,d⟩:=s;cases c with
  |sh=>exact⟨o1.1,Is.stl st _ _ o1.2⟩
  |top=>
   obtain⟨p,ds,xs,z1,z2,z3,z4,l⟩:=o1;exact⟨p,ds,xs,z1,z2,z3,by rw[ag (ne p (by rw[z3];exact N5))];exact z4,IsL.stl st _ _ l⟩
  |deep=>
   refine Deep.frame (λb u q nh=>?_) _ _ _ (λb hb u q=>by rw[ag (ne b hb)];exact q) o1;obtain⟨ob,q⟩:=aJ q;rw[aE ob];by_cases z:b=a
   ·subst z;rw[e]at q;cases q;exact absurd (.inr (.inr ⟨_,rfl⟩)) nh
   ·rw[ag z];exact q
end
def zU (i:Nat) (g:D->Ev->Option Ev) (F:Cl):Cl:=λU=>(iB U i).bind λw=>ip (pj g F) (w.1.map zT) (frzS [i] U)
theorem GY {U:Ev} {i:Nat} (h:U[i]?=some (some (c,d))):(frzS [i] U)[i]?=some (some (.sh,d)):=by
 show(frz1 i U)[i]?=_;unfold frz1;rw[h];have:=(N4.mp h).1;exact List.getElem?_set_self this
section
variable {X:Cx} {tg:Expr} {i:Nat} {x:Str} {px pos:Pos}
theorem Da (hp:PassesOwn (!3) X.A X.env X.xe) (hc:X.calm=true) (hN:X.N[i]?=some x) (hv:Vis X.env.scope x) (hd:(!7)=false) (hcd:(!10)=false) (hg:PGE X tg g) (hb:PRs X body F) (hs:∀y,foldedSetIterable (!17) X.env y=pure y):PR X (.For tg (!17) body [] pos) (zU i g F):=λB O U=>
 (sL hp hc (Kb hN hv hd hcd) (PG.ex λz:(NR)×Ev×D=>hg B z.1 z.2.1 z.2.2) (PSs.ex λz:(NR)×Ev=>hb B z.1 z.2) hs).imp λEn Y H ⟨E,out,q,k⟩=>by
 obtain⟨⟨ks,ds⟩,q1,q⟩:=Op q;have h0:=jf q1;obtain⟨a,kvs,e1,e2,e3,oa,ba⟩:=E.dctAt h0;obtain⟨O',E',le⟩:=E.frzS [i];obtain⟨F',h1,_⟩:=E'.fp;obtain⟨v,z1,z2,a',kvs',z3,z4,_⟩:=h1 i _ (GY h0);rw[e1]at z1;cases z1;cases z3;have oa':O' a=false:=by
  rcases z4 with z|⟨_,z⟩
  ·exact(aJ z).1
  ·exact(aJ z).1
 refine⟨a,kvs,e1,.inl e2,λo H1 hH=>?_⟩;rcases hH with⟨_,rfl⟩|⟨z,_⟩
 ·have E1:=E'.still o e2 oa' ba;have le1:Same (msk O H) (msk O' (upd H a (.frz o (.dK kvs)))):=λb u q=>by
   have nb:b≠a:=λz=>by subst z;rw[(aJ q).1]at oa;cases oa
   obtain⟨ob,q⟩:=aJ (le b u q);rw[aE ob,ag nb];exact q
  subst e3;obtain⟨_,ds',e',kk⟩:=pv E1 E1.viewS (show((some ((kvs.map (·.1)).map zT)).bind λds=>ip (pj g F) ds (frzS [i] U))=some out from q) (k.mono le1);cases e';exact kk _ _ (Same.refl _) (C9 (by rw[aE oa',ai]))
 ·rw[e2]at z;cases z
end
section
variable {K:Frag} {B:Bs} {O:NR} {Y:St} {H:Hp} {U:Ev} {i:Nat}
theorem EnvOk.move (E:EnvOk K B O Y H U) {s:Sl} {v:V} (h:U[i]?=some (some s)) (hv:Y[i]?=some (some v)):EnvOk K B O (Y++[some v]) H (U.set i none++[some s]) where
 same:=E.same
 bdom:=E.bdom
 sub:=E.sub
 lis:=E.lis
 len:=by rw[length_append,length_append,List.length_set,E.len];rfl
 fp:=by
  obtain⟨F,h1,h2,h3,h4⟩:=E.fp;have key:∀k b,b∈(if k=U.length then F i else if k=i then[]else F k)->(k=U.length/\b∈F i)\/(k≠U.length/\k≠i/\b∈F k):=λk b hb=>by
   by_cases e:k=U.length
   ·rw[if_pos e]at hb;exact .inl ⟨e,hb⟩
   ·rw[if_neg e]at hb;by_cases e2:k=i
    ·rw[if_pos e2]at hb;cases hb
    ·rw[if_neg e2]at hb;exact .inr ⟨e,e2,hb⟩
  refine⟨λk=>if k=U.length then F i else if k=i then[]else F k,λk x q=>?_,λk=>?_,λk l b hk hl=>?_,λk b hk=>?_⟩
  ·by_cases e:k=U.length
   ·subst e;have hq:(U.set i none++[some s])[U.length]?=some (some s):=by
     have:=getElem?_last (U.set i none) (some s);rwa [List.length_set]at this
    rw[hq]at q;cases q;obtain⟨v',e1,o1⟩:=h1 i s h;rw[hv]at e1;cases e1;refine⟨v,by rw[<-E.len];exact getElem?_last _ _,?_⟩;simp only[if_true];exact o1
   ·have q':=ck (by rw[List.length_set];exact e) q;rcases get_set_some q' with⟨_,z⟩|⟨ne,q2⟩
    ·cases z
    ·obtain⟨w,e1,o1⟩:=h1 k x q2;have hkl:=(N4.mp e1).1;refine⟨w,by rw[getElem?_append_left hkl];exact e1,?_⟩;simp only[if_neg e,if_neg ne];exact o1
  ·dsimp only;split
   ·exact h2 _
   ·split
    ·exact List.nodup_nil
    ·exact h2 _
  ·rcases key k b hk with⟨a1,a2⟩|⟨a1,a2,a3⟩<;>rcases key l b hl with⟨b1,b2⟩|⟨b1,b2,b3⟩
   ·omega
   ·exact absurd (h3 _ _ b a2 b3) (!1)
   ·exact absurd (h3 _ _ b a3 b2) (!1)
   ·exact h3 _ _ b a3 b3
  ·rcases key k b hk with⟨a1,a2⟩|⟨a1,a2,a3⟩
   ·exact h4 _ b a2
   ·exact h4 _ b a3
end
def mvE (j:Nat):NE:=λU=>(iB U j).bind λw=>some ((.deep,.dct w.1 w.2),U.set j none)
section
variable {X:Cx} {i:Nat} {x:Str} {px pos:Pos}
theorem Kc (hN:X.N[i]?=some x) (hv:Vis X.env.scope x) (hd:(!7)=false) (hcd:(!10)=false):PEv X (!17) (mvE i):=λB O U=>PE.pu ((cc hN hv hd hcd).imp λY H Q ⟨E,s,U',q,k⟩=>by
 obtain⟨⟨ks,ds⟩,q1,q⟩:=Op q;cases q;have h0:=jf q1;obtain⟨a,kvs,e1,_⟩:=E.dctAt h0;exact⟨.ref a,e1,k _ H O (Same.refl _) (E.move h0 e1)⟩) rfl
theorem Db:PFr X (.Dict [some (.Constant (.int n) j1 p1)] [.Constant (.bool b) j2 p2] pos) (λ_=>some (.dct [.inl n] [.bl b])):=λU=>PE.pu ((B5 (yA pe_int (pe_bl) B4) rfl rfl (by simp) (show 1<=15 by decide)).imp λY H Q ⟨E,d,q,k⟩=>by
 cases q;intro p hp;refine⟨ai,[(.inl n,.bl b)],rfl,(show 1<=15 by decide),?_⟩;refine k _ _ [p] (λc o h=>?_) ⟨p,[(.inl n,.bl b)],[],rfl,ai,rfl,rfl,.bl b,[],[],[],rfl,rfl,⟨rfl,rfl⟩,rfl,rfl⟩ (List.nodup_cons.mpr ⟨(λz=>nomatch z),List.nodup_nil⟩) λc hc=>by rw[mem_singleton.mp hc];exact hp
 have:c≠p:=au h hp;rw[ag this,ag this];exact h) rfl
end
section
variable {X:Cx} {a b:Expr} {pos:Pos}
noncomputable def aG:D->D->NU
 |.int i,.int j=>some (.int (i+j))
 |_,_=>none
theorem GZ:aG=FM:=funext λx=>funext λy=>by cases x<;>cases y<;>rfl
theorem Ha {a b:Expr} {pos:Pos} {fa fb} (ha:PP X a fa) (hb:PP X b fb):PP X (.BinOp a .Add b pos) (ab aG fa fb):=GZ▸B9 ha hb
end
section
variable {X:Cx} {a:Expr} {p pc pos:Pos}
end
structure Gb where
 fn:Str->Option (Nat×(ad))
 cn:Str->NU
 no:Str->Bool
 fl:Str->Str->Bool
 mt:Str->MT
 ini:Str->Option (Nat×(NS->Option (List (Str×D))))
structure Sn where
 N:NP
 nm:List (Str×NameKind)
 k:Nat
 G:Gb
structure GbOk (P:Program) (w:World) (K:Frag) (mg:Str->NM) (base:Heap) (G:Gb):Prop where
 fn:∀x k f,G.fn x=some (k,f)->Df P w K mg base x k f
 cn:∀x d,G.cn x=some d->Cn K mg x d
 no:∀x,G.no x=true->mg x=none
 fl:∀C m Ca,G.fl C m=true->nsIn K mainGlobals C=some (!24)->Cls K Ca/\NoAttr K Ca m
 mt:∀m C k f,G.mt m C=some (k,f)->Mf P w K mg base C m k f
 ini:∀C k g,G.ini C=some (k,g)->Mkf P w K mg base C k g
structure SnOk (X:Cx) (S:Sn):Prop where
 g:GbOk X.prog X.w X.K X.mg X.base S.G
 N:X.N=S.N
 nd:S.N.Nodup
 calm:X.calm=true
 room:Room S.k X.A
 loc:∀x,S.nm.lookup x=some .local->X.env.scope.names.lookup x=some .local
 cel:∀x,S.nm.lookup x=some .cell->X.env.scope.names.lookup x=some .cell
 fre:∀x,S.nm.lookup x=some .free->X.env.scope.names.lookup x=some .cell\/X.env.scope.names.lookup x=some .free
 glo:∀x,S.nm.lookup x=some .globalImplicit->X.env.kindOf x=some .globalImplicit
def bB (S:Sn) (x:Str):Option Nat:=if dM x&&vc (S.nm.lookup x)then pz S.N x else none
def glS (S:Sn) (x:Str):Bool:=dM x&&decide (S.nm.lookup x=some .globalImplicit)
def nmF (S:Sn) (x:Str):wp:=match bB S x with
 |some i=>λU=>cf U i
 |none=>if glS S x then(match S.G.cn x with
  |some d=>λ_=>some d
  |none=>if S.G.no x then(match pC x with|some n=>λ_=>some (.ty n)|none=>λ_=>none)elseλ_=>none)elseλ_=>none
section
variable {X:Cx} {S:Sn} {pos:Pos}
theorem pp_no:PP X e (λ_=>none):=λO U=>(pf O U).1
theorem SnOk.vis (o:SnOk X S) (h:vc (S.nm.lookup x)=true):Vis X.env.scope x:=by
 cases e:S.nm.lookup x with
 |none=>rw[e]at h;cases h
 |some k=>
  rw[e]at h;cases k with
  |«local»=>exact .inl (o.loc x e)
  |cell=>exact .inr (.inl (o.cel x e))
  |free=>
   rcases o.fre x e with q|q
   ·exact .inr (.inl q)
   ·exact .inr (.inr q)
  |globalExplicit=>cases h
  |globalImplicit=>cases h
theorem aV (o:SnOk X S) (h:bB S x=some i):dM x=true/\Vis X.env.scope x/\X.N[i]?=some x/\vc (S.nm.lookup x)=true:=by
 unfold bB at h;split at h
 ·rename_i c;rw[and_eq_true]at c;exact⟨c.1,o.vis c.2,by rw[o.N];exact d7 h,c.2⟩
 ·cases h
theorem aM (o:SnOk X S) (h:glS S x=true):dM x=true/\Gl X x:=by
 unfold glS at h;rw[and_eq_true]at h;exact⟨h.1,o.glo x (N7 h.2)⟩
theorem t6 (o:SnOk X S) (x:Str):PP X (.Name x pos) (nmF S x):=by
 unfold nmF;split
 ·rename_i i e;obtain⟨h1,h2,h3,_⟩:=aV o e;obtain⟨a,b,c⟩:=c7 h1;exact FL i h3 h2 a b
 ·split
  ·rename_i e;obtain⟨h1,h2⟩:=aM o e;obtain⟨a,b,c⟩:=c7 h1;split
   ·rename_i d hd;exact yK (o.g.cn x d hd) h2 a
   ·split
    ·rename_i hn;split
     ·rename_i n hb;exact Jo h2 (o.g.no x hn) (tI hb) c a
     ·exact pp_no
    ·exact pp_no
  ·exact pp_no
end
noncomputable def aB:Expr->Bool
 |.Starred _ _=>false
 |_=>true
theorem star1 (h:aB e=true):starEach (e::es) env=(false,eval e env)::starEach es env:=by
 cases e<;>first|rfl|cases h
theorem zV:∀ {es:NT},es.all aB=true->(backTo pos (starEach es env)).any (·.1)=false
 |[],_=>rfl
 |e::es,h=>by
  rw[List.all_cons,and_eq_true]at h;rw[star1 h.1];show(false||(backTo pos (starEach es env)).any (·.1))=false;rw[zV h.2];rfl
def Me:Operator->Option (D->D->NU)
 |.Add=>some aG
 |.Sub=>some bE
 |.Mult=>some aQ
 |.FloorDiv=>some eZ
 |.Mod=>some bd
 |_=>none
def Kd (op:Operator) (fa fb:wp):wp:=match Me op with
 |some g=>ab g fa fb
 |none=>λ_=>none
noncomputable def iE:Expr->Bool
 |.Set _ _ _=>false
 |_=>true
theorem noSet_mark (h:iE b=true):behindInMarks op b=false:=by
 cases b<;>first|rfl|cases h
theorem dh (h:iE iter=true):∀x,foldedSetIterable iter env x=pure x:=by
 intro x;cases iter<;>first|rfl|cases h
def cmpG:CmpOp->Option (D->D->NU)
 |.Lt=>some ltD
 |.LtE=>some leD
 |.Gt=>some gtD
 |.GtE=>some geD
 |.Eq=>some (!29)
 |.NotEq=>some (aK true)
 |.In=>some inD
 |.Is=>some (oY false)
 |.IsNot=>some (oY true)
 |_=>none
def xc (op:CmpOp) (b:Expr) (fa fb:wp):wp:=match cmpG op with
 |some g=>if iE b then ab g fa fb elseλ_=>none
 |none=>λ_=>none
section
variable {X:Cx} {S:Sn} {a b c:Expr} {pos:Pos}
theorem Ke (op:Operator) (ha:PP X a fa) (hb:PP X b fb):PP X (.BinOp a op b pos) (Kd op fa fb):=by
 cases op<;>first
  |exact Ha ha hb
  |exact FN ha hb
  |exact FO ha hb
  |exact FP ha hb
  |exact FQ ha hb
  |exact pp_no
theorem Kf (o:SnOk X S) (op:CmpOp) (ha:PP X a fa) (hb:PP X b fb):PP X (.Compare a [op] [b] pos) (xc op b fa fb):=by
 unfold xc;cases op<;>dsimp only[cmpG]<;>(try split)<;>first
  |exact pp_no
  |exact Jz (N9 (Nat.le_add_right _ _) (room60 o.room)) ha hb
  |exact JA ha hb
  |exact JB (N9 (Nat.le_add_right _ _) (room60 o.room)) ha hb
  |exact JC ha hb
  |exact JK o.room ha hb
  |exact JL o.room ha hb
  |(rename_i h;exact pp_cmp (op_inA (N9 (Nat.add_le_add_left (!4) _) (room60 o.room))) r_in ha hb (noSet_mark h))
  |(rename_i h;exact pp_cmp op_isN r_isN ha hb (noSet_mark h))
  |(rename_i h;exact pp_cmp op_notN r_notN ha hb (noSet_mark h))
theorem Hb (o:SnOk X S) (op:CmpOp) (ha:PP X a fa) (hb:PP X b fb):PQ X (.Compare a [op] [b] pos) (av (xc op b fa fb)):=by
 have no:PQ X (.Compare a [op] [b] pos) (av λ_=>none):=λO U pins s Y H Q I ⟨_,_,q,_⟩=>by cases q
 unfold xc;cases op<;>dsimp only[cmpG]<;>(try split)<;>first
  |exact no
  |exact JD (N9 (Nat.le_add_right _ _) (room60 o.room)) ha hb
  |exact JE ha hb
  |exact JF (N9 (Nat.le_add_right _ _) (room60 o.room)) ha hb
  |exact JG ha hb
  |exact JM o.room ha hb
  |exact JN o.room ha hb
  |(rename_i h;exact pq_cmp (op_inA (N9 (Nat.add_le_add_left (show 1<=60 by decide) _) (room60 o.room))) r_in ha hb (noSet_mark h))
  |(rename_i h;exact pq_cmp op_isN r_isN ha hb (noSet_mark h))
  |(rename_i h;exact pq_cmp op_notN r_notN ha hb (noSet_mark h))
end
def zW (x:Str):Option (NS->NU):=if x=("len":Str)then some bn else if x=("isinstance":Str)then some ff else if x=("all":Str)then some lG else if x=("tuple":Str)then some bK else if x=("max":Str)then some Cq else if x=("min":Str)then some yS else if x=("any":Str)then some zQ else none
def zX (S:Sn) (x:Str):NS->NU:=if glS S x then(match S.G.fn x with
 |some (k,g)=>if k<=S.k thenλds=>fD (g ds)elseλ_=>none
 |none=>match S.G.ini x with
  |some (k,g)=>if k+1<=S.k thenλds=>CG x (g ds)elseλ_=>none
  |none=>if S.G.no x then(match zW x with|some g=>g|none=>λ_=>none)elseλ_=>none)elseλ_=>none
def zY (S:Sn) (x:Str):NS->NU:=if glS S x then(match S.G.fn x with
 |some (k,g)=>if k<=S.k thenλds=>qT (g ds)elseλ_=>none
 |none=>λ_=>none)elseλ_=>none
section
variable {X:Cx} {S:Sn} {e:Expr} {es:NT} {p pos:Pos}
theorem vv {α β:Type} (o:Option α):(o.bind λ_=>(none:Option β))=none:=by cases o<;>rfl
theorem dj {fa:qm}:PP X e (λU=>(fa U).bind λ_=>none):=λO U pins s Y H Q I ⟨_,_,q,_⟩=>by dsimp only at q;rw[vv]at q;cases q
theorem k_call (o:SnOk X S) (x:Str) (ha:PX X (e::es) fa) (hst:(e::es).all aB=true):PP X (.Call (.Name x p) (e::es) [] pos) (λU=>(fa U).bind (zX S x)):=by
 rw[List.all_cons,and_eq_true]at hst;have h1:starEach (e::es) X.env=(false,eval e X.env)::starEach es X.env:=star1 hst.1;have h2:∀pos,(!14).any (·.1)=false:=λpos=>zV hst.2;unfold zX;split
 ·rename_i hg;obtain⟨ok,gl⟩:=aM o hg;obtain⟨n1,n2,n3⟩:=c7 ok;split
  ·rename_i k g hf;split
   ·rename_i hk;exact CC (o.g.fn x k g hf) (o.room.mono hk) gl ha n1 h1 (h2 _)
   ·exact dj
  ·split
   ·rename_i k g hf;split
    ·rename_i hk;exact CH (o.g.ini x k g hf) (o.room.mono hk) gl ha n1 h1 (h2 _)
    ·exact dj
   ·split
    ·rename_i hn;have hm:=o.g.no x hn;split
     ·rename_i g hb;unfold zW at hb;split at hb
      ·rename_i q;cases hb;subst q;exact pp_callB call_len_seq rn_len gl hm PySem.boot_len ha n3 n1 h1 (h2 _)
      ·split at hb
       ·rename_i q;cases hb;subst q;exact pp_callB call_isi rn_isi gl hm (!13) ha n3 n1 h1 (h2 _)
       ·split at hb
        ·rename_i q;cases hb;subst q;exact pp_callB (call_all o.calm) rn_all gl hm (!13) ha n3 n1 h1 (h2 _)
        ·split at hb
         ·rename_i q;cases hb;subst q;exact pp_callTy call_tuple_of rn_tuple gl hm (!13) ha n3 n1 h1 (h2 _)
         ·split at hb
          ·rename_i q;cases hb;subst q;exact pp_callB (call_max2 o.calm) rn_max gl hm b_max ha n3 n1 h1 (h2 _)
          ·split at hb
           ·rename_i q;cases hb;subst q;exact pp_callB (call_min2 o.calm) rn_min gl hm b_min ha n3 n1 h1 (h2 _)
           ·split at hb
            ·rename_i q;cases hb;subst q;exact pp_callB (call_any o.calm) rn_any gl hm (!13) ha n3 n1 h1 (h2 _)
            ·cases hb
     ·exact dj
    ·exact dj
 ·exact dj
theorem k_callR (o:SnOk X S) (x:Str) (ha:PX X (e::es) fa) (hst:(e::es).all aB=true):PFr X (.Call (.Name x p) (e::es) [] pos) (λU=>(fa U).bind (zY S x)):=by
 rw[List.all_cons,and_eq_true]at hst;have h1:starEach (e::es) X.env=(false,eval e X.env)::starEach es X.env:=star1 hst.1;have h2:∀pos,(!14).any (·.1)=false:=λpos=>zV hst.2;have no:PFr X (.Call (.Name x p) (e::es) [] pos) (λU=>(fa U).bind λ_=>none):=λU=>by dsimp only;rw[vv];exact im U
 unfold zY;split
 ·rename_i hg;obtain⟨ok,gl⟩:=aM o hg;obtain⟨n1,n2,n3⟩:=c7 ok;split
  ·rename_i k g hf;split
   ·rename_i hk;exact CD (o.g.fn x k g hf) (o.room.mono hk) gl ha n1 h1 (h2 _)
   ·exact no
  ·exact no
 ·exact no
end
noncomputable def t9 (N:NP) (nm:List (Str×NameKind)):NO:=(List.range N.length).filter λi=>match N[i]? with|some x=>decide (nm.lookup x=some .local)|none=>false
theorem rm (h:N[i]?=some x) (h2:nm.lookup x=some .local):i∈t9 N nm:=by grind [t9]
def zZ (S:Sn) (x:Str):Option Nat:=if S.nm.lookup x=some .local then pz S.N x else none
mutual
def tgV (S:Sn):Nat->Expr->D->Vv->Option Vv
 |0=>λ_ _ _=>none
 |n+1=>λe=>match e with
  |.Name x _=>(match zZ S x with|some i=>gNm i|none=>λ_ _=>none)
  |.Tuple ts _ _=>if ts.all aB then gTp ts.length (Dc S n ts)elseλ_ _=>none
  |_=>λ_ _=>none
def Dc (S:Sn):Nat->NT->NS->Vv->Option Vv
 |0=>λ_ _ _=>none
 |n+1=>λes=>match es with
  |[]=>aX
  |t::ts=>if aB t then ao (tgV S n t) (Dc S n ts)elseλ_ _=>none
end
def pO (S:Sn) (x:Str):Option Nat:=if S.nm.lookup x=some .local\/S.nm.lookup x=some .cell then pz S.N x else none
mutual
def tgE (S:Sn):Nat->Expr->D->Ev->Option Ev
 |0=>λ_ _ _=>none
 |n+1=>λe=>match e with
  |.Name x _=>(match pO S x with|some i=>eNm i|none=>λ_ _=>none)
  |.Tuple ts _ _=>if ts.all aB then eTp ts.length (Dd S n ts)elseλ_ _=>none
  |_=>λ_ _=>none
def Dd (S:Sn):Nat->NT->NS->Ev->Option Ev
 |0=>λ_ _ _=>none
 |n+1=>λes=>match es with
  |[]=>pi
  |t::ts=>if aB t then dF (tgE S n t) (Dd S n ts)elseλ_ _=>none
end
section
variable {X:Cx} {S:Sn}
theorem asg1 (h:aB t=true):(assignEach (t::ts) env).map (·.2)=assign t env::(assignEach ts env).map (·.2):=by
 cases t<;>first|rfl|cases h
theorem asgLen:∀ {ts:NT},(assignEach ts env).length=ts.length
 |[]=>rfl
 |t::ts=>by cases t<;>exact congrArg (·+1) (asgLen (ts:=ts))
theorem z0:∀ {ts:NT},ts.all aB=true->(assignEach ts env).findIdx? (·.1)=none
 |[],_=>rfl
 |t::ts,h=>by
  rw[List.all_cons,and_eq_true]at h;have ih:=z0 (env:=env) h.2;have:assignEach (t::ts) env=(false,assign t env)::assignEach ts env:=by
   have h1:=h.1;cases t<;>first|rfl|cases h1
  rw[this,List.findIdx?_cons];simp[ih]
theorem vx:PGD X ks e (λ_ _=>none):=λO U d pins s Y H v u Q I r ⟨_,_,_,q,_⟩=>by cases q
theorem z9:wK X ks e (λ_ _=>none):=λO U d pins s Y H v u Q I r ⟨_,_,_,q,_⟩=>by cases q
theorem vy:PGE X e (λ_ _=>none):=λB O U d pins s Y H v u Q I r ⟨_,_,_,q,_⟩=>by cases q
theorem Aa:wO X e (λ_ _=>none):=λB O U d pins s Y H v u Q I r ⟨_,_,_,q,_⟩=>by cases q
theorem ua (h:zZ S x=some i):S.nm.lookup x=some .local/\S.N[i]?=some x:=by
 unfold zZ at h;split at h
 ·exact⟨by assumption,d7 h⟩
 ·cases h
theorem rp (h:pO S x=some i):(S.nm.lookup x=some .local\/S.nm.lookup x=some .cell)/\S.N[i]?=some x:=by
 unfold pO at h;split at h
 ·exact⟨by assumption,d7 h⟩
 ·cases h
theorem EJ (o:SnOk X S):∀n,(∀e,PGD X (t9 S.N S.nm) e (tgV S n e))/\∀es,wK X (t9 S.N S.nm) es (Dc S n es):=by
 intro n;induction n with
 |zero=>exact⟨λe=>vx,λes=>z9⟩
 |succ n ih=>
  refine⟨λe=>?_,λes=>?_⟩
  ·unfold tgV;split
   ·split
    ·rename_i i hi;obtain⟨h1,h2⟩:=ua hi;exact Cj (by rw[o.N];exact o.nd) (by rw[o.N];exact h2) (.inl (o.loc _ h1)) (rm h2 h1) (.inr (o.loc _ h1))
    ·exact vx
   ·split
    ·rename_i h;exact F4 o.calm (ih.2 _) asgLen (z0 h)
    ·exact vx
   ·exact vx
  ·unfold Dc;split
   ·exact Ck
   ·split
    ·rename_i h;exact gsd_cons (ih.1 _) (ih.2 _) (asg1 h)
    ·exact z9
theorem Ab (o:SnOk X S) (hf:∀x,X.fn x=true):∀n,(∀e,PGE X e (tgE S n e))/\∀es,wO X es (Dd S n es):=by
 intro n;induction n with
 |zero=>exact⟨λe=>vy,λes=>Aa⟩
 |succ n ih=>
  refine⟨λe=>?_,λes=>?_⟩
  ·unfold tgE;split
   ·split
    ·rename_i i hi;obtain⟨h1,h2⟩:=rp hi;have hl:Loc X.env.scope _:=h1.elim (λh=>.inl (o.loc _ h)) (λh=>.inr (o.cel _ h));exact Cz (by rw[o.N];exact o.nd) (by rw[o.N];exact h2) hl (.inl (hf _))
    ·exact vy
   ·split
    ·rename_i h;exact Gm o.calm (ih.2 _) asgLen (z0 h)
    ·exact vy
   ·exact vy
  ·unfold Dd;split
   ·exact CA
   ·split
    ·rename_i h;exact gse_cons (ih.1 _) (ih.2 _) (asg1 h)
    ·exact Aa
noncomputable def iF (S:Sn) (sc:Scope):Bool:=decide (sc.kind=.function)&&sc.names.all λy=>!decide (y.2=.cell)&&(!decide (y.2=.local)||decide (sc.names.lookup y.1=some .local))&&
 (!decide (y.2=.free)||decide (S.nm.lookup y.1=some .cell)||decide (S.nm.lookup y.1=some .free))
theorem uc (o:SnOk X S) (h:iF S sc=true):CSc X sc (t9 S.N sc.names):=by
 unfold iF at h;rw[and_eq_true]at h;have hk:=N7 h.1;have ha:=List.all_eq_true.mp h.2;refine⟨hk,λy hy z=>?_,λy hy z=>?_,λy hy z=>?_,λi x hx hl=>rm (by rw[<-o.N];exact hx) hl⟩
 ·have:=ha y hy;simp[z]at this
 ·have:=ha y hy;simp[z]at this;exact this
 ·have:=ha y hy;simp[z]at this;rcases this with q|q
  ·exact .inl (o.cel _ q)
  ·exact o.fre _ q
theorem j0 {f:Str → NameKind → NameKind}:∀ {l:List (Str × NameKind)},(l.map fun y=>(y.1,f y.1 y.2)).lookup x = (l.lookup x).map (f x)
  | []=>rfl
  | (n,k) :: l=>by
    rw [List.map_cons,List.lookup_cons,List.lookup_cons]
    cases h:x == n with
    | true => have : x = n := by simpa using h
              subst this; rfl
    | false=>exact j0
theorem eL:(relabel sc env).names.lookup x=(sc.names.lookup x).map λk=>if(k==NameKind.free&&env.scope.kind==.function&&env.kindOf x==some .cell)then NameKind.cell else k:=by
 have e:(relabel sc env).names=sc.names.map λy=>(y.1,if(y.2==NameKind.free&&env.scope.kind==ScopeKind.function&&env.kindOf y.1==some NameKind.cell)then NameKind.cell else y.2):=by
  apply List.map_congr_left;rintro⟨n,k⟩ _;dsimp only;split<;>rfl
 rw[e];exact j0 (f:=λn k=>if(k==NameKind.free&&env.scope.kind==ScopeKind.function&&env.kindOf n==some NameKind.cell)then NameKind.cell else k)
theorem rz (o:SnOk X S) {sc:Scope} (h:iF S sc=true) (C:Addr) (s:Shared) (H:Hp) (fp:List Addr):SnOk (cxC X sc C s H fp) {S with nm:=sc.names} where
 g:=o.g
 N:=o.N
 nd:=o.nd
 calm:=o.calm
 room:=o.room
 loc:=λx q=>by
  show(relabel sc X.env).names.lookup x=_;rw[eL,show sc.names.lookup x=some .local from q];rfl
 cel:=λx q=>by
  exfalso;have q':=q;exact(uc o h).nocell _ (PySem.mem_of_lookup q') rfl
 fre:=λx q=>by
  show(relabel sc X.env).names.lookup x=_\/(relabel sc X.env).names.lookup x=_;rw[eL,show sc.names.lookup x=some .free from q];dsimp only[Option.map];split
  ·exact .inl rfl
  ·exact .inr rfl
 glo:=λx q=>by
  show(relabel sc X.env).names.lookup x=_;rw[eL,show sc.names.lookup x=some .globalImplicit from q];rfl
end
noncomputable def Ac:Const->wp
 |.int i=>λ_=>some (.int i)
 |.bool b=>λ_=>some (.bl b)
 |.none=>λ_=>some .non
 |.str x=>λ_=>some (.str x)
 |_=>λ_=>none
noncomputable def noV {α:Type}:Vv->Option α:=λ_=>none
noncomputable def Ad:Expr->Bool
 |.UnaryOp .Not _ _=>false
 |.BoolOp _ _ _=>false
 |.IfExp _ _ _ _=>false
 |.Compare _ _ _ _=>false
 |_=>true
theorem plainT_ok (h:Ad e=true):∀whole,isTrue e env whole=(do let v<-whole;standAt e.pos;holding [v] (truthy v)):=by
 intro whole;cases e with
 |UnaryOp op a pos=>cases op<;>first|rfl|cases h
 |BoolOp _ _ _=>cases h
 |IfExp _ _ _ _=>cases h
 |Compare _ _ _ _=>cases h
 |_=>rfl
noncomputable def Ae:Expr->Bool
 |.Slice _ _ _ _=>false
 |_=>true
theorem noSl_ok (h:Ae b=true):kB b:=by
 intro o i;cases b<;>first|rfl|cases h
noncomputable def Kg:Expr->Bool
 |.BinOp _ _ _ _=>true
 |_=>false
noncomputable def lsR:Expr->Bool
 |.Name _ _=>true
 |.Call _ _ _ _=>true
 |.Subscript _ _ _=>true
 |.List _ _=>true
 |_=>false
def lsB:Expr->Bool
 |.BinOp _ op b _=>(match op with
  |.Add=>lsR b
  |_=>false)
 |_=>false
noncomputable def Kh:Expr->Bool
 |.Tuple _ _ _=>true
 |_=>false
def EK (S:Sn) (m:Str) (apos pos:Pos) (args:NT):Bool:=args.all aB&&decide (args.length<30)&&(apos.endLine==pos.line)
noncomputable def rA:Expr->Option (Str×Expr)
 |.Call f as ks _=>(match f,as,ks with
  |.Name g _,[b],[]=>some (g,b)
  |_,_,_=>none)
 |_=>none
theorem ud (h:rA e=some (g,b)):∃p q,e=.Call (.Name g p) [b] [] q:=by
 unfold rA at h;grind
def Hc (S:Sn) (f:Str):NT->Option Expr
 |[a]=>(match rA a with
  |some (g,b)=>if f=("tuple":Str)/\g=("reversed":Str)/\glS S f=true/\S.G.no f=true/\glS S g=true/\S.G.no g=true/\aB b=true then some b else none
  |none=>none)
 |_=>none
theorem xf (h:Hc S f as=some b):∃p q,as=[.Call (.Name "reversed" p) [b] [] q]/\f=("tuple":Str)/\glS S "tuple"=true/\S.G.no "tuple"=true/\glS S "reversed"=true/\S.G.no "reversed"=true/\aB b=true:=by
 unfold Hc at h;split at h
 ·split at h
  ·rename_i g b' hc;split at h
   ·rename_i k;cases h;obtain⟨p,q,rfl⟩:=ud hc;obtain⟨rfl,rfl,k⟩:=k;exact⟨p,q,rfl,rfl,k⟩
   ·cases h
  ·cases h
 ·cases h
mutual
def rd:Nat->Sn->Expr->wp
 |0=>λ_ _=>noV
 |n+1=>λS e=>match e with
  |.Constant c _ _=>Ac c
  |.Name x _=>nmF S x
  |.BinOp a op b _=>Kd op (rd n S a) (rd n S b)
  |.UnaryOp op a _=>(match op with
   |.Not=>Cc (rd n S a)
   |.USub=>λU=>(rd n S a U).bind yR
   |_=>noV)
  |.BoolOp op vs p=>rl n S op vs p
  |.Compare a ops bs _=>(match ops,bs with
   |[op],[b]=>xc op b (rd n S a) (rd n S b)
   |[.LtE,.LtE],[b,c]=>if iE c then cP leD leD (rd n S a) (rd n S b) (rd n S c)else noV
   |_,_=>noV)
  |.IfExp c a b _=>ifF (rq n S c) (rd n S a) (rd n S b)
  |.Tuple es _ _=>λU=>(bC (rx n S es U)).bind λds=>some (.tup ds)
  |.Attribute o m _=>(match o with
   |.Name x _=>λU=>(nmF S x U).bind (ki S.G.fl m)
   |_=>noV)
  |.Subscript a b _=>(match b with
   |.Slice lo hi none _=>orO (mZ (rd n S a) (ro n S lo) (ro n S hi)) λU=>(kg (rd n S a) (ro n S lo) (ro n S hi) U).map D.lst
   |b=>if Ae b then ab ixD (rd n S a) (rd n S b)else noV)
  |.Call f as ks pos=>(match f,as,ks with
   |.Name f _,a::as,[]=>(match Hc S f (a::as)with
    |some b=>λU=>(rx n S [b] U).bind GG
    |none=>orO (if(a::as).all aB thenλU=>(rx n S (a::as) U).bind (zX S f)else noV) λU=>(rf n S e U).map D.lst)
   |.Attribute o m apos,[],[]=>(match o with
    |.Name x _=>if EK S m apos pos []thenλU=>fD (qU (nmF S x) (λ_=>some []) (S.G.mt m) S.k m U)else noV
    |_=>noV)
   |_,_,_=>noV)
  |_=>λU=>(rf n S e U).map D.lst
def rl:Nat->Sn->BoolOp->NT->Pos->wp
 |0=>λ_ _ _ _=>noV
 |n+1=>λS op vs p=>match op,vs with
  |_,[a]=>rd n S a
  |.And,a::b::r=>ke (rd n S a) (rl n S .And (b::r) p)
  |_,_=>noV
def rq:Nat->Sn->Expr->Fr
 |0=>λ_ _=>noV
 |n+1=>λS e=>match e with
  |.UnaryOp op a _=>(match op with
   |.Not=>ci (rq n S a)
   |_=>noV)
  |.BoolOp op vs p=>rb n S op vs p
  |.Compare a ops bs _=>(match ops,bs with
   |[op],[b]=>av (xc op b (rd n S a) (rd n S b))
   |[.LtE,.LtE],[b,c]=>if iE c then av (cP leD leD (rd n S a) (rd n S b) (rd n S c))else noV
   |_,_=>noV)
  |e=>if Ad e thenλU=>(rd n S e U).bind wG else noV
def rb:Nat->Sn->BoolOp->NT->Pos->Fr
 |0=>λ_ _ _ _=>noV
 |n+1=>λS op vs p=>match op,vs with
  |.And,[a]=>rq n S a
  |.Or,[a]=>rq n S a
  |.And,a::b::r=>mX (rq n S a) (rb n S .And (b::r) p)
  |.Or,a::b::r=>orQ (rq n S a) (rb n S .Or (b::r) p)
  |_,_=>noV
def rx:Nat->Sn->NT->qm
 |0=>λ_ _=>noV
 |n+1=>λS es=>match es with
  |[]=>λ_=>some []
  |a::as=>if aB a then aa (rd n S a) (rx n S as)else noV
def ro:Nat->Sn->Option Expr->Vv->Option (NV)
 |0=>λ_ _=>noV
 |n+1=>λS e=>match e with
  |none=>λ_=>some none
  |some e=>aH (rd n S e)
def rf:Nat->Sn->Expr->qm
 |0=>λ_ _=>noV
 |n+1=>λS e=>match e with
  |.List es _=>λU=>bC (rx n S es U)
  |.ListComp elt gs sc _=>(match gs with
   |[g]=>if iF S sc&&iE g.iter&&decide (g.is_async=0)then
    aj (t9 S.N sc.names) (rj n S g.target g.iter) (tgV {S with nm:=sc.names} n g.target) (rqs n {S with nm:=sc.names} g.ifs) (rd n {S with nm:=sc.names} elt)else noV
   |_=>noV)
  |.Subscript a b _=>(match b with
   |.Slice lo hi none _=>kg (rd n S a) (ro n S lo) (ro n S hi)
   |_=>noV)
  |.BinOp a op b _=>if lsB e then(match op with
   |.Add=>iw (if Kg a then orO (rd n S a) (λU=>(rf n S a U).map D.lst)else rd n S a) (rd n S b)
   |_=>noV)else noV
  |.Call f as ks _=>(match f,as,ks with
   |.Name f _,[a],[]=>if f=("list":Str)/\glS S f=true/\S.G.no f=true/\aB a=true then orO (rv n S a) (λU=>(rx n S [a] U).bind nT)
    else if f=("sorted":Str)/\glS S f=true/\S.G.no f=true/\aB a=true thenλU=>(rx n S [a] U).bind cb else noV
   |_,_,_=>noV)
  |_=>noV
def rv:Nat->Sn->Expr->qm
 |0=>λ_ _=>noV
 |n+1=>λS e=>match e with
  |.Call f as ks _=>(match f,as,ks with
   |.Name f _,[a],[]=>if f=("reversed":Str)/\glS S f=true/\S.G.no f=true/\glS S "list"=true/\S.G.no "list"=true/\aB a=true thenλU=>(rx n S [a] U).bind revD
    else if f=("range":Str)/\glS S f=true/\S.G.no f=true/\glS S "list"=true/\S.G.no "list"=true/\aB a=true thenλU=>(rx n S [a] U).bind lrD else noV
   |_,_,_=>noV)
  |_=>noV
def rqs:Nat->Sn->NT->Fr
 |0=>λ_ _=>noV
 |n+1=>λS es=>match es with
  |[]=>λ_=>some true
  |[c]=>rq n S c
  |_=>noV
def rj:Nat->Sn->Expr->Expr->qm
 |0=>λ_ _ _=>noV
 |n+1=>λS tg e=>orO (match e with
  |.Call f as ks _=>(match f,as,ks with
   |.Name f _,[a],[]=>if f=("range":Str)/\glS S f=true/\S.G.no f=true/\aB a=true thenλU=>(rx n S [a] U).bind lK
    else if f=("reversed":Str)/\glS S f=true/\S.G.no f=true/\aB a=true thenλU=>(rx n S [a] U).bind rvT
    else if f=("enumerate":Str)/\glS S f=true/\S.G.no f=true/\aB a=true/\Kh tg=true thenλU=>(rx n S [a] U).bind ve else noV
   |.Name f _,[a,b],[]=>if f=("zip":Str)/\glS S f=true/\S.G.no f=true/\aB a=true/\aB b=true/\Kh tg=true thenλU=>(rx n S [a,b] U).bind wM else noV
   |_,_,_=>noV)
  |_=>noV) λU=>(rd n S e U).bind seqD
end
section
variable {X:Cx} {S:Sn} {e:Expr} {es:NT} {pos:Pos}
theorem PP.u (h:PP X e f) (hc:fA e=false):PPu X e f:=λO U=>(h O U).pu hc
theorem PPu.p (h:PPu X e f):PP X e f:=λO U=>(h O U).1
theorem PF.u (h:PF X e f) (hc:fA e=false):PFu X e f:=λO U=>(h O U).pu hc
theorem rB:PQ X e noV:=λO U pins s Y H Q I ⟨_,_,q,_⟩=>by cases q
theorem Af:PWQ X e noV:=λO U wh pins s Y H Q I ⟨_,_,q,_⟩=>by cases q
theorem EL:PX X es noV:=λO U pos pins s Y H Q I ⟨_,_,q,_⟩=>by cases q
theorem Ag:PQs X es noV:=λO U pins s Y H Q I ⟨_,_,q,_⟩=>by cases q
theorem rC:PJ X tg e noV:=λO U pins s Y H R I ⟨_,_,q,_⟩=>by cases q
theorem Hd {e}:PPo X e noV:=λO U pins s Y H Q I ⟨_,_,q,_⟩=>by cases q
theorem Ki (h1:PJ X tg e f) (h2:PJ X tg e g):PJ X tg e (orO f g):=λO U pins s Y H R I ⟨E,ds,q,k⟩=>by
 rcases or_some q with q|q
 ·exact h1 O U pins s Y H R I ⟨E,ds,q,k⟩
 ·exact h2 O U pins s Y H R I ⟨E,ds,q,k⟩
theorem De {K} (h:tP K O U (o.map D.lst) Y H Q):tPF K O U o Y H Q:=by
 obtain⟨E,d,e,k⟩:=h;cases o with
 |none=>cases e
 |some ds=>
  cases e;refine⟨E,ds,rfl,λp xs H' s hp l=>?_⟩;have hO:=(E.grow s).fresh hp;exact k _ _ (s.trans (Same.new hp)) ⟨p,xs,rfl,.of (by rw[aE hO,ai]),IsL.mono (Same.new hp).msk _ _ l⟩
theorem PFu.pp (h:PFu X e f):PPu X e (λU=>(f U).map D.lst):=λO U=>(h O U).imp λY H Q q=>De q
theorem He (h1:PFu X e f) (h2:PFu X e g):PFu X e (orO f g):=λO U=>(h1 O U).by2 (h2 O U) λY H Q ⟨E,ds,q,k⟩=>by
 rcases or_some q with q|q
 ·exact .inl ⟨E,ds,q,k⟩
 ·exact .inr ⟨E,ds,q,k⟩
theorem Ah (hc:X.calm=true) (C:CSc X scope ks) (hi:PJ X tg iter fi) (hg:∀C s H fp,PGD (!11) ks tg g) (ht:∀C s H fp,PQs (!11) ifs ft) (he:∀C s H fp,PP (!11) elt fe) (hs:∀x,foldedSetIterable iter X.env x=pure x):PFu X (.ListComp elt [⟨tg,iter,ifs,0⟩] scope pos) (aj ks fi g ft fe):=λO U=>
 (u9 hc C (hi O U) (λC s H fp=>PG.ex λz:(NR)×Vv×D=>hg C s H fp z.1 z.2.1 z.2.2) (λC s H fp=>PTs.ex λz:(NR)×Vv=>ht C s H fp z.1 z.2) (λC s H fp=>PE.ex λz:(NR)×Vv=>he C s H fp z.1 z.2) hs).imp λY H Q h=>yG h
theorem Dg (hc:X.calm=true) (C:CSc X scope ks) (hi:PJ X tg iter fi) (hg:∀C s H fp,PGD (!11) ks tg g) (ht:∀C s H fp,PQs (!11) ifs ft) (he:∀C s H fp,PFr (!11) elt fe) (hs:∀x,foldedSetIterable iter X.env x=pure x):PFr X (.ListComp elt [⟨tg,iter,ifs,0⟩] scope pos) (λU=>(aj ks fi g ft fe U).bind λds=>some (.lst ds)):=λU=>
 (u9 hc C (hi noO U) (λC s H fp=>PG.ex λz:(NR)×Vv×D=>hg C s H fp z.1 z.2.1 z.2.2) (λC s H fp=>PTs.ex λz:(NR)×Vv=>ht C s H fp z.1 z.2) (λC s H fp=>PE.ex λz:Vv=>(he C s H fp z).1) hs).imp λY H Q h=>tD h
theorem Dh (c:Const):PP X (.Constant c j pos) (Ac c):=by
 cases c<;>first|exact pp_int|exact pp_bl|exact pp_non|exact pp_str|exact pp_no
structure Snd (n:Nat):Prop where
 rd:∀X S,SnOk X S->∀e,PPu X e (rd n S e)
 rl:∀X S,SnOk X S->∀op vs p,PP X (.BoolOp op vs p) (rl n S op vs p)
 rq:∀X S,SnOk X S->∀e,PQ X e (rq n S e)
 rb:∀X S,SnOk X S->∀op vs p,PWQ X (.BoolOp op vs p) (rb n S op vs p)
 rx:∀X S,SnOk X S->∀es,PX X es (rx n S es)
 ro:∀X S,SnOk X S->∀e,PPo X e (ro n S e)
 rf:∀X S,SnOk X S->∀e,PFu X e (rf n S e)
 rv:∀X S,SnOk X S->∀e p q,PFu X (.Call (.Name "list" p) [e] [] q) (rv n S e)
 rqs:∀X S,SnOk X S->∀es,PQs X es (rqs n S es)
 rj:∀X S,SnOk X S->∀tg e,PJ X tg e (rj n S tg e)
theorem lastM (h:iE c=true):lastMarks [.LtE,.LtE] [b,c]=false:=noSet_mark h
theorem Mg (n:Nat) (I:Snd n) (o:SnOk X S) (e:Expr):PPu X e (rd (n+1) S e):=by
 have P:=λe=>(I.rd X S o e).p;have no:PPu X e noV:=pf;unfold L2.rd;split
 ·exact(Dh _).u rfl
 ·exact(t6 o _).u rfl
 ·exact(Ke _ (P _) (P _)).u rfl
 ·split
  ·exact(FT (P _)).u rfl
  ·exact(F9 (P _)).u rfl
  ·exact no
 ·exact(I.rl X S o _ _ _).u rfl
 ·split
  ·exact(Kf o _ (P _) (P _)).u rfl
  ·split
   ·rename_i h;exact(pp_lele (P _) (P _) (P _) (lastM h)).u rfl
   ·exact no
  ·exact no
 ·exact(JH (I.rq X S o _) (P _) (P _)).u rfl
 ·exact(FW (I.rx X S o _)).u rfl
 ·split
  ·exact(Gs (t6 o _) (λC Ca h1 h2=>o.g.fl C _ Ca h1 h2) rfl).u rfl
  ·exact no
 ·split
  ·exact tB ((Gc (P _) (I.ro X S o _) (I.ro X S o _)).u rfl) ((yW (P _) (I.ro X S o _) (I.ro X S o _)).u rfl).pp
  ·split
   ·rename_i h;exact(pp_ix (P _) (P _) (noSl_ok h)).u rfl
   ·exact no
 ·split
  ·split
   ·rename_i b hb;obtain⟨_,_,he,rfl,h1,h2,h3,h4,h5⟩:=xf hb;cases he;obtain⟨ok,gl⟩:=aM o h1;obtain⟨ok2,gl2⟩:=aM o h3;exact(GH o.calm gl (o.g.no _ h2) gl2 (o.g.no _ h4) (I.rx X S o _) (star1 h5)).u rfl
   ·refine tB ?_ (I.rf X S o _).pp;split
    ·rename_i h;exact(k_call o _ (I.rx X S o _) h).u rfl
    ·exact pf
  ·split
   ·split
    ·rename_i h;unfold EK at h;rw[and_eq_true,and_eq_true]at h;exactλO U=>(Gv (wQ (t6 o _) (λC k f q=>o.g.mt _ C k f q) o.room h.2 O U)).pu rfl
    ·exact no
   ·exact no
  ·exact no
 ·exact(I.rf X S o _).pp
theorem Mh (n:Nat) (I:Snd n) (o:SnOk X S) (op:BoolOp) (vs:NT) (p:Pos):PP X (.BoolOp op vs p) (rl (n+1) S op vs p):=by
 have P:=λe=>(I.rd X S o e).p;unfold L2.rl;split
 ·exact FR (P _)
 ·exact FS (P _) (I.rl X S o _ _ _)
 ·exact pp_no
theorem Mi (n:Nat) (I:Snd n) (o:SnOk X S) (e:Expr):PQ X e (rq (n+1) S e):=by
 have P:=λe=>(I.rd X S o e).p;unfold L2.rq;split
 ·split
  ·exact FU (I.rq X S o _)
  ·exact rB
 ·exact(I.rb X S o _ _ _).pq
 ·split
  ·exact Hb o _ (P _) (P _)
  ·split
   ·rename_i h;exact pq_lele (P _) (P _) (P _) (lastM h)
   ·exact rB
  ·exact rB
 ·split
  ·rename_i h;exact pq_val (P _) (plainT_ok h)
  ·exact rB
theorem Mj (n:Nat) (I:Snd n) (o:SnOk X S) (op:BoolOp) (vs:NT) (p:Pos):PWQ X (.BoolOp op vs p) (rb (n+1) S op vs p):=by
 unfold L2.rb;split
 ·exact pw_and1D (I.rq X S o _)
 ·exact pw_or1D (I.rq X S o _)
 ·exact pw_andD (I.rq X S o _) (I.rb X S o _ _ _)
 ·exact pw_orD (I.rq X S o _) (I.rb X S o _ _ _)
 ·exact Af
theorem Ml (n:Nat) (I:Snd n) (o:SnOk X S) (es:NT):PX X es (rx (n+1) S es):=by
 unfold L2.rx;split
 ·exact FV
 ·split
  ·rename_i h;exact px_cons (I.rd X S o _).p (I.rx X S o _) (star1 h)
  ·exact EL
theorem Mm (n:Nat) (I:Snd n) (o:SnOk X S) (e:Option Expr):PPo X e (ro (n+1) S e):=by
 unfold L2.ro;split
 ·exact yU
 ·exact yV (I.rd X S o _).p
theorem Kj (n:Nat) (I:Snd n) (o:SnOk X S) (es:NT):PQs X es (rqs (n+1) S es):=by
 unfold L2.rqs;split
 ·exact Cm
 ·exact Co (I.rq X S o _)
 ·exact Ag
theorem Hf:bootBuiltins "list"=some (.type "list"):=by decide+kernel
theorem Mo (n:Nat) (I:Snd n) (o:SnOk X S) (e:Expr):PFu X e (rf (n+1) S e):=by
 have P:=λe=>(I.rd X S o e).p;unfold L2.rf;split
 ·exact(FX (I.rx X S o _)).u rfl
 ·rename_i elt gs sc p;split
  ·rename_i g;split
   ·rename_i h;rw[and_eq_true,and_eq_true]at h;obtain⟨tg,iter,ifs,as⟩:=g;have ha:=N7 h.2;subst ha;have hb:=rz o h.1.1;exact Ah o.calm (uc o h.1.1) (I.rj X S o _ _) (λC s H fp=>(EJ (hb C s H fp) n).1 tg) (λC s H fp=>I.rqs _ _ (hb C s H fp) _) (λC s H fp=>(I.rd _ _ (hb C s H fp) _).p) (dh h.1.2)
   ·exact cm
  ·exact cm
 ·split
  ·exact(yW (P _) (I.ro X S o _) (I.ro X S o _)).u rfl
  ·exact cm
 ·split
  ·split
   ·refine(GB ?_ (P _)).u rfl;split
    ·exact(tB (I.rd X S o _) (I.rf X S o _).pp).p
    ·exact P _
   ·exact cm
  ·exact cm
 ·split
  ·split
   ·rename_i h;obtain⟨rfl,h1,h2,h3⟩:=h;obtain⟨ok,gl⟩:=aM o h1;exact He (I.rv X S o _ _ _) ((Cf gl (o.g.no _ h2) Hf (I.rx X S o _) (star1 h3)).u rfl)
   ·split
    ·rename_i h;obtain⟨rfl,h1,h2,h3⟩:=h;obtain⟨ok,gl⟩:=aM o h1;exact(zP o.room gl (o.g.no _ h2) (I.rx X S o _) (star1 h3)).u rfl
    ·exact cm
  ·exact cm
 ·exact cm
theorem Mp (n:Nat) (I:Snd n) (o:SnOk X S) (e:Expr) (p q:Pos):PFu X (.Call (.Name "list" p) [e] [] q) (rv (n+1) S e):=by
 unfold L2.rv;split
 ·split
  ·split
   ·rename_i h;obtain⟨rfl,h1,h2,h3,h4,h5⟩:=h;obtain⟨ok,gl⟩:=aM o h1;obtain⟨ok2,gl2⟩:=aM o h3;exact(GD o.calm gl2 (o.g.no _ h4) gl (o.g.no _ h2) (I.rx X S o _) (star1 h5)).u rfl
   split
   ·rename_i h;obtain⟨rfl,h1,h2,h3,h4,h5⟩:=h;obtain⟨ok,gl⟩:=aM o h1;obtain⟨ok2,gl2⟩:=aM o h3;exact(C0 o.calm gl2 (o.g.no _ h4) gl (o.g.no _ h2) (I.rx X S o _) (star1 h5)).u rfl
   ·exact cm
  ·exact cm
 ·exact cm
theorem Mq (n:Nat) (I:Snd n) (o:SnOk X S) (tg e:Expr):PJ X tg e (rj (n+1) S tg e):=by
 unfold L2.rj;refine Ki ?_ (F3 (I.rd X S o _).p);split
 ·split
  ·split
   ·rename_i h;obtain⟨rfl,h1,h2,h3⟩:=h;obtain⟨ok,gl⟩:=aM o h1;exact wJ gl (o.g.no _ h2) (I.rx X S o _) (star1 h3)
   split
   ·rename_i h;obtain⟨rfl,h1,h2,h3⟩:=h;obtain⟨ok,gl⟩:=aM o h1;exact JZ gl (o.g.no _ h2) (I.rx X S o _) (star1 h3)
   ·split
    ·rename_i h;obtain⟨rfl,h1,h2,h3,h4⟩:=h;obtain⟨ok,gl⟩:=aM o h1;cases tg<;>first
      |exact GA gl (o.g.no _ h2) (I.rx X S o _) (star1 h3)
      |cases h4
    ·exact rC
  ·split
   ·rename_i h;obtain⟨rfl,h1,h2,h3,h4,h5⟩:=h;obtain⟨ok,gl⟩:=aM o h1;cases tg<;>first
     |exact F8 gl (o.g.no _ h2) (I.rx X S o _) (by rw[star1 h3,star1 h4];rfl) (star1 h4)
     |cases h5
   ·exact rC
  ·exact rC
 ·exact rC
theorem sound:∀n,Snd n
 |0=>⟨λ_ _ _ _=>pf,λ_ _ _ _ _ _=>pp_no,λ_ _ _ _=>rB,λ_ _ _ _ _ _=>Af,λ_ _ _ _=>EL,λ_ _ _ _=>Hd,λ_ _ _ _=>cm,λ_ _ _ _ _ _=>cm,λ_ _ _ _=>Ag,λ_ _ _ _ _=>rC⟩
 |n+1=>⟨λX S o e=>Mg n (sound n) o e,λX S o op vs p=>Mh n (sound n) o op vs p,λX S o e=>Mi n (sound n) o e,λX S o op vs p=>Mj n (sound n) o op vs p,λX S o es=>Ml n (sound n) o es,λX S o e=>Mm n (sound n) o e,
  λX S o e=>Mo n (sound n) o e,λX S o e p q=>Mp n (sound n) o e p q,λX S o es=>Kj n (sound n) o es,λX S o tg e=>Mq n (sound n) o tg e⟩
end
noncomputable def Ai:Expr->Option Const
 |.Constant c _ _=>some c
 |_=>none
theorem l5 (h:Ai e=some c):∃j p,e=.Constant c j p:=by
 cases e<;>first|(cases h;exact⟨_,_,rfl⟩)|cases h
mutual
def fr:Nat->Sn->Expr->wp
 |0=>λ_ _=>noV
 |n+1=>λS e=>orO (λU=>lfO (rd n S e U)) (orO (λU=>jd (rf n S e U)) (match e with
  |.List es _=>λU=>(bC (frl n S es U)).bind λds=>some (.lst ds)
  |.Tuple es _ _=>λU=>(bC (frl n S es U)).bind λds=>some (.tup ds)
  |.Dict ks vs _=>(match ks,vs with
   |[],[]=>λ_=>some (.dct [] [])
   |[some a],[b]=>(match Ai a,Ai b with
    |some (.int k),some (.bool b)=>λ_=>some (.dct [.inl k] [.bl b])
    |_,_=>noV)
   |_,_=>noV)
  |.ListComp elt gs sc _=>(match gs with
   |[g]=>if iF S sc&&iE g.iter&&decide (g.is_async=0)then
    λU=>(aj (t9 S.N sc.names) (rj n S g.target g.iter) (tgV {S with nm:=sc.names} n g.target) (rqs n {S with nm:=sc.names} g.ifs) (fr n {S with nm:=sc.names} elt) U).bind λds=>some (.lst ds)else noV
   |_=>noV)
  |.Call f as ks _=>(match f,as,ks with
   |.Name f _,a::as,[]=>if(a::as).all aB thenλU=>(rx n S (a::as) U).bind (zY S f)else noV
   |_,_,_=>noV)
  |_=>noV))
def frl:Nat->Sn->NT->qm
 |0=>λ_ _=>noV
 |n+1=>λS es=>match es with
  |[]=>λ_=>some []
  |a::as=>if aB a then aa (fr n S a) (frl n S as)else noV
end
section
variable {X:Cx} {S:Sn} {e:Expr} {es:NT} {pos:Pos}
theorem Aj:tz X es noV:=λU pos pins s Y H Q I ⟨_,_,q,_⟩=>by cases q
theorem Kk:∀n,(∀X S,SnOk X S->∀e,PFr X e (fr n S e))/\∀X S,SnOk X S->∀es,tz X es (frl n S es):=by
 intro n;induction n with
 |zero=>exact⟨λX S o e=>im,λX S o es=>Aj⟩
 |succ n ih=>
  refine⟨λX S o e=>?_,λX S o es=>?_⟩
  ·unfold fr;refine Ey (JQ ((sound n).rd X S o e)) (Ey (Gg ((sound n).rf X S o e)) ?_);split
   ·exact Gh (ih.2 X S o _)
   ·exact Gi (ih.2 X S o _)
   ·split
    ·exact GJ
    ·split
     ·rename_i k b h1 h2;obtain⟨_,_,rfl⟩:=l5 h1;obtain⟨_,_,rfl⟩:=l5 h2;exact Db
     ·exact im
    ·exact im
   ·rename_i elt gs sc p;split
    ·rename_i g;split
     ·rename_i h;rw[and_eq_true,and_eq_true]at h;obtain⟨tg,iter,ifs,as⟩:=g;have ha:=N7 h.2;subst ha;have hb:=rz o h.1.1;exact Dg o.calm (uc o h.1.1) ((sound n).rj X S o _ _) (λC s H fp=>(EJ (hb C s H fp) n).1 tg) (λC s H fp=>(sound n).rqs _ _ (hb C s H fp) _) (λC s H fp=>ih.1 _ _ (hb C s H fp) _) (dh h.1.2)
     ·exact im
    ·exact im
   ·split
    ·split
     ·rename_i h;exact k_callR o _ ((sound n).rx X S o _) h
     ·exact im
    ·exact im
   ·exact im
  ·unfold frl;split
   ·exact Cu
   ·split
    ·rename_i h;exact frs_cons (ih.1 X S o _) (ih.2 X S o _) (star1 h)
    ·exact Aj
end
def ev (n:Nat) (S:Sn) (e:Expr):NE:=orO (kh (fr n S e)) (orO (jV (rf n S e)) (orO (ph (rd n S e)) (yX (rd n S e))))
theorem ue (n:Nat) (o:SnOk X S) (e:Expr):PEv X e (ev n S e):=jW (Ez ((Kk n).1 X S o e)) (jW (tE ((sound n).rf X S o e)) (jW (yY ((sound n).rd X S o e)) (EA ((sound n).rd X S o e))))
structure TnOk (X:Cx) (S:Sn):Prop where
 s:SnOk X S
 fn:∀x,X.fn x=true
 nox:X.xe=λ_ _=>False
 nm:X.env.scope.names=S.nm
def vz (S:Sn) (x:Str):Option Nat:=if dM x&&(decide (S.nm.lookup x=some .local)||decide (S.nm.lookup x=some .cell))then pz S.N x else none
noncomputable def noO':Cl:=λ_=>none
noncomputable def bp:Expr->Option Str
 |.Name x _=>some x
 |_=>none
def exR (n:Nat) (S:Sn):Option Expr->Cl
 |none=>λ_=>some (.rt (.deep,.non))
 |some e=>match bp e with
  |some x=>(match bB S x with|some i=>λU=>(io U i).bind λs=>some (.rt s)|none=>bP (ev n S e))
  |none=>bP (ev n S e)
def EM (S:Sn):Expr->NO
 |.List es _=>es.filterMap λe=>(bp e).bind (bB S)
 |_=>[]
def evL (is:NO) (F:wp) (L:qm) (R:wp):NE:=orO (kh F) (orO (jV L) (orO (ph R) (orO (λU=>jV L (frzS is U)) (yX R))))
def evA (n:Nat) (S:Sn) (e:Expr):NE:=if(EM S e).isEmpty then ev n S e else evL (EM S e) (fr n S e) (rf n S e) (rd n S e)
def evN (n:Nat) (S:Sn) (e:Expr):NE:=match(bp e).bind (bB S)with
 |some j=>orO (mvE j) (evA n S e)
 |none=>evA n S e
def Di (n:Nat) (S:Sn) (t e:Expr):Cl:=match t with
 |.Name x _=>(match vz S x with|some i=>aw i (evN n S e)|none=>noO')
 |.Subscript o k _=>(match bp o with
  |some x=>if Ae k&&!fA e then(match bB S x with|some i=>orO (qX i (rd n S k) (rd n S e)) (lM i (rd n S k) (ev n S e))|none=>noO')else noO'
  |none=>noO')
 |_=>noO'
def exA (n:Nat) (S:Sn) (ts:NT) (e:Expr):Cl:=match ts with
 |[t]=>Di n S t e
 |_=>noO'
def pP (i j:Nat) (g:NE) (R:wp):Cl:=orO (gi i g) (gi i λU=>ph R (frzS [j] U))
def Hg (n:Nat) (S:Sn) (i:Nat) (m:Str) (e:Expr):Cl:=if m=("append":Str)then(match(bp e).bind (bB S)with
 |some j=>pP i j (ev n S e) (rd n S e)
 |none=>gi i (ev n S e))else if m=("extend":Str)then tR i (rd n S e)else noO'
def exM (n:Nat) (S:Sn) (o:Expr) (m:Str) (e:Expr):Cl:=match o with
 |.Name x _=>(match bB S x with|some i=>Hg n S i m e|none=>noO')
 |.Subscript o k _=>(match(bp o).bind (bB S)with|some i=>if m=("append":Str)/\Ae k=true then m7 i (rd n S k) (rd n S e)else noO'|none=>noO')
 |_=>noO'
noncomputable def vA:Expr->Option (Expr×Str×Pos×Expr×Pos)
 |.Call f as ks cpos=>(match f,as,ks with
  |.Attribute o m apos,[e],[]=>some (o,m,apos,e,cpos)
  |_,_,_=>none)
 |_=>none
noncomputable def Dj:Expr->Option (Expr×Pos×Expr×Expr×Pos)
 |.Call f as ks cpos=>(match f,as,ks with
  |.Attribute o m apos,[a,b],[]=>if m=("insert":Str)then some (o,apos,a,b,cpos)else none
  |_,_,_=>none)
 |_=>none
def Dk:Expr->Option (Str×Pos×Pos)
 |.Call f as ks cpos=>(match f,as,ks with
  |.Attribute o m apos,[],[]=>if m=("reverse":Str)then(bp o).bind λx=>some (x,apos,cpos)else none
  |_,_,_=>none)
 |_=>none
def exI (n:Nat) (S:Sn) (o a b:Expr):Cl:=match bp o with
 |some x=>(match bB S x with|some i=>zR i (rd n S a) (rd n S b)|none=>noO')
 |none=>noO'
def exV (n:Nat) (S:Sn) (e:Expr):Cl:=match Dj e with
 |some (o,apos,a,b,cpos)=>if aB a&&aB b&&(!25)then exI n S o a b else noO'
 |none=>(match Dk e with
  |some (x,apos,cpos)=>if apos.endLine==cpos.line then(match bB S x with|some i=>xb i|none=>noO')else noO'
  |none=>if fA e then noO' else fB (rd n S e))
def exX (n:Nat) (S:Sn) (e:Expr):Cl:=match vA e with
 |some (o,m,apos,a,cpos)=>if aB a&&(!25)then exM n S o m a else noO'
 |none=>exV n S e
noncomputable def Kl:Expr->Bool
 |.Subscript _ _ _=>true
 |_=>false
def Km:List Stmt->Bool
 |st::_=>(match st with
  |.Assign ts _ _=>ts.all Kl
  |_=>false)
 |_=>false
def Ak (S:Sn) (iter:Expr) (body:List Stmt):Option Nat:=if Km body then(bp iter).bind (bB S)else none
def Kn (x:Str):List Stmt->Bool
 |s::_=>(match s with
  |.For _ it _ _ _=>(match it with
   |.Subscript o _ _=>decide (bp o=some x)
   |_=>false)
  |_=>false)
 |_=>false
def Mr (S:Sn) (iter:Expr) (body:List Stmt):Option Nat:=((rA iter).bind λz=>(rA z.2).bind λy=>bp y.2).bind λx=>if Kn x body then bB S x else none
mutual
def ex:Nat->Sn->Stmt->Cl
 |0=>λ_ _=>noO'
 |n+1=>λS st=>match st with
  |.Return v _=>exR n S v
  |.Assign ts e _=>exA n S ts e
  |.If c a b _=>ifS (rq n S c) (exs n S a) (exs n S b)
  |.For tg iter body els _=>if els.isEmpty&&iE iter then(match Ak S iter body with
   |some i=>zU i (tgE S n tg) (exs n S body)
   |none=>(match Mr S iter body with
    |some i=>orO (gP (rj n S tg iter) (tgE S n tg) (exs n S body)) (orO (λU=>gP (rj n S tg iter) (tgE S n tg) (exs n S body) (frzS [i] U)) (y7 (rj n S tg iter) (tgE S n tg) (exs n S body)))
    |none=>orO (gP (rj n S tg iter) (tgE S n tg) (exs n S body)) (y7 (rj n S tg iter) (tgE S n tg) (exs n S body))))else noO'
  |.While c body els _=>if els.isEmpty then wlF (rq n S c) (exs n S body)else noO'
  |.Expr e _=>exX n S e
  |_=>noO'
def exs:Nat->Sn->List Stmt->Cl
 |0=>λ_ _=>noO'
 |n+1=>λS st=>match st with
  |[]=>λU=>some (.nx U)
  |s::r=>ae (ex n S s) (exs n S r)
end
section
variable {X:Cx} {S:Sn}
theorem uf (o:TnOk X S) (h:vz S x=some i):dM x=true/\Loc X.env.scope x/\X.N[i]?=some x:=by
 unfold vz at h;split at h
 ·rename_i c;rw[and_eq_true,Bool.or_eq_true]at c;refine⟨c.1,?_,by rw[o.s.N];exact d7 h⟩;rcases c.2 with c|c
  ·exact .inl (o.s.loc _ (N7 c))
  ·exact .inr (o.s.cel _ (N7 c))
 ·cases h
theorem swaps_name (e:Expr) (x:Str) (p:Pos) (l:Nat) (env:Env):swapsWith e (some (.Name x p)) l env=pure false\/(swapsWith e (some (.Name x p)) l env=pure true/\env.scope.names.lookup x=some .local):=by
 have key:∀ (b1 b2 b3:Bool),(pure (b1&&(env.kindOf x==some .local)&&b2&&b3):Sem Bool)=pure false\/((pure (b1&&(env.kindOf x==some .local)&&b2&&b3):Sem Bool)=pure true/\env.scope.names.lookup x=some .local):=λb1 b2 b3=>by
  cases hk:(env.kindOf x==some NameKind.local)with
  |false=>left;cases b1<;>rfl
  |true=>
   have hl:env.scope.names.lookup x=some .local:=by
    have hk':env.kindOf x=some .local:=by simpa using hk
    exact hk'
   cases b1<;>cases b2<;>cases b3<;>first|exact .inl rfl|exact .inr ⟨rfl,hl⟩
 cases e<;>first
  |exact .inl rfl
  |exact key _ _ _
theorem bq {st}:PR X st noO':=y4
theorem dO (h:dM x=true):(!7)=false/\(!10)=false:=⟨(c7 h).1,(c7 h).2.1⟩
theorem Al (h:Ae ik=true):∀v,assign (.Subscript (!17) ik spos) env v=(do
  let ov<-holding [v] (eval (!17) env)
  let iv<-holding [v,ov] (eval ik env)
  standAt spos
  holding [v,ov,iv] (setItem ov iv v)
  release [v,ov,iv] []):=by
 intro v
 cases ik<;>first|rfl|cases h
theorem vB (h:fA e=false):swapsWithSole [t] e l env=pure false:=by
 exact ij h _ _ _
theorem vC:swappedStores [.Subscript (!17) ik spos] e env=pure none:=by
 cases e<;>rfl
theorem bf (h:bp e=some x):∃p,e=.Name x p:=by
 cases e<;>first|(cases h;exact⟨_,rfl⟩)|cases h
theorem ug (h:vA e=some (o,m,ap,a,cp)):e=.Call (.Attribute o m ap) [a] [] cp:=by
 unfold vA at h;split at h
 ·split at h
  ·cases h;rfl
  ·cases h
 ·cases h
theorem Ko (n:Nat) (o:TnOk X S) (v:Option Expr):PR X (.Return v pos) (exR n S v):=by
 cases v with
 |none=>exact Cw
 |some e=>
  unfold exR;dsimp only;cases h:bp e with
  |none=>exact y6 (ue n o.s _)
  |some x=>
   obtain⟨p,rfl⟩:=bf h;dsimp only;cases hi:bB S x with
   |none=>exact y6 (ue n o.s _)
   |some i=>
    obtain⟨h1,h2,h3,_⟩:=aV o.s hi;obtain⟨a,b⟩:=dO h1;exact tF i h3 h2 a b
theorem EN (n:Nat) (o:SnOk X S) (e:Expr):PEv X e (evA n S e):=by
 unfold evA;split
 ·exact ue n o e
 ·exact jW (Ez ((Kk n).1 X S o e)) (jW (tE ((sound n).rf X S o e)) (jW (yY ((sound n).rd X S o e)) (jW (zn _ (tE ((sound n).rf X S o e))) (EA ((sound n).rd X S o e)))))
theorem s_evN (n:Nat) (o:SnOk X S) (e:Expr):PEv X e (evN n S e):=by
 unfold evN;split
 ·rename_i j h;obtain⟨x,h1,h2⟩:=Op h;obtain⟨p,rfl⟩:=bf h1;obtain⟨g1,g2,g3,_⟩:=aV o h2;exact jW (Kc g3 g2 (dO g1).1 (dO g1).2) (EN n o _)
 ·exact EN n o e
theorem Hh (n:Nat) (o:TnOk X S) (t e:Expr):PR X (.Assign [t] e pos) (Di n S t e):=by
 have P:=λe=>((sound n).rd X S o.s e).p;cases t with
 |Name x p=>
  unfold Di;dsimp only;cases hi:vz S x with
  |none=>exact bq
  |some i=>
   obtain⟨h1,h2,h3⟩:=uf o hi;exact Gk (by rw[o.s.N];exact o.s.nd) h3 h2 (s_evN n o.s _) (.inl (o.fn _)) (swaps_name _ _ _ _ _)
 |Subscript ob k p=>
  unfold Di;dsimp only;cases hn:bp ob with
  |none=>exact bq
  |some x=>
   obtain⟨px,rfl⟩:=bf hn;dsimp only;split
   ·rename_i h;rw[and_eq_true]at h;cases hi:bB S x with
    |none=>exact bq
    |some i=>
     obtain⟨h1,h2,h3,_⟩:=aV o.s hi;obtain⟨a,b⟩:=dO h1;exact nW (GL i (P _) (P _) h3 h2 a b (Al h.1) (vB (by simpa using h.2)) vC (asg1 rfl)) (Gp i (ue n o.s _) (P _) h3 h2 a b (Al h.1) (vB (by simpa using h.2)) vC (asg1 rfl))
   ·exact bq
 |_=>exact bq
theorem Kp (n:Nat) (o:TnOk X S) (ts:NT) (e:Expr):PR X (.Assign ts e pos) (exA n S ts e):=by
 cases ts with
 |nil=>exact bq
 |cons t r=>cases r with
  |nil=>exact Hh n o t e
  |cons _ _=>exact bq
theorem Hi (n:Nat) (o:TnOk X S) (m:Str) (e:Expr) (hi:bB S x=some i) (hs:aB e=true) (hl:(ap.endLine==cp.line)=true):PR X (.Expr (.Call (.Attribute (!17) m ap) [e] [] cp) pos) (Hg n S i m e):=by
 obtain⟨h1,h2,h3,_⟩:=aV o.s hi;obtain⟨a,b⟩:=dO h1;unfold Hg;split
 ·rename_i hm;subst hm;split
  ·exact nW (je i (ue n o.s _) h3 h2 a b (star1 hs) hl) (je i (zn _ (yY ((sound n).rd X S o.s e))) h3 h2 a b (star1 hs) hl)
  ·exact je i (ue n o.s _) h3 h2 a b (star1 hs) hl
 ·split
  ·rename_i hm;subst hm;exact wT i ((sound n).rd X S o.s e).p h3 h2 a b (star1 hs) hl
  ·exact bq
theorem Kq (n:Nat) (o:TnOk X S) (ob:Expr) (m:Str) (e:Expr) (hs:aB e=true) (hl:(ap.endLine==cp.line)=true):PR X (.Expr (.Call (.Attribute ob m ap) [e] [] cp) pos) (exM n S ob m e):=by
 cases ob with
 |Name x p=>
  unfold exM;dsimp only;cases hi:bB S x with
  |none=>exact bq
  |some i=>exact Hi n o m e hi hs hl
 |Subscript ob k p=>
  unfold exM;dsimp only;cases hn:(bp ob).bind (bB S)with
  |none=>exact bq
  |some i=>
   obtain⟨x,e1,hi⟩:=Op hn;obtain⟨px,rfl⟩:=bf e1;dsimp only;split
   ·rename_i h;obtain⟨rfl,hk⟩:=h;obtain⟨h1,h2,h3,_⟩:=aV o.s hi;obtain⟨a,b⟩:=dO h1;exact GI i ((sound n).rd X S o.s _).p ((sound n).rd X S o.s _).p h3 h2 a b (noSl_ok hk) (star1 hs) hl
   ·exact bq
 |_=>exact bq
theorem xg (h:Dj e=some (o,ap,a,b,cp)):e=.Call (.Attribute o "insert" ap) [a,b] [] cp:=by
 unfold Dj at h;grind
theorem xh (h:Dk e=some (x,ap,cp)):∃p,e=.Call (.Attribute (.Name x p) "reverse" ap) [] [] cp:=by
 unfold Dk at h;split at h
 ·split at h
  ·split at h
   ·rename_i hm;obtain⟨y,h1,h2⟩:=Op h;cases h2;obtain⟨p,rfl⟩:=bf h1;rw[hm];exact⟨p,rfl⟩
   ·cases h
  ·cases h
 ·cases h
theorem Kr (n:Nat) (o:TnOk X S) (ob a b:Expr) (ha:aB a=true) (hb:aB b=true) (hl:(ap.endLine==cp.line)=true):PR X (.Expr (.Call (.Attribute ob "insert" ap) [a,b] [] cp) pos) (exI n S ob a b):=by
 have P:=λe=>((sound n).rd X S o.s e).p;unfold exI;cases hn:bp ob with
 |none=>exact bq
 |some x=>
  obtain⟨p,rfl⟩:=bf hn;dsimp only;cases hi:bB S x with
  |none=>exact bq
  |some i=>
   obtain⟨h1,h2,h3,_⟩:=aV o.s hi;obtain⟨c,d⟩:=dO h1;exact xa i (P _) (P _) h3 h2 c d (star1 ha) (star1 hb) hl
theorem Ks (n:Nat) (o:TnOk X S) (e:Expr):PR X (.Expr e pos) (exV n S e):=by
 unfold exV;cases hm:Dj e with
 |some z=>
  obtain⟨ob,ap,a,b,cp⟩:=z;have:=xg hm;subst this;dsimp only;split
  ·rename_i h;rw[and_eq_true,and_eq_true]at h;exact Kr n o ob a b h.1.1 h.1.2 h.2
  ·exact bq
 |none=>
  dsimp only;cases hv:Dk e with
  |some z=>
   obtain⟨x,ap,cp⟩:=z;obtain⟨p,this⟩:=xh hv;subst this;dsimp only;split
   ·rename_i h;cases hi:bB S x with
    |none=>exact bq
    |some i=>
     obtain⟨h1,h2,h3,_⟩:=aV o.s hi;obtain⟨c,d⟩:=dO h1;exact t5 i h3 h2 c d h
   ·exact bq
  |none=>
  dsimp only;split
  ·exact bq
  ·rename_i h;exact Cy ((sound n).rd X S o.s e).p (ij (by simpa using h) _ _ _)
theorem Kt (n:Nat) (o:TnOk X S) (e:Expr):PR X (.Expr e pos) (exX n S e):=by
 unfold exX;cases hm:vA e with
 |some z=>
  obtain⟨ob,m,ap,a,cp⟩:=z;have:=ug hm;subst this;dsimp only;split
  ·rename_i h;rw[and_eq_true]at h;exact Kq n o ob m a h.1 h.2
  ·exact bq
 |none=>exact Ks n o e
theorem Dl:∀n,(∀X S,TnOk X S->∀st,PR X st (ex n S st))/\∀X S,TnOk X S->∀st,PRs X st (exs n S st):=by
 intro n;induction n with
 |zero=>exact⟨λX S o e=>bq,λX S o es=>yZ⟩
 |succ n ih=>
  refine⟨λX S o st=>?_,λX S o st=>?_⟩
  ·have pass:PassesOwn (!3) X.A X.env X.xe:=by rw[o.nox];exact PassesOwn.never
   unfold ex;cases st with
   |Return v p=>exact Ko n o v
   |Assign ts e p=>exact Kp n o ts e
   |If c a b p=>exact JR ((sound n).rq X S o.s _) (ih.2 X S o _) (ih.2 X S o _)
   |For tg iter body els p=>
    dsimp only;split
    ·rename_i h;rw[and_eq_true]at h;cases els with
     |nil=>
      have F1:=Gn (pos:=p) pass o.s.calm ((sound n).rj X S o.s tg iter) ((Ab o.s o.fn n).1 _) (ih.2 X S o body) (dh h.2);have F2:=CB (pos:=p) pass o.s.calm ((sound n).rj X S o.s tg iter) ((Ab o.s o.fn n).1 _) (ih.2 X S o body) (dh h.2);cases hk:Ak S iter body with
      |some i=>
       unfold Ak at hk;split at hk
       ·obtain⟨x,h1,hi⟩:=Op hk;obtain⟨px,rfl⟩:=bf h1;obtain⟨g1,g2,g3,_⟩:=aV o.s hi;obtain⟨c,d⟩:=dO g1;exact Da pass o.s.calm g3 g2 c d ((Ab o.s o.fn n).1 _) (ih.2 X S o body) (dh h.2)
       ·cases hk
      |none=>
      dsimp only;split
      ·exact nW F1 (nW (GW _ F1) F2)
      ·exact nW F1 F2
     |cons _ _=>cases h.1
    ·exact bq
   |While c body els p=>
    dsimp only;split
    ·rename_i h;cases els with
     |nil=>exact zS pass ((sound n).rq X S o.s _) (ih.2 X S o body)
     |cons _ _=>cases h
    ·exact bq
   |Expr e p=>exact Kt n o e
   |_=>exact bq
  ·unfold exs;cases st with
   |nil=>exact Gj
   |cons s r=>exact Cv (ih.1 X S o _) (ih.2 X S o _)
end
def Ku:Expr->Option (Str×Str)
 |.Attribute o f _=>(bp o).bind λy=>some (y,f)
 |_=>none
def Hj:Stmt->Option (Str×Str×Expr)
 |.Assign ts e _=>(match ts with
  |[t]=>(Ku t).bind λz=>some (z.1,z.2,e)
  |_=>none)
 |_=>none
theorem xi (h:Hj s=some (y,f,e)):∃p q r,s=.Assign [.Attribute (.Name y p) f q] e r:=by
 unfold Hj at h;split at h
 ·split at h
  ·rename_i t;obtain⟨z,h1,h⟩:=Op h;cases h;unfold Ku at h1;split at h1
   ·obtain⟨x,h2,h1⟩:=Op h1;obtain⟨p,rfl⟩:=bf h2;cases h1;exact⟨_,_,_,rfl⟩
   ·cases h1
  ·cases h
 ·cases h
def inx:Nat->Sn->Addr->(Str->Bool)->List Stmt->InF
 |0=>λ_ _ _ _=>λ_ _=>none
 |n+1=>λS x fl st=>match st with
  |[]=>CI
  |s::r=>(match Hj s with
   |some (y,f,e)=>if fl f&&!fA e then(match bB S y with|some i=>CJ x i f (ev n S e) (inx n S x fl r)|none=>λ_ _=>none)elseλ_ _=>none
   |none=>stI (ex n S s) (inx n S x fl r))
theorem Kv (o:TnOk X S) (c:Cls X.K Ca) (hfl:∀f,fl f=true->NoAttr X.K Ca f):∀n st,PIn X Ca x st (inx n S x fl st):=by
 have no:∀st,PIn X Ca x st (λ_ _=>none):=λst B O U dx fd pins s Y H D I ⟨_,_,_,_,q,_⟩=>by cases q
 intro n;induction n with
 |zero=>exactλst=>no st
 |succ n ih=>
  intro st;unfold inx;split
  ·exact Gw
  ·split
   ·rename_i y f e hs;obtain⟨_,_,_,rfl⟩:=xi hs;split
    ·rename_i h;rw[and_eq_true]at h;split
     ·rename_i i hi;obtain⟨h1,h2,h3,_⟩:=aV o.s hi;obtain⟨a,b⟩:=dO h1;exact Gx i (ue n o.s _) (ih _) h3 h2 a b (ij (by simpa using h.2) _ _ _) c (hfl _ h.1)
     ·exact no _
    ·exact no _
   ·exact CK ((Dl n).1 X S o _) (ih _)
mutual
def tgA (S:Sn) (i0:Nat):Nat->Expr->D->Ev->Option Ev
 |0=>λ_ _ _=>none
 |n+1=>λe=>match e with
  |.Name x _=>(match pO S x with|some i=>if i=i0 thenλ_ _=>none else eNm i|none=>λ_ _=>none)
  |.Tuple ts _ _=>if ts.all aB then eTp ts.length (Kw S i0 n ts)elseλ_ _=>none
  |_=>λ_ _=>none
def Kw (S:Sn) (i0:Nat):Nat->NT->NS->Ev->Option Ev
 |0=>λ_ _ _=>none
 |n+1=>λes=>match es with
  |[]=>pi
  |t::ts=>if aB t then dF (tgA S i0 n t) (Kw S i0 n ts)elseλ_ _=>none
end
section
variable {X:Cx} {S:Sn} {i0:Nat}
end
structure AlOk (K:Frag) (B:Bs) (O:NR) (Y:St) (H:Hp) (U:Ev) (i:Nat) (d:D):Prop where
 E:EnvOk K B O Y H U
 no:U[i]?=some none
 al:∃v,Y[i]?=some (some v)/\Is K H d v
section
variable {K:Frag} {B:Bs} {O:NR} {Y:St} {H H':Hp} {U:Ev} {i j:Nat} {d:D}
end
section
variable {X:Cx} {e tg iter:Expr} {pos:Pos} {i j:Nat} {x y:Str} {d:D} {ds:NS} {B:Bs} {O:NR} {U:Ev}
end
section
variable {X:Cx} {S:Sn}
end
section
variable {X:Cx} {e2 c:Expr} {i v:Nat} {x y:Str}
end
section
variable {X:Cx} {S:Sn}
end
noncomputable def cI (i:Int):wp:=λ_=>some (.int i)
noncomputable def cB (b:Bool):wp:=λ_=>some (.bl b)
noncomputable def cN:wp:=λ_=>some .non
noncomputable def cS (x:Str):wp:=λ_=>some (.str x)
noncomputable def cD (d:D):wp:=λ_=>some d
noncomputable def cT (n:String):wp:=λ_=>some (.ty n)
def va (i:Nat):wp:=λU=>cf U i
def ngF (a:wp):wp:=λU=>(a U).bind yR
noncomputable def af:qm:=λ_=>some []
def tpF (xs:qm):wp:=λU=>(bC (xs U)).bind λds=>some (.tup ds)
def flF (fl:Str->Str->Bool) (m:Str) (o:wp):wp:=λU=>(o U).bind (ki fl m)
def slF (a:wp) (lo hi:Vv->Option (NV)):wp:=orO (mZ a lo hi) λU=>(kg a lo hi U).map D.lst
noncomputable def noP:Vv->Option (NV):=λ_=>some none
noncomputable def lsF (L:qm):wp:=λU=>(L U).map D.lst
def clF (f:ad) (xs:qm):wp:=orO (λU=>(xs U).bind λds=>fD (f ds)) (lsF noV)
def biF (f:NS->NU) (xs:qm):wp:=orO (λU=>(xs U).bind f) (lsF noV)
noncomputable def noD:NS->NU:=λ_=>none
def mkF (C:Str) (g:NS->Option (List (Str×D))) (xs:qm):wp:=orO (λU=>(xs U).bind λds=>CG C (g ds)) (lsF noV)
def meF (o:wp) (xs:qm) (mt:MT) (k:Nat) (m:Str):wp:=λU=>fD (qU o xs mt k m U)
def dpF (xs:qm):qm:=λU=>bC (xs U)
def l1F (xs:qm):qm:=λU=>(xs U).bind nT
def liF (xs:qm):wp:=orO (λU=>(xs U).bind noD) (lsF (l1F xs))
def s1F (xs:qm):qm:=λU=>(xs U).bind cb
def rvF (xs:qm):qm:=λU=>(xs U).bind revD
def lrF (xs:qm):qm:=λU=>(xs U).bind lrD
def enF (xs:qm):qm:=λU=>(xs U).bind ve
def vtF (xs:qm):qm:=λU=>(xs U).bind rvT
def tvF (xs:qm):wp:=λU=>(xs U).bind GG
def liG (xs:qm) (L:qm):wp:=orO (λU=>(xs U).bind noD) (lsF L)
def trF (a:wp):Fr:=λU=>(a U).bind wG
noncomputable def tQ:Fr:=λ_=>some true
def jX (sp:qm) (R:wp):qm:=orO sp λU=>(R U).bind seqD
def r1F (xs:qm):qm:=λU=>(xs U).bind lK
def zpF (xs:qm):qm:=λU=>(xs U).bind wM
def frX (R:wp) (L:qm) (Sp:wp):wp:=orO (λU=>lfO (R U)) (orO (λU=>jd (L U)) Sp)
def evX (R:wp) (L:qm) (Sp:wp):NE:=orO (kh (frX R L Sp)) (orO (jV L) (orO (ph R) (yX R)))
def fLs (F:qm):wp:=λU=>(bC (F U)).bind λds=>some (.lst ds)
def fTp (F:qm):wp:=λU=>(bC (F U)).bind λds=>some (.tup ds)
def fCo (ks:NO) (J:qm) (tg:D->Vv->Option Vv) (t:Fr) (F:wp):wp:=λU=>(aj ks J tg t F U).bind λds=>some (.lst ds)
def fCl (f:ad) (xs:qm):wp:=λU=>(xs U).bind λds=>qT (f ds)
def fNo (xs:qm):wp:=λU=>(xs U).bind noD
def rtN (i:Nat):Cl:=λU=>(io U i).bind λs=>some (.rt s)
noncomputable def nxE:Cl:=λU=>some (.nx U)
def frF (J:qm) (tg:D->Ev->Option Ev) (F:Cl):Cl:=orO (gP J tg F) (y7 J tg F)
def frY (i:Nat) (J:qm) (tg:D->Ev->Option Ev) (F:Cl):Cl:=orO (gP J tg F) (orO (λU=>gP J tg F (frzS [i] U)) (y7 J tg F))
noncomputable def dcN:wp:=λ_=>some (.dct [] [])
noncomputable def dcO (n:Int) (b:Bool):wp:=λ_=>some (.dct [.inl n] [.bl b])
def evM (j:Nat) (g:NE):NE:=orO (mvE j) g
def iG (i:Nat) (k:wp) (g:NE) (R:wp):Cl:=orO (qX i k R) (lM i k g)
theorem EO (h:qX i k R U=some o):iG i k g R U=some o:=by
 unfold iG orO;rw[h]
def aO (K:Frag) (x:Str) (st:Stmt):Prop:=∃ (f:Addr) (oc:Value) (od an:Option Addr) (osl:Array (NM)) (kV doc pm cdv ct:Value),nsIn K mainGlobals x=some (some (.ref f))/\
 K.lookup f=some ⟨oc,od,.func (PySem.W.fnOf x x (bv st) (aN st) (am st) .none kV doc pm an cdv ct),osl⟩/\PySem.W.codeIn K cdv x=true/\PySem.W.keepIn K (.ref f)=true
def m8 (K:Frag) (C m qual:Str) (st:Stmt):Prop:=∃ (Ca f:Addr) (oc:Value) (od an:Option Addr) (osl:Array (NM)) (kV doc pm cdv ct:Value),nsIn K mainGlobals C=some (!24)/\findIn K (.ref Ca) m=some (some (.ref f))/\PySem.W.isFn K (.ref f)=true/\
 K.lookup f=some ⟨oc,od,.func (PySem.W.fnOf m qual (bv st) (aN st) (am st) .none kV doc pm an cdv ct),osl⟩/\PySem.W.codeIn K cdv qual=true/\PySem.W.keepIn K (.ref f)=true
structure TCls (K:Frag) (C:Str):Prop where
 ex:∃Ca:Addr,nsIn K mainGlobals C=some (!24)/\Cls K Ca/\PySem.W.makesIn K Ca=true/\PySem.W.keepIn K (.ref Ca)=true
section
variable {P:Program} {w:World} {K:Frag} {mg:Str->NM} {base:Heap}
noncomputable abbrev Hk (N:NP) (st:Stmt) (k:Nat) (G:Gb):Sn:=⟨N,(am st).names,k,G⟩
theorem vD {G:Gb} (g:GbOk P w K mg base G) {N ps:NP} {st:Stmt} {k:Nat} {qual:Str} {f:Addr} (S:FnScope N ps (am st)) (cdv:Value) (A:Around) (outer:List Env) (s:Shared) (H:Hp) (E:XK) (hr:Room k (A.deeper (envOfC qual (am st) s.heap.objs.size f cdv))):
  TnOk (oJ CX0 P w K mg base N qual (am st) f cdv A outer s H E).nox (Hk N st k G) where
 s:=⟨g,rfl,S.nd,rfl,hr,λ_ h=>h,λ_ h=>h,λ_ h=>.inr h,λ_ h=>h⟩
 fn:=λ_=>rfl
 nox:=rfl
 nm:=rfl
def dfn (n k:Nat) (N ps:NP) (st:Stmt) (G:Gb):ad:=aL ps.length N.length (exs n (Hk N st k G) (aN st))
def bU (x:Str) (st:Stmt) (ps:NP):Prop:=∀ (qual:Str) (kV doc pm:Value) (an:Option Addr) (cdv ct:Value) (us:NK),us.length=ps.length->bindArgs (PySem.W.fnOf x qual (bv st) (aN st) (am st) .none kV doc pm an cdv ct) ⟨us,[]⟩=pure (ps.zip us)
theorem Kx (g:GbOk P w K mg base G) (KX:K.In h) (hN:h.Ns mainGlobals mg) {st} (n k:Nat) (S:FnScope N ps (am st)) (b:bU x st ps) (t:aO K x st):Df P w K mg base x (k+1) (dfn n k N ps st G):=by
 obtain⟨f,oc,od,an,osl,kV,doc,pm,cdv,ct,h1,h2,h3,h4⟩:=t;have Fn:=oQ h2 h3 h4;refine⟨f,_,ps,PySem.W.mg_of KX hN h1,h4,Fn.binds λkV doc pm an cdv ct us hl=>b x kV doc pm an cdv ct us hl,Gq Fn S λcdv A outer s H E hr=>?_⟩;exact(Dl n).2 _ _ (vD g S cdv A outer s H E hr) _
theorem EQ (g:GbOk P w K mg base G) {st} (n k:Nat) (S:FnScope N ps (am st)) (b:bU m st ps) (c:TCls K C) (t:m8 K C m qual st):Mf P w K mg base C m (k+1) (dfn n k N ps st G):=by
 obtain⟨Ca,f,oc,od,an,osl,kV,doc,pm,cdv,ct,h0,hf,hi,h2,h3,h4⟩:=t;obtain⟨Cb,e0,cl,_,_⟩:=c.ex;rw[h0]at e0;cases e0;have Fn:=oQ h2 h3 h4;refine⟨Ca,f,_,ps,h0,cl,⟨hf,hi,h4⟩,Fn.binds λkV doc pm an cdv ct us hl=>b qual kV doc pm an cdv ct us hl,Gq Fn S λcdv A outer s H E hr=>?_⟩;exact(Dl n).2 _ _ (vD g S cdv A outer s H E hr) _
theorem Ky (g:GbOk P w K mg base G) (KX:K.In h) (hN:h.Ns mainGlobals mg) {st} (n k:Nat) (fl:Str->Bool) (S:FnScope N ps (am st)) (b:bU "__init__" st ps) (c:TCls K C) (t:m8 K C "__init__" qual st) (hfl:∀f,fl f=true->∀Ca,nsIn K mainGlobals C=some (!24)->NoAttr K Ca f) (hg:∀ds r,gg ds=some r->∀y,za ps.length N.length (λy=>inx n (Hk N st k G) y fl (aN st)) y ds=some r):Mkf P w K mg base C (k+1) gg:=by
 obtain⟨Ca,f,oc,od,an,osl,kV,doc,pm,cdv,ct,h0,hf,hi,h2,h3,h4⟩:=t;obtain⟨Cb,e0,cl,mk,kp⟩:=c.ex;rw[h0]at e0;cases e0;have Fn:=oQ h2 h3 h4;refine⟨Ca,f,_,ps,PySem.W.mg_of KX hN h0,h0,⟨mk,hf,hi,kp⟩,Fn.binds λkV doc pm an cdv ct us hl=>b qual kV doc pm an cdv ct us hl,L7 Fn S hg λy cdv A outer s H E hr=>?_⟩;exact Kv (vD g S cdv A outer s H E hr) cl (λf q=>hfl f q Ca h0) n _
end
def spL (K:Frag):Sp:=λvs H Q _=>∃ (a:Addr) (ns:NQ),vs=[.ref a]/\SqL K H a (ns.map V.int)/\ns.length<=63/\∀H',Q (.bl true) H'
theorem vE {K}:∀ (ns:NQ),IsL K H (ns.map D.int) (ns.map V.int)
 |[]=>rfl
 |n::ns=>⟨_,_,rfl,rfl,vE ns⟩
theorem Hl {K} (F:FnOk P w K mg base CX0 k a fd ps (spC K f)) (hf:∀ns:NQ,ns.length<=63->fD (f [.lst (ns.map D.int)])=some (.bl true)):
  FnOk P w K mg base CX0 k a fd ps (spL K):=F.imp λvs H Q E ⟨b,ns,e,h,hl,q⟩=>by
 obtain⟨⟨c,d⟩,e1,e2⟩:=Op (hf ns hl)
 cases e2
 refine⟨noO,[.lst _],_,λ_ h=>(nomatch h),?_,e1,λv H' r=>?_⟩
 ·rw[e,oZ];exact⟨_,[],rfl,⟨b,_,rfl,h,vE ns⟩,rfl⟩
 ·obtain⟨O',A,_,_,_,_,_,h6⟩:=r;have hv:v=.bl true:=by
   cases c with
   |sh=>exact h6.2
   |top=>obtain⟨_,_,_,z,_⟩:=h6;cases z
   |deep=>exact h6.1
  rw[hv];exact q H'
theorem walkL {l:PySem.W.OpenLaw} {K:Params->Frag} (hn:l.most=some 63) (hdf:d.params.defaults=[]) (hr:Room k callerA) (hY:∀ (w:World) (h:Heap),YP w h->(K w.params).In h) (F:∀ (w:World) (mg:Str->NM) (fa:Addr) (h:Heap),(K w.params).In h->h.Ns mainGlobals mg->mg d.name=some (.ref fa)->
   ∃fd:FuncData,(∀ (s:Shared) (u:Value),BindsTo s fd ⟨[u],[]⟩ [("script",u)])/\∀base:Heap,(K w.params).In base->base.Ns mainGlobals mg->FnOk l.prog w (K w.params) mg base CX0 k fa fd ["script"] (spL (K w.params))):
  PySem.W.WalkO q loose XP YP l.row.toRowW d [] (λf vs=>PySem.call f vs):=
 L2.walk_of hn (!4) hdf hr hY F (λ_ _ a ns hl _ hS=>⟨a,ns,rfl,hS,hl,λ_=>rfl⟩) λ_ _ _ _ _ z=>z
noncomputable def addF (G:Gb) (x:Str) (k:Nat) (f:ad):Gb:={G with fn:=λy=>if y=x then some (k,f)else G.fn y}
def addM (G:Gb) (m C:Str) (k:Nat) (f:ad):Gb:={G with mt:=λa b=>if a=m/\b=C then some (k,f)else G.mt a b}
def addI (G:Gb) (C:Str) (k:Nat) (g:NS->Option (List (Str×D))):Gb:={G with ini:=λy=>if y=C then some (k,g)else G.ini y}
section
variable {P:Program} {w:World} {K:Frag} {mg:Str->NM} {base:Heap} {G:Gb}
theorem GbOk.addF (g:GbOk P w K mg base G) (d:Df P w K mg base x k f):GbOk P w K mg base (addF G x k f):=⟨λy j h e=>by
 have e':(if y=x then some (k,f)else G.fn y)=some (j,h):=e;split at e'
 ·rename_i z;cases e';rw[z];exact d
 ·exact g.fn y j h e',g.cn,g.no,g.fl,g.mt,g.ini⟩
theorem GbOk.addM (g:GbOk P w K mg base G) (d:Mf P w K mg base C m k f):GbOk P w K mg base (addM G m C k f):=⟨g.fn,g.cn,g.no,g.fl,λa b j h e=>by
 have e':(if a=m/\b=C then some (k,f)else G.mt a b)=some (j,h):=e;split at e'
 ·rename_i z;cases e';rw[z.1,z.2];exact d
 ·exact g.mt a b j h e',g.ini⟩
theorem GbOk.addI (g:GbOk P w K mg base G) (d:Mkf P w K mg base C k gg):GbOk P w K mg base (addI G C k gg):=⟨g.fn,g.cn,g.no,g.fl,g.mt,λy j h e=>by
 have e':(if y=C then some (k,gg)else G.ini y)=some (j,h):=e;split at e'
 ·rename_i z;cases e';rw[z];exact d
 ·exact g.ini y j h e'⟩
end
theorem evX_lf {R L Sp} (h:R (vw U)=some d) (f:lfD d=true):evX R L Sp U=some ((.deep,d),U):=by
 unfold evX orO kh frX orO lfO;simp[h,f]
theorem evX_lfs {R L Sp} (h:R (vw U)=some d) (f:lfD d=false) (hl:L (vw U)=some ds) (fl:lfL ds=true):evX R L Sp U=some ((.deep,.lst ds),U):=by
 unfold evX orO kh frX orO lfO jd;simp[h,hl,f,fl]
theorem evX_call {R L Sp} (h:R (vw U)=some d) (f:lfD d=false) (hl:L (vw U)=none) (hs:Sp (vw U)=some e):evX R L Sp U=some ((.deep,e),U):=by
 unfold evX orO kh frX orO lfO jd;simp[h,hl,f,hs]
theorem uh {R L Sp} (h:R (vw U)=some d) (f:lfD d=false) (hl:L (vw U)=none) (hs:Sp (vw U)=none) (hl2:L (shv U)=none) (h2:R (shv U)=some d):evX R L Sp U=some ((.sh,d),U):=by
 unfold evX orO kh jV ph frX orO lfO jd;grind
theorem ak (h:F U=some (.nx U')):ae F G U=G U':=by unfold ae;rw[h];rfl
theorem aA (h:F U=some (.rt s)):ae F G U=some (.rt s):=by unfold ae;rw[h];rfl
theorem bV (h:g U=some (s,U')):aw i g U=some (.nx (U'.set i (some s))):=by unfold aw;rw[h];rfl
theorem aR (h:g U=some (s,U')):bP g U=some (.rt s):=by unfold bP;rw[h];rfl
theorem om (h:c (vw U)=some true):ifS c F G U=F U:=by unfold ifS;rw[h];rfl
theorem bW (h:c (vw U)=some false):ifS c F G U=G U:=by unfold ifS;rw[h];rfl
theorem iH {step}:∀ (ds:NS) (I:Nat->Ev->Prop) (U:Ev),I 0 U->(∀ (i:Nat) (d:D) (U:Ev),ds[i]?=some d->I i U->∃U',step d U=some (.nx U')/\I (i+1) U')->∃U',ip step ds U=some (.nx U')/\I ds.length U'
 |[],I,U,h0,_=>⟨U,rfl,h0⟩
 |d::ds,I,U,h0,hs=>by
  obtain⟨U1,e1,i1⟩:=hs 0 d U rfl h0;obtain⟨U2,e2,i2⟩:=iH ds (λi=>I (i+1)) U1 i1 λi d' U' h hi=>hs (i+1) d' U' (by simpa using h) hi;refine⟨U2,?_,i2⟩;unfold ip;rw[e1];exact e2
theorem cW (I:Nat->Ev->Prop) (hJ:J (shv U)=some ds) (h0:I 0 U) (hs:∀ (i:Nat) (d:D) (U:Ev),ds[i]?=some d->I i U->∃U',(tg d U).bind F=some (.nx U')/\I (i+1) U'):
  ∃U',frF J tg F U=some (.nx U')/\I ds.length U':=by
 obtain⟨U',e,i⟩:=iH (step:=pj tg F) ds I U h0 hs
 refine⟨U',?_,i⟩
 unfold frF orO gP
 grind
section
variable {U:Vv} {a b c:wp} {xs:qm} {i:Int} {n:Nat}
@[simp] theorem cI_a:cI i U=some (.int i):=rfl
@[simp] theorem NC {b}:cB b U=some (.bl b):=rfl
@[simp] theorem Ms:cN U=some .non:=rfl
@[simp] theorem cS_a {x:Str}:cS x U=some (.str x):=rfl
@[simp] theorem Mt:cD d U=some d:=rfl
@[simp] theorem Mu {n}:cT n U=some (.ty n):=rfl
@[simp] theorem Nn:(noV U:Option α)=none:=rfl
@[simp] theorem va_a:va n U=cf U n:=rfl
@[simp] theorem shAt_0 {d:NU} {r:Vv}:cf (d::r) 0=d:=by cases d<;>rfl
@[simp] theorem shAt_s {d:NU} {r:Vv} {n:Nat}:cf (d::r) (n+1)=cf r n:=by unfold cf;simp
@[simp] theorem shAt_1 {d e:NU} {r:Vv}:cf (d::e::r) 1=e:=by cases e<;>rfl
@[simp] theorem bin2_a {g}:ab g a b U=(a U).bind λx=>(b U).bind λy=>g x y:=rfl
@[simp] theorem vF:ngF a U=(a U).bind yR:=rfl
@[simp] theorem nilX_a:af U=some []:=rfl
@[simp] theorem consX_a:aa a xs U=(a U).bind λd=>(xs U).bind λr=>some (d::r):=rfl
@[simp] theorem ER:tpF xs U=(bC (xs U)).bind λds=>some (.tup ds):=rfl
@[simp] theorem ES:flF fl m a U=(a U).bind (ki fl m):=rfl
@[simp] theorem No:noP U=some none:=rfl
@[simp] theorem Lm:aH a U=(a U).bind λd=>(lJ d).bind λi=>some (some i):=rfl
@[simp] theorem lsF_a {L}:lsF L U=(L U).map D.lst:=rfl
theorem l7 {f g:α->Option β} (h:g x=none):orO f g x=f x:=by
 unfold orO;cases f x<;>simp[h]
@[simp] theorem clF_a {f}:clF f xs U=(xs U).bind λds=>fD (f ds):=l7 rfl
@[simp] theorem biF_a {f}:biF f xs U=(xs U).bind f:=l7 rfl
@[simp] theorem ET:mkF C g xs U=(xs U).bind λds=>CG C (g ds):=l7 rfl
@[simp] theorem Np {mt k m}:meF a xs mt k m U=fD ((a U).bind λd=>(xs U).bind λas=>nY mt k m d as):=rfl
@[simp] theorem dpF_a:dpF xs U=bC (xs U):=rfl
@[simp] theorem Nq:l1F xs U=(xs U).bind nT:=rfl
@[simp] theorem Nr:liF xs U=((xs U).bind nT).map D.lst:=by
 unfold liF orO;have:((xs U).bind noD)=none:=by cases xs U<;>rfl
 simp[this]
@[simp] theorem trF_a:trF a U=(a U).bind wG:=rfl
@[simp] theorem tQ_a:tQ U=some true:=rfl
@[simp] theorem fCl_a {f}:fCl f xs U=(xs U).bind λds=>qT (f ds):=rfl
@[simp] theorem Nt:fNo xs U=none:=by unfold fNo noD;cases xs U<;>rfl
@[simp] theorem Nu:fLs F U=(bC (F U)).bind λds=>some (.lst ds):=rfl
@[simp] theorem Nv:fTp F U=(bC (F U)).bind λds=>some (.tup ds):=rfl
@[simp] theorem cX:jX noV R U=(R U).bind seqD:=rfl
theorem gw (h:(xs U).bind lK=some ds):jX (r1F xs) R U=some ds:=by
 unfold jX orO r1F;simp[h]
theorem vG (h:(xs U).bind wM=some ds):jX (zpF xs) R U=some ds:=by
 unfold jX orO zpF;simp[h]
@[simp] theorem Am:ke a b U=(a U).bind λx=>x.asB.bind λc=>if c=true then b U else some (.bl false):=rfl
@[simp] theorem Nw:orF a b U=(a U).bind λx=>x.asB.bind λc=>if c=true then some (.bl true)else b U:=rfl
@[simp] theorem Mv:Cc a U=(a U).bind λx=>x.asB.bind λc=>some (.bl (!c)):=rfl
@[simp] theorem andQ_a {p q:Fr}:mX p q U=(p U).bind λc=>if c=true then q U else some false:=rfl
@[simp] theorem EU:orQ p q U=(p U).bind λc=>if c=true then some true else q U:=rfl
@[simp] theorem notQ_a {p:Fr}:ci p U=(p U).map (!·):=rfl
@[simp] theorem EV:ifF p a b U=(p U).bind λc=>if c=true then a U else b U:=rfl
@[simp] theorem testB_a:av a U=(a U).bind D.asB:=rfl
@[simp] theorem Kz:cP g g' a b c U=(a U).bind λx=>(b U).bind λy=>(g x y).bind λz=>z.asB.bind λk=>if k=true then(c U).bind λw=>g' y w else some (.bl false):=rfl
end
@[simp] theorem asB_bl (b:Bool):D.asB (.bl b)=some b:=rfl
@[simp] theorem valO_some (s:Sl):fD (some s)=some s.2:=rfl
@[simp] theorem ui (d:D):qT (some (.deep,d))=some d:=rfl
@[simp] theorem addD_ii (i j:Int):aG (.int i) (.int j)=some (.int (i+j)):=rfl
@[simp] theorem subD_ii (i j:Int):bE (.int i) (.int j)=some (.int (i-j)):=rfl
@[simp] theorem Mw (i j:Int):ltD (.int i) (.int j)=some (.bl (decide (i<j))):=rfl
@[simp] theorem Hn (i j:Int):leD (.int i) (.int j)=some (.bl (decide (i<=j))):=rfl
@[simp] theorem Ho (i j:Int):gtD (.int i) (.int j)=some (.bl (decide (j<i))):=rfl
@[simp] theorem Mx (i j:Int):geD (.int i) (.int j)=some (.bl (decide (j<=i))):=rfl
@[simp] theorem pQ (i:Int):yR (.int i)=some (.int (-i)):=rfl
@[simp] theorem Hq (i:Int):lJ (.int i)=some i:=rfl
@[simp] theorem Hr (ds:NS):seqD (.lst ds)=some ds:=rfl
@[simp] theorem My (ds:NS):seqD (.tup ds)=some ds:=rfl
@[simp] theorem dP (d:D):bn [d]=(seqD d).bind λds=>some (.int ds.length):=rfl
@[simp] theorem Ln (d:D):nT [d]=seqD d:=rfl
@[simp] theorem KA (d:D):bK [d]=(seqD d).bind λds=>some (.tup ds):=rfl
@[simp] theorem Hs (i j:Int):Cq [.int i,.int j]=some (.int (if j>i then j else i)):=rfl
@[simp] theorem Ht (i j:Int):yS [.int i,.int j]=some (.int (if j<i then j else i)):=rfl
@[simp] theorem truD_bl (b:Bool):wG (.bl b)=some b:=rfl
theorem vH (h:CMul i j):aQ (.int i) (.int j)=some (.int (i*j)):=by unfold aQ;simp[h]
theorem pR (h:-18446744073709551616<i) (h2:i<18446744073709551616):aQ (.int i) (.int j)=some (.int (i*j)):=vH (.inl ⟨by omega,by omega⟩)
theorem Hu (h:-18446744073709551616<j) (h2:j<18446744073709551616):aQ (.int i) (.int j)=some (.int (i*j)):=vH (.inr ⟨by omega,by omega⟩)
theorem An (h:0<j) (h2:j.natAbs.log2<9000):eZ (.int i) (.int j)=some (.int (i/j)):=by unfold eZ;exact if_pos ⟨h,h2⟩
theorem eN (h:0<j) (h2:j<1073741824):eZ (.int i) (.int j)=some (.int (i/j)):=An h (Nat.lt_trans ((Nat.log2_lt (!1)).mpr (show j.natAbs<2^30 by omega)) (!4))
theorem vI (h:0<j):bd (.int i) (.int j)=some (.int (i%j)):=by unfold bd;simp[h]
@[simp] theorem Dm (i:Int):lfD (.int i)=true:=rfl
@[simp] theorem Mz (b:Bool):lfD (.bl b)=true:=rfl
@[simp] theorem Lo (x:Str):lfD (.str x)=true:=rfl
@[simp] theorem Lp:lfD .non=true:=rfl
@[simp] theorem Lq (ds:NS):lfD (.lst ds)=false:=rfl
@[simp] theorem Lr (ds:NS):lfD (.tup ds)=lfL ds:=rfl
@[simp] theorem Ls:lfL []=true:=rfl
@[simp] theorem Ao (d:D) (ds:NS):lfL (d::ds)=(lfD d&&lfL ds):=rfl
theorem bI:∀ {ds:NS},(∀d∈ds,lfD d=true)->lfL ds=true
 |[],_=>rfl
 |d::ds,h=>by simp[h d mem_cons_self,bI λe he=>h e (mem_cons_of_mem _ he)]
@[simp] theorem IL:bC none=none:=rfl
theorem cY (h:ds.length<big):bC (some ds)=some ds:=by unfold bC;simp[h]
@[simp] theorem MA:bC (some [])=some []:=cY (!4)
@[simp] theorem capL_1 (a:D):bC (some [a])=some [a]:=cY (show 1<big by decide)
@[simp] theorem capL_2 (a b:D):bC (some [a,b])=some [a,b]:=cY (show 2<big by decide)
@[simp] theorem MB (a b c d e:D):bC (some [a,b,c,d,e])=some [a,b,c,d,e]:=cY (show 5<big by decide)
@[simp] theorem uj (a b c d e f g h:D):bC (some [a,b,c,d,e,f,g,h])=some [a,b,c,d,e,f,g,h]:=cY (show 8<big by decide)
@[simp] theorem KC (d c:D):ff [d,c]=(bR d).bind λT=>(lI c).bind λns=>some (.bl (ns.any (isI T))):=rfl
@[simp] theorem Lu:lI (.ty "int")=some ["int"]:=by rfl
@[simp] theorem KD:lI (.ty "bool")=some ["bool"]:=by rfl
@[simp] theorem Lv:lI (.ty "str")=some ["str"]:=by rfl
@[simp] theorem KE:lI (.ty "list")=some ["list"]:=by rfl
@[simp] theorem IM:lI (.ty "tuple")=some ["tuple"]:=by rfl
@[simp] theorem Hv:lI (.tup [.ty "list",.ty "tuple"])=some ["list","tuple"]:=by rfl
@[simp] theorem MC (i:Int):bR (.int i)=some "int":=rfl
@[simp] theorem Nx (i:Bool):bR (.bl i)=some "bool":=rfl
@[simp] theorem MD (i:Str):bR (.str i)=some "str":=rfl
@[simp] theorem ME (i:NS):bR (.tup i)=some "tuple":=rfl
@[simp] theorem MF (i:NS):bR (.lst i)=some "list":=rfl
@[simp] theorem MG:isI "int" "int"=true:=by decide
@[simp] theorem MJ:isI "int" "bool"=false:=by decide
@[simp] theorem MK:isI "bool" "bool"=true:=by decide
@[simp] theorem ML:isI "bool" "int"=true:=by decide
@[simp] theorem MM:isI "tuple" "list"=false:=by decide
@[simp] theorem MN:isI "tuple" "tuple"=true:=by decide
@[simp] theorem Hw:isI "list" "list"=true:=by decide
@[simp] theorem MO:isI "list" "tuple"=false:=by decide
@[simp] theorem MP:isI "str" "str"=true:=by decide
@[simp] theorem j3 (neg:Bool) (i j:Int):aK neg (.int i) (.int j)=some (.bl (if neg then !decide (i=j)else decide (i=j))):=by
 unfold aK jU;have:decide (toV (.int i)=toV (.int j))=decide (i=j):=by
  show decide (V.int i=V.int j)=_;by_cases h:i=j<;>simp[h]
 rw[this];rfl
@[simp] theorem Ap (neg:Bool) (i j:Str):aK neg (.str i) (.str j)=some (.bl (if neg then !decide (i=j)else decide (i=j))):=by
 unfold aK jU;have:decide (toV (.str i)=toV (.str j))=decide (i=j):=by
  show decide (V.str i=V.str j)=_;by_cases h:i=j<;>simp[h]
 rw[this];rfl
@[simp] theorem eq_bb (neg:Bool) (i j:Bool):aK neg (.bl i) (.bl j)=some (.bl (if neg then !decide (i=j)else decide (i=j))):=by
 unfold aK jU;have:decide (toV (.bl i)=toV (.bl j))=decide (i=j):=by
  show decide (V.bl i=V.bl j)=_;by_cases h:i=j<;>simp[h]
 rw[this];rfl
@[simp] theorem Dn (ds:NS) (i:Int):ixD (.lst ds) (.int i)=atI ds i:=rfl
@[simp] theorem ND (ds:NS) (i:Int):ixD (.tup ds) (.int i)=atI ds i:=rfl
theorem pS {d:D} (h:0<=i) (h2:ds[i.toNat]?=some d):atI ds i=some d:=by
 have hl:=(N4.mp h2).1;unfold atI ixN;grind
@[simp] theorem rD (d:D) (ds:NS):atI (d::ds) 0=some d:=pS (!1) rfl
@[simp] theorem vJ (c d:D) (ds:NS):atI (c::d::ds) 1=some d:=pS (!1) rfl
@[simp] theorem vw_nil:vw []=[]:=rfl
@[simp] theorem vw_some (s:Sl) (U:Ev):vw (some s::U)=some s.2::vw U:=rfl
@[simp] theorem vw_none (U:Ev):vw (none::U)=none::vw U:=rfl
@[simp] theorem eO:shv []=[]:=rfl
@[simp] theorem gS (d:D) (U:Ev):shv (some (.sh,d)::U)=some d::shv U:=rfl
@[simp] theorem dk (U:Ev):shv (none::U)=none::shv U:=rfl
@[simp] theorem fG (d:D) (U:Ev):shv (some (.deep,d)::U)=(if lfD d=true then some d else none)::shv U:=rfl
@[simp] theorem Do (d:D) (U:Ev):shv (some (.top,d)::U)=(if lfD d=true then some d else none)::shv U:=rfl
@[simp] theorem wipe_nil {α:Type} (Y:List (Option α)):d4 [] Y=Y:=rfl
@[simp] theorem wipe_cons {α:Type} (k:Nat) (ks:NO) (Y:List (Option α)):d4 (k::ks) Y=d4 ks (Y.set k none):=rfl
@[simp] theorem gNm_a (i:Nat) (d:D) (U:Vv):gNm i d U=some (U.set i (some d)):=rfl
@[simp] theorem KF (n:Nat) (gs) (ds:NS) (U:Vv):gTp n gs (.tup ds) U=if ds.length=n then gs ds U else none:=rfl
@[simp] theorem Aq (g gs) (d:D) (ds:NS) (U:Vv):ao g gs (d::ds) U=(g d U).bind λU1=>gs ds U1:=rfl
@[simp] theorem Dp (U:Vv):aX [] U=some U:=rfl
@[simp] theorem Ny (i:Nat) (d:D) (U:Ev):eNm i d U=some (U.set i (some (.sh,d))):=rfl
@[simp] theorem Nz (n:Nat) (gs) (ds:NS) (U:Ev):eTp n gs (.tup ds) U=if ds.length=n then gs ds U else none:=rfl
@[simp] theorem Lw (g gs) (d:D) (ds:NS) (U:Ev):dF g gs (d::ds) U=(g d U).bind λU1=>gs ds U1:=rfl
@[simp] theorem MQ (U:Ev):pi [] U=some U:=rfl
@[simp] theorem stepF_a (g ft fe) (U:Vv) (d:D):jT g ft fe U d=(g d U).bind λU1=>(ft U1).bind λc=>if c=true then(fe U1).bind λy=>some (some y)else some none:=rfl
theorem aq (hl:ds.length=n) (h:F (ax m ds)=some (.rt s)):aL n m F ds=some s:=by
 unfold aL;rw[if_pos hl,h];rfl
theorem fH (hl:ds.length=n) (h:F (ax m ds)=some (.nx U)):aL n m F ds=some (.deep,.non):=by
 unfold aL;rw[if_pos hl,h];rfl
@[simp] theorem NA (U:Ev):nxE U=some (.nx U):=rfl
theorem l8 {β:Type} {step} {mk out}:∀ (xs:List β),(∀x∈xs,step (mk x)=some (some (out x)))->gu step (xs.map mk)=some (xs.map out)
 |[],_=>rfl
 |x::xs,h=>by
  rw[List.map_cons];unfold gu;rw[h x mem_cons_self,l8 xs λe he=>h e (mem_cons_of_mem _ he)];rfl
theorem aC {β:Type} {U:Vv} {xs:List β} {mk out} (hJ:J U=some (xs.map mk)) (h:∀x∈xs,jT g ft fe (d4 ks U) (mk x)=some (some (out x))) (hl:xs.length<big):aj ks J g ft fe U=some (xs.map out):=by
 unfold aj;rw[hJ];simp only[Option.bind_some];rw[l8 xs h];unfold bC;simp[hl]
theorem gA {β:Type} {step} {mk out} {p:β->Bool}:∀ (xs:List β),(∀x∈xs,step (mk x)=some (if p x then some (out x)else none))->gu step (xs.map mk)=some ((xs.filter p).map out)
 |[],_=>rfl
 |x::xs,h=>by
  rw[List.map_cons];unfold gu;rw[h x mem_cons_self,gA xs λe he=>h e (mem_cons_of_mem _ he)];cases hp:p x<;>simp[hp]
theorem gB {β:Type} {U:Vv} {xs:List β} {mk out} {p:β->Bool} (hJ:J U=some (xs.map mk)) (h:∀x∈xs,jT g ft fe (d4 ks U) (mk x)=some (if p x then some (out x)else none)) (hl:xs.length<big):aj ks J g ft fe U=some ((xs.filter p).map out):=by
 unfold aj;rw[hJ];simp only[Option.bind_some];rw[gA xs h];unfold bC;grind
theorem l9:∀bs:List Bool,wH (bs.map D.bl)=some bs
 |[]=>rfl
 |b::bs=>by
  rw[List.map_cons];unfold wH;rw[l9 bs];rfl
theorem dm {β:Type} (xs:List β) (p:β->Bool):lG [.lst (xs.map λx=>.bl (p x))]=some (.bl (xs.all p)):=by
 have e:xs.map (λx=>D.bl (p x))=(xs.map p).map D.bl:=by rw[List.map_map];rfl
 rw[e];unfold lG un1;simp only[fu,Option.bind_some];rw[l9];simp[List.all_map];rfl
theorem Hx (h:-1000000<j) (h2:j<1000000):inR j:=by
 exact⟨by omega,by omega⟩
theorem Dq (hj:inR j):lK [.int j]=some (kf 0 j.toNat):=by
 unfold lK un1;simp_all
theorem vK {n:Nat} (h:n<1000000):inR (n:Int):=Hx (!1) (!1)
theorem Ar:kf 0 n=(!6).map λ(i:Nat)=>D.int (i:Int):=by simp[kf]
theorem bF {n:Nat} (h:n<1000000):lK [.int (n:Int)]=some ((!6).map λ(i:Nat)=>D.int (i:Int)):=by
 rw[Dq (vK h),Int.toNat_natCast,Ar]
theorem atI_mapN {β:Type} {xs:List β} {mk:β->D} {i:Nat} {x} (h:xs[i]?=some x):atI (xs.map mk) (i:Int)=some (mk x):=by
 exact pS (!1) (by simp[h])
theorem iI (h1:seqD a=some xs) (h2:seqD b=some ys):wM [a,b]=some (fz xs ys):=by
 unfold wM un2;simp[h1,h2]
theorem gT {β γ:Type} {f} {g} (xs:List β) (ys:List γ):fz (xs.map f) (ys.map g)=(xs.zip ys).map λp=>.tup [f p.1,g p.2]:=by
 unfold fz;rw[List.zip_map,List.map_map];rfl
theorem appF_deep (h0:ownL U i=some (c0,ds0)) (h:g U=some ((.deep,d),U')) (ho:ownL U' i=some (.deep,ds)) (hl:ds.length+1<big):gi i g U=some (.nx (U'.set i (some (.deep,.lst (ds++[d]))))):=by
 unfold gi;rw[h0];simp only[Option.bind_some,h,ho];rw[if_pos hl];rfl
theorem xj (h0:ownL U i=some (c0,ds0)) (h:g U=some ((.deep,d),U')) (ho:ownL U' i=some (.deep,ds)) (hl:ds.length+1<big):pP i k g R U=some (.nx (U'.set i (some (.deep,.lst (ds++[d]))))):=by
 unfold pP orO;rw[appF_deep h0 h ho hl]
theorem rE {k:Int} (h:g U=some ((.deep,d),U')) (ho:ownL U' i=some (.deep,ds)) (hk:fk (vw U')=some (.int k)) (h0:0<=k) (hl:k<ds.length):lM i fk g U=some (.nx (U'.set i (some (.deep,.lst (ds.set k.toNat d))))):=by
 unfold lM;rw[h];simp only[Option.bind_some,ho,hk];have:ixN ds.length k=some k.toNat:=by unfold ixN;rw[if_pos h0,if_pos hl]
 rw[this];rfl
def rF:Cl:=(ae (bP (evX (ke (biF ff (aa (va 0) (aa (cT "int") af))) (ke (Cc (biF ff (aa (va 0) (aa (cT "bool") af)))) (cP leD leD (va 1) (va 0) (va 2)))) noV noV)) nxE)
def j4 (ay:ad):Cl:=(ae (ifS (orQ (ci (trF (biF ff (aa (va 0) (aa (cT "tuple") af))))) (av (ab (aK true) (biF bn (!23)) (cI 2)))) (ae (bP (evX (cB false) noV noV)) nxE) nxE) (ae (bP (evX (ke (ab inD (ab ixD (va 0) (cI 0)) (cD (.tup [(.str "queue"),(.str "pile")]))) (clF ay (aa (ab ixD (va 0) (cI 1)) (aa (cI 0) (aa (cD (.int 9)) af))))) noV noV)) nxE))
def oo (cL:ad):Cl:=(ae (ifS (orQ (ci (trF (biF ff (aa (va 0) (aa (tpF (aa (cT "list") (aa (cT "tuple") af))) af))))) (ci (av (cP leD leD (cI 1) (biF bn (!23)) (cD (.int 6)))))) (ae (bP (evX (cB false) noV noV)) nxE) nxE) (ae (bP (evX (biF lG (aa (lsF (aj [1] (jX noV (va 0)) (gNm 1) tQ (clF cL (aa (va 1) af)))) af)) noV (fNo (aa (lsF (aj [1] (jX noV (va 0)) (gNm 1) tQ (clF cL (aa (va 1) af)))) af)))) nxE))
def uk:Cl:=(ae (aw 1 (evX (cI 1) noV noV)) (ae (frF (jX noV (va 0)) (eNm 2) (ae (aw 1 (evX (ab aQ (va 1) (biF bn (!21))) noV noV)) nxE)) (ae (rtN 1) nxE)))
def pT (bg:ad) (f9:ad):Cl:=(ae (ifS (orQ (ci (trF (biF ff (aa (va 0) (aa (tpF (aa (cT "list") (aa (cT "tuple") af))) af))))) (av (ab gtD (biF bn (!23)) (cD (.int 6))))) (ae (bP (evX (cB false) noV noV)) nxE) nxE) (ae (bP (evX (ke (biF lG (aa (lsF (aj [1] (jX noV (va 0)) (gNm 1) tQ (clF f9 (aa (va 1) af)))) af)) (ab leD (clF bg (!23)) (cD (.int 1000)))) noV noV)) nxE))
def ul (bX:ad) (y:Addr):InF:=(stI (ifS (ci (trF (clF bX (aa (va 1) af)))) (ae noO' nxE) nxE) (CJ y 0 "passes" (evX (biF bK (aa (lsF (aj [2] (jX noV (va 1)) (gNm 2) tQ (biF bK (!21)))) af)) noV (fNo (aa (lsF (aj [2] (jX noV (va 1)) (gNm 2) tQ (biF bK (!21)))) af))) CI))
def rG (fl:Str->Str->Bool):Cl:=(ae (bP (evX (biF bn (aa (!8) af)) noV (fNo (aa (!8) af)))) nxE)
def xk (mt_many:MT) (kk:Nat) (ay:ad):Cl:=(ae (bP (evX (clF ay (aa (va 1) (aa (cI 0) (aa (meF (va 0) af mt_many kk "many") af)))) noV (fCl ay (aa (va 1) (aa (cI 0) (aa (meF (va 0) af mt_many kk "many") af)))))) nxE)
def xm (ay:ad) (fl:Str->Str->Bool):Cl:=(ae (aw 3 (evX (slF (!8) (aH (va 1)) noP) (kg (!8) (aH (va 1)) noP) noV)) (ae (ifS (orQ (ci (trF (biF ff (aa (va 2) (aa (cT "tuple") af))))) (av (ab (aK true) (biF bn (!21)) (biF bn (!27))))) (ae (bP (evX (cB false) noV noV)) nxE) nxE) (ae (bP (evX (biF lG (aa (lsF (aj [4,5] (jX (zpF (aa (va 2) (!27))) (biF noD (aa (va 2) (!27)))) (gTp 2 (ao (gNm 4) (ao (gNm 5) aX))) tQ (clF ay (aa (va 4) (aa (cI 0) (aa (ab bE (biF bn (aa (va 5) af)) (cI 1)) af)))))) af)) noV (fNo (aa (lsF (aj [4,5] (jX (zpF (aa (va 2) (!27))) (biF noD (aa (va 2) (!27)))) (gTp 2 (ao (gNm 4) (ao (gNm 5) aX))) tQ (clF ay (aa (va 4) (aa (cI 0) (aa (ab bE (biF bn (aa (va 5) af)) (cI 1)) af)))))) af)))) nxE)))
def mf (c8:ad):Cl:=(ae (ifS (ci (trF (clF c8 (aa (va 0) (aa (va 1) af))))) (ae noO' nxE) nxE) nxE)
def mh (db:ad) (aZ:ad):Cl:=(ae (fB (clF aZ (aa (va 0) (aa (va 1) af)))) (ae (ifS (ci (trF (clF db (aa (va 0) (aa (va 1) (!21)))))) (ae noO' nxE) nxE) nxE))
def pU (fl:Str->Str->Bool):Cl:=(ae (bP (evX (lsF (aj [3,4] (jX (zpF (aa (va 2) (aa (slF (!8) (aH (va 1)) noP) af))) (biF noD (aa (va 2) (aa (slF (!8) (aH (va 1)) noP) af)))) (gTp 2 (ao (gNm 3) (ao (gNm 4) aX))) tQ (ab ixD (va 4) (va 3)))) (aj [3,4] (jX (zpF (aa (va 2) (aa (slF (!8) (aH (va 1)) noP) af))) (biF noD (aa (va 2) (aa (slF (!8) (aH (va 1)) noP) af)))) (gTp 2 (ao (gNm 3) (ao (gNm 4) aX))) tQ (ab ixD (va 4) (va 3))) (fCo [3,4] (jX (zpF (aa (va 2) (aa (slF (!8) (aH (va 1)) noP) af))) (biF noD (aa (va 2) (aa (slF (!8) (aH (va 1)) noP) af)))) (gTp 2 (ao (gNm 3) (ao (gNm 4) aX))) tQ (frX (ab ixD (va 4) (va 3)) noV noV)))) nxE)
def Hy:Cl:=(ae (bP (evX (ifF (av (ab (!29) (va 0) (cS "queue"))) (va 2) (ab bE (ab bE (va 1) (cI 1)) (va 2))) noV noV)) nxE)
def xo (ay:ad):Cl:=(ae (bP (evX (clF ay (aa (va 0) (aa (cI 1) (aa (cD (.int 9)) af)))) noV (fCl ay (aa (va 0) (aa (cI 1) (aa (cD (.int 9)) af)))))) nxE)
def Hz (bZ:ad) (c9:ad) (bY:ad):Cl:=(ae (fB (clF bY (aa (va 0) (aa (va 1) (!21))))) (ae (ifS (ci (trF (clF c9 (!27)))) (ae noO' nxE) nxE) (ae (bP (evX (biF lG (aa (lsF (aj [4,5] (jX noV (clF bZ (aa (va 0) (aa (va 1) (!21))))) (gTp 2 (ao (gNm 4) (ao (gNm 5) aX))) tQ (ab leD (va 3) (va 5)))) af)) noV (fNo (aa (lsF (aj [4,5] (jX noV (clF bZ (aa (va 0) (aa (va 1) (!21))))) (gTp 2 (ao (gNm 4) (ao (gNm 5) aX))) tQ (ab leD (va 3) (va 5)))) af)))) nxE)))
abbrev Pk:=Bool×Int
abbrev _root_.NF:=List (List Pk)
noncomputable def kd (q:Bool):Str:=if q then"queue"else"pile"
def pkD (p:Pk):D:=.tup [.str (kd p.1),.int p.2]
noncomputable def okK (p:Pk):Bool:=decide (0<=p.2)&&decide (p.2<=9)
noncomputable def sq (w:Bool) (ds:NS):D:=if w then .lst ds else .tup ds
@[simp] theorem kR (w:Bool) (ds:NS):seqD (sq w ds)=some ds:=by cases w<;>rfl
@[simp] theorem MR (w:Bool) (ds:NS):ff [sq w ds,.tup [.ty "list",.ty "tuple"]]=some (.bl true):=by cases w<;>simp[sq]
theorem KG (p:Pk):lfD (pkD p)=true:=rfl
theorem HA (ps:List Pk):lfL (ps.map pkD)=true:=bI λd hd=>by
 obtain⟨p,_,rfl⟩:=Oc.mp hd;exact KG p
def tpD (ps:List Pk):D:=.tup (ps.map pkD)
theorem lf_tp (ps:List Pk):lfD (tpD ps)=true:=HA ps
theorem um (pss:NF):lfL (pss.map tpD)=true:=bI λd hd=>by
 obtain⟨p,_,rfl⟩:=Oc.mp hd;exact lf_tp p
def dG (f:ad):Prop:=∀v a b:Int,f [.int v,.int a,.int b]=some (.deep,.bl (decide (a<=v)&&decide (v<=b)))
theorem As:dG (aL 3 3 rF):=λv a b=>by
 refine aq rfl ?_;refine aA (aR (evX_lf ?_ rfl));simp[ax];grind
def vL (f:ad):Prop:=∀v:Int,f [.int v]=some (.deep,.bl (decide (1<=v)&&decide (v<=9)))
theorem HB (hw:dG w):vL (aL 1 1 (xo w)):=λv=>by
 refine aq rfl ?_;refine aA (aR (evX_lf ?_ rfl));simp[ax,hw v 1 9]
theorem KH (q:Bool):inD (.str (kd q)) (.tup [.str "queue",.str "pile"])=some (.bl true):=by
 cases q<;>kernel_rfl
def pV (f:ad):Prop:=∀p:Pk,f [pkD p]=some (.deep,.bl (okK p))
theorem At (hw:dG w):pV (aL 1 1 (j4 w)):=λp=>by
 refine aq rfl ?_;unfold j4 pkD;refine(ak (U':=ax 1 [.tup [.str (kd p.1),.int p.2]]) ?_).trans ?_
 ·refine(bW ?_).trans rfl;simp[ax]
 ·refine aA (aR (evX_lf ?_ rfl));simp[ax,hw p.2 0 9,KH,okK]
def okP (ps:List Pk):Bool:=decide (1<=ps.length)&&decide (ps.length<=6)&&ps.all okK
def Au (f:ad):Prop:=∀ (w:Bool) (ps:List Pk),ps.length<1000->f [sq w (ps.map pkD)]=some (.deep,.bl (okP ps))
theorem HC (hg:pV g):Au (aL 1 2 (oo g)):=λw ps hlen=>by
 refine aq rfl ?_;unfold oo okP;have hc:cP leD leD (cI 1) (biF bn (!23)) (cD (.int 6)) [some (sq w (ps.map pkD)),none]=some (.bl (decide (1<=ps.length)&&decide (ps.length<=6))):=by
  by_cases h:1<=ps.length
  ·have h':(1:Int)<=(ps.length:Int):=by omega
   simp[h,h'];omega
  ·have h':¬ (1:Int)<=(ps.length:Int):=by omega
   simp[h,h']
 have hi:biF ff (aa (va 0) (aa (tpF (aa (cT "list") (aa (cT "tuple") af))) af)) [some (sq w (ps.map pkD)),none]=some (.bl true):=by
  cases w<;>simp[sq]
 have hT:orQ (ci (trF (biF ff (aa (va 0) (aa (tpF (aa (cT "list") (aa (cT "tuple") af))) af))))) (ci (av (cP leD leD (cI 1) (biF bn (!23)) (cD (.int 6))))) [some (sq w (ps.map pkD)),none]=some (!(decide (1<=ps.length)&&decide (ps.length<=6))):=by
  rw[EU,notQ_a,trF_a,hi,notQ_a,testB_a,hc];rfl
 cases hb:(decide (1<=ps.length)&&decide (ps.length<=6))with
 |false=>
  rw[hb]at hT;exact aA ((om hT).trans (aA (aR (evX_lf rfl rfl))))
 |true=>
  rw[hb]at hT;refine(ak ((bW hT).trans rfl)).trans ?_;refine aA (aR (evX_lf ?_ rfl));have hm:aj [1] (jX noV (va 0)) (gNm 1) tQ (clF g (aa (va 1) af)) [some (sq w (ps.map pkD)),none]=some (ps.map λp=>.bl (okK p)):=by
   refine aC (mk:=pkD) (by simp) (λp _=>?_) (Nat.lt_trans hlen (!4));simp[hg p]
  simp[ax,hm,dm]
abbrev Ps:=List (Bool×List Pk)
def paD (p:Bool×List Pk):D:=sq p.1 (p.2.map pkD)
noncomputable def prod:NF->Nat
 |[]=>1
 |p::r=>p.length*prod r
theorem cJ:∀a b:NF,prod (a++b)=prod a*prod b
 |[],b=>by simp[prod]
 |p::a,b=>by simp only[List.cons_append,prod,cJ a b,Nat.mul_assoc]
theorem bi (a:NF) (p:List Pk):prod (a++[p])=prod a*p.length:=by rw[cJ];simp[prod]
theorem pW (h:-1000000<j) (h2:j<1000000):-18446744073709551616<j/\j<18446744073709551616:=by grind
theorem eQ (h:-1000000<j) (h2:j<1000000):aQ (.int i) (.int j)=some (.int (i*j)):=Hu (pW h h2).1 (pW h h2).2
theorem Av {n:Nat} (h:n<1000):aQ (.int i) (.int (n:Int))=some (.int (i*n)):=eQ (!1) (!1)
def gU (f:ad):Prop:=∀ (w:Bool) (pss:Ps),(∀p∈pss,p.2.length<1000)->f [sq w (pss.map paD)]=some (.deep,.int (prod (pss.map (·.2)):Nat))
theorem uo (A:D) (n:Nat) (p:Bool×List Pk) (hL:p.2.length<1000):
 evX (ab aQ (va 1) (biF bn (!21))) noV noV [some (.sh,A),some (.deep,.int n),some (.sh,paD p)]=some ((.deep,.int (n*p.2.length:Nat)),[some (.sh,A),some (.deep,.int n),some (.sh,paD p)]):=by
 refine evX_lf ?_ rfl
 have e1:(seqD (paD p))=some _:=kR _ _
 simp[e1]
 rw[Av hL]
theorem xp (pss:Ps) (i:Nat) (p) (hp:pss[i]?=some p):prod ((pss.take (i+1)).map (·.2))=prod ((pss.take i).map (·.2))*p.2.length:=by
 rw[List.take_succ,hp];simp[bi]
theorem Dr:gU (aL 1 3 uk):=λw pss hl=>by
  refine aq rfl ?_;refine(ak (bV (evX_lf rfl rfl))).trans ?_;have L:=cW (J:=jX noV (va 0)) (tg:=eNm 2) (F:=ae (aw 1 (evX (ab aQ (va 1) (biF bn _)) noV noV)) nxE) (ds:=pss.map paD)
   
    (λi U=>∃o,U=[some (.sh,sq w (pss.map paD)),some (.deep,.int (prod ((pss.take i).map (·.2)):Nat)),o]) (by simp[ax]) ⟨none,rfl⟩ (by
      rintro i d U hd ⟨o,rfl⟩;rw[getElem?_map]at hd;cases hp:pss[i]? with
      |none=>rw[hp]at hd;cases hd
      |some p=>
        rw[hp]at hd;cases hd;have hL:=hl p (Ol hp);rw[xp pss i p hp];exact⟨_,ak (bV (uo (sq w _) _ p hL)),⟨some _,rfl⟩⟩)
  obtain⟨U',e,o,rfl⟩:=L;refine(ak e).trans (aA ?_);simp[rtN,io]
structure Valid (pss:NF):Prop where
 len:pss.length<=6
 each:∀p∈pss,okP p=true
 codes:prod pss<=1000
theorem Valid.p (h:Valid pss) {p:List Pk} (hp:p∈pss):1<=p.length/\p.length<=6/\∀k∈p,0<=k.2/\k.2<=9:=by
 have:=h.each p hp;unfold okP at this;rw[and_eq_true,and_eq_true,List.all_eq_true]at this;refine⟨N7 this.1.1,N7 this.1.2,λk hk=>?_⟩;have hk:=this.2 k hk;unfold okK at hk;grind
def HE (f:ad):Prop:=∀ (w:Bool) (pss:Ps),Valid (pss.map (·.2))->f [sq w (pss.map paD)]=some (.deep,.bl true)
theorem KI (hg:Au g) (hc:gU c):HE (aL 1 2 (pT c g)):=λw pss hv=>by
 refine aq rfl ?_;have hl6:pss.length<=6:=by have:=hv.len;simpa using this
 have hp:∀p∈pss,p.2.length<1000:=λp hp=>by
  have:=(hv.p (List.mem_map_of_mem hp)).2.1;omega
 have hT:orQ (ci (trF (biF ff (aa (va 0) (aa (tpF (aa (cT "list") (aa (cT "tuple") af))) af))))) (av (ab gtD (biF bn (!23)) (cD (.int 6)))) [some (sq w (pss.map paD)),none]=some false:=by
  have h:¬ (6:Int)<(pss.length:Int):=by omega
  cases w<;>simp[sq,h]
 refine(ak ((bW hT).trans rfl)).trans ?_;refine aA (aR (evX_lf ?_ rfl));have hm:aj [1] (jX noV (va 0)) (gNm 1) tQ (clF g (aa (va 1) af)) [some (sq w (pss.map paD)),none]=some (pss.map λp=>.bl (okP p.2)):=by
  refine aC (mk:=paD) (by simp) (λp hpm=>?_) (N9 hl6 (!4));have:=hg p.1 p.2 (hp p hpm);simp[paD,this]
 have ha:pss.all (λp=>okP p.2)=true:=by
  rw[List.all_eq_true];intro p hpm;exact hv.each _ (List.mem_map_of_mem hpm)
 have h1000:((prod (pss.map (·.2)):Nat):Int)<=1000:=by have:=hv.codes;omega
 simp[ax,hm,dm,ha,hc w pss hp];exact h1000
def aS (ps:NF):D:=.tup (ps.map tpD)
def ah (ps:NF):D:=.obj "Mill" ["passes"] [aS ps]
def gM (fa:ad):NS->Option (List (Str×D))
 |[d]=>(fD (fa [d])).bind λb=>(wG b).bind λt=>if t=true then(aj [2] (jX noV (va 1)) (gNm 2) tQ (biF bK (!21)) [none,some d,none]).bind λl=>some [(("passes":Str),.tup l)]else none
 |_=>none
theorem Ds {R Sp} (h:R (vw U)=some d) (hs:Sp (vw U)=none) (h2:R (shv U)=some d):∃c,evX R noV Sp U=some ((c,d),U):=by
 cases f:lfD d with
 |true=>exact⟨_,evX_lf h f⟩
 |false=>exact⟨_,uh h f rfl hs rfl h2⟩
theorem uq (ds:NS) (r:List (Str×D)) (h:gM fa ds=some r) (y:Addr):za 2 3 (ul fa) y ds=some r:=by
 cases ds with
 |nil=>cases h
 |cons d t=>
  cases t with
  |cons _ _=>cases h
  |nil=>
   obtain⟨b,h1,h⟩:=Op (h);obtain⟨t,h2,h⟩:=Op h;cases t with
   |false=>cases h
   |true=>
    obtain⟨l,h3,h4⟩:=Op (h);cases h4;have h3':aj [2] (jX noV (va 1)) (gNm 2) tQ (biF bK (!21)) [some (.adr y),some d,none]=some l:=by
     rw[<-h3];cases seqD d with
     |none=>rfl
     |some ps=>
      rfl
    show ul fa y (tM 3 y [d]) []=_;unfold ul;have hst:tM 3 y [d]=[some _,some _,none]:=rfl;rw[hst];have e1:(ifS (ci (trF (clF fa (aa (va 1) af)))) (ae noO' nxE) nxE) [some (.sh,.adr y),some (.sh,d),none]=some (.nx [some (.sh,.adr y),some (.sh,d),none]):=by
     refine(bW ?_).trans rfl;simp[h1,h2]
    unfold stI;rw[e1];simp only[Option.bind_some];obtain⟨c,e2⟩:=Ds (R:=biF bK (aa (lsF (aj [2] (jX noV (va 1)) (gNm 2) tQ (biF bK (!21)))) af)) (Sp:=fNo (aa (lsF (aj [2] (jX noV (va 1)) (gNm 2) tQ (biF bK (!21)))) af)) (U:=[some (.sh,.adr y),some (.sh,d),none]) (d:=.tup l)
     (by simp[h3']) (by simp) (by simp[h3'])
    unfold CJ;rw[e2];simp[io,CI,tL]
def vM (g:NS->Option (List (Str×D))):Prop:=∀ (w:Bool) (pss:Ps),Valid (pss.map (·.2))->g [sq w (pss.map paD)]=some [(("passes":Str),aS (pss.map (·.2)))]
theorem HF (ha:HE fa):vM (gM fa):=λw pss hv=>by
 have hl6:pss.length<=6:=by have:=hv.len;simpa using this
 have hm:aj [2] (jX noV (va 1)) (gNm 2) tQ (biF bK (!21)) [none,some (sq w (pss.map paD)),none]=some (pss.map λp=>tpD p.2):=by
  refine aC (mk:=paD) (by simp) (λp _=>?_) (N9 hl6 (!4));simp[paD,tpD]
 show((fD (fa [sq w (pss.map paD)])).bind _)=_;rw[ha w pss hv];simp[hm,aS]
theorem fI {β:Type} (xs:List β) (f:β->D) (t:Nat):mY (xs.map f) (some (t:Int)) none=(xs.drop t).map f:=by
 unfold mY;rw[HT.sIx_nat,HT.sIx_none,length_map,<-List.map_drop];by_cases h:t<=xs.length
 ·rw[Nat.min_eq_left h];rw[List.take_of_length_le (by rw[length_map,List.length_drop];omega)]
 ·have h':xs.length<=t:=by omega
  rw[Nat.min_eq_right h',List.drop_eq_nil_of_le (le_refl _),List.drop_eq_nil_of_le h'];simp
theorem mj {β:Type} (xs:List β) (f:β->D) (t:Nat):mY (xs.map f) none (some (t:Int))=(xs.take t).map f:=by
 unfold mY;rw[HT.sIx_nat,HT.sIx_none,length_map,List.drop_zero,Nat.sub_zero,<-List.map_take];grind
theorem iJ (hf:fl "Mill" "passes"=true) (ps:NF):ki fl "passes" (ah ps)=some (aS ps):=by simp_all [Pk,ki,ah,aS]
theorem pX (hf:fl "Mill" "passes"=true) {t:Nat} (h0:cf U 0=some (ah ps)) (h1:cf U 1=some (.int (t:Int))):
  slF (!8) (aH (va 1)) noP U=some (.tup ((!20).map tpD)):=by
 unfold slF orO mZ
 simp[h0,h1,iJ hf,aS,fI]
def EW (mt:MT) (kk:Nat):Prop:=∀ps:NF,nY mt kk "many" (ah ps) []=some (.deep,.int (ps.length:Nat))
theorem HG (hf:fl "Mill" "passes"=true) (ps:NF):aL 1 1 (rG fl) [ah ps]=some (.deep,.int (ps.length:Nat)):=by
 refine aq rfl ?_;refine aA (aR (evX_lf ?_ rfl));simp[ax,iJ hf,aS]
def vN (f:ad):Prop:=∀ (ps:NF) (t:Nat),t<=ps.length->f [ah ps,.int (t:Int)]=some (.deep,.bl true)
theorem HH {mt kk w} (hm:EW mt kk) (hw:dG w):vN (aL 2 2 (xk mt kk w)):=λps t ht=>by
 refine aq rfl ?_;refine aA (aR (evX_lf ?_ rfl));have h1:(t:Int)<=(ps.length:Int):=by omega
 simp[ax,hm ps,hw (t:Int) 0 (ps.length:Int),h1]
noncomputable def wD (w:NO):D:=.tup (w.map λ(i:Nat)=>.int (i:Int))
theorem lf_w (w:NO):lfD (wD w)=true:=bI λd hd=>by
 obtain⟨p,_,rfl⟩:=Oc.mp hd;rfl
structure WordOk (ps:NF) (t:Nat) (w:NO):Prop where
 len:w.length=(!20).length
 each:∀q∈w.zip (!20),q.1<q.2.length
def vO (f:ad):Prop:=∀ (ps:NF) (t:Nat) (w:NO),Valid ps->WordOk ps t w->f [ah ps,.int (t:Int),wD w]=some (.deep,.bl true)
theorem jj (hv:Valid ps) (t:Nat) (w:NO):(w.zip (!20)).length<big:=by
 rw[List.length_zip,List.length_drop];have:=hv.len;exact N9 (show min w.length (ps.length-t)<=6 by omega) (!4)
theorem EX (w:NO) (rs:NF):fz (w.map λ(i:Nat)=>.int (i:Int)) (rs.map tpD)=(w.zip rs).map λq=>.tup [.int (q.1:Int),tpD q.2]:=gT w rs
theorem HI (hw:dG wi) (hf:fl "Mill" "passes"=true):vO (aL 3 6 (xm wi fl)):=λps t w hv hk=>by
 refine aq rfl ?_;refine(ak (bV (evX_lf (pX hf rfl rfl) (um _)))).trans ?_;have hs:((ax 6 [ah ps,.int (t:Int),wD w]).set 3 (some (Cat.deep,.tup ((!20).map tpD))))=[some _,some (.sh,.int (t:Int)),some _,some (.deep,.tup _),none,none]:=rfl;rw[hs];have hl:(w.length:Int)=((ps.length-t:Nat):Int):=by have:=hk.len;rw[List.length_drop]at this;omega
 refine(ak ((bW ?_).trans rfl)).trans ?_
 ·simp[wD,hl]
 ·refine aA (aR (evX_lf ?_ rfl));have hm:aj [4,5] (jX (zpF (aa (va 2) (!27))) (biF noD (aa (va 2) (!27)))) (gTp 2 (ao (gNm 4) (ao (gNm 5) aX))) tQ (clF wi (aa (va 4) (aa (cI 0) (aa (ab bE (biF bn (aa (va 5) af)) (cI 1)) af))))
    [some (ah ps),some (.int (t:Int)),some (wD w),some (.tup ((!20).map tpD)),none,none]=some ((w.zip (!20)).map λq=>.bl true):=by
   refine aC (mk:=λq:Nat×List Pk=>.tup [.int (q.1:Int),tpD q.2]) (vG ?_) (λq hq=>?_) (jj hv t w)
   ·simp only[consX_a,va_a,shAt_s,shAt_0,nilX_a,Option.bind_some];rw[iI rfl rfl,EX]
   ·have h1:(q.1:Int)<=(q.2.length:Int)-1:=by have:=hk.each q hq;omega
    simp[tpD,hw (q.1:Int) 0 ((q.2.length:Int)-1),h1]
  simp only[vw_some,vw_none,vw_nil,biF_a,consX_a,lsF_a,hm,nilX_a,map_some,Option.bind_some];rw[dm (w.zip _) λ_=>true];simp
def pY (f:ad):Prop:=∀ (ps:NF) (t:Nat),t<=ps.length->f [ah ps,.int (t:Int)]=some (.deep,.non)
theorem Dt (hg:vN g):pY (aL 2 2 (mf g)):=λps t ht=>by
 refine fH rfl (U:=ax 2 [ah ps,.int (t:Int)]) ?_;refine(ak ((bW ?_).trans rfl)).trans rfl;simp[ax,hg ps t ht]
def ur (f:ad):Prop:=∀ (ps:NF) (t:Nat) (w:NO),Valid ps->t<=ps.length->WordOk ps t w->f [ah ps,.int (t:Int),wD w]=some (.deep,.non)
theorem fJ (h:f (vw U)=some d):fB f U=some (.nx U):=by unfold fB;rw[h];rfl
theorem Du (hg:vO g) (hl:pY l):ur (aL 3 3 (mh g l)):=λps t w hv ht hk=>by
 refine fH rfl (U:=ax 3 [ah ps,.int (t:Int),wD w]) ?_;refine(ak (fJ (d:=.non) ?_)).trans ?_
 ·simp[ax,hl ps t ht]
 refine(ak ((bW ?_).trans rfl)).trans rfl;simp[ax,hg ps t w hv hk]
noncomputable def pkAt (q:Nat×List Pk):Pk:=q.2[q.1]?.getD (true,0)
def ut (f:ad):Prop:=∀ (ps:NF) (t:Nat) (w:NO),Valid ps->WordOk ps t w->f [ah ps,.int (t:Int),wD w]=some (.deep,.lst ((w.zip (!20)).map λq=>pkD (pkAt q)))
theorem EY (h:q.1<q.2.length):atI (q.2.map pkD) (q.1:Int)=some (pkD (pkAt q)):=by
 refine atI_mapN ?_;unfold pkAt;grind
theorem Dv (hf:fl "Mill" "passes"=true):ut (aL 3 5 (pU fl)):=λps t w hv hk=>by
 refine aq rfl ?_;have hm:aj [3,4] (jX (zpF (aa (va 2) (aa (slF (!8) (aH (va 1)) noP) af))) (biF noD (aa (va 2) (aa (slF (!8) (aH (va 1)) noP) af)))) (gTp 2 (ao (gNm 3) (ao (gNm 4) aX))) tQ (ab ixD (va 4) (va 3))
   [some (ah ps),some (.int (t:Int)),some (wD w),none,none]=some ((w.zip (!20)).map λq=>pkD (pkAt q)):=by
  refine aC (mk:=λq:Nat×List Pk=>.tup [.int (q.1:Int),tpD q.2]) (vG ?_) (λq hq=>?_) (jj hv t w)
  ·simp only[consX_a,va_a,shAt_s,shAt_0,nilX_a,Option.bind_some,pX hf (U:=[some _,some (.int (t:Int)),some (wD w),none,none]) rfl rfl];rw[iI rfl rfl,EX]
  ·simp[tpD,EY (hk.each q hq)]
 refine aA (aR (evX_lfs (d:=.lst ((w.zip (!20)).map λq=>pkD (pkAt q))) ?_ rfl ?_ ?_))
 ·show(lsF _ [some (ah ps),some (.int (t:Int)),some (wD w),none,none])=_;rw[lsF_a,hm];rfl
 ·exact hm
 ·refine bI λd hd=>?_;obtain⟨q,_,rfl⟩:=Oc.mp hd;rfl
def Aw (f:ad):Prop:=∀ (ps:NF) (t:Nat) (w:NO) (s:Int),Valid ps->t<=ps.length->WordOk ps t w->1<=s->s<=9->f [ah ps,.int (t:Int),wD w,.int s]=some (.deep,.bl ((w.zip (!20)).all λq=>decide (s<=(pkAt q).2)))
theorem HJ (hg:ut g) (hz:vL z) (hl:ur l):Aw (aL 4 6 (Hz g z l)):=λps t w s hv ht hk h1 h9=>by
 refine aq rfl ?_;have hs:ax 6 [ah ps,.int (t:Int),wD w,.int s]=[some _,some (.sh,.int (t:Int)),some _,some _,none,none]:=rfl;rw[hs];refine(ak (fJ (d:=.non) ?_)).trans ?_
 ·simp[hl ps t w hv ht hk]
 refine(ak ((bW ?_).trans rfl)).trans ?_
 ·simp[hz s,h1,h9]
 refine aA (aR (evX_lf ?_ rfl));have hm:aj [4,5] (jX noV (clF g (aa (va 0) (aa (va 1) (!21))))) (gTp 2 (ao (gNm 4) (ao (gNm 5) aX))) tQ (ab leD (va 3) (va 5))
   [some (ah ps),some (.int (t:Int)),some (wD w),some (.int s),none,none]=some ((w.zip (!20)).map λq=>.bl (decide (s<=(pkAt q).2))):=by
  refine aC (mk:=λq=>pkD (pkAt q)) ?_ (λq hq=>?_) (jj hv t w)
  ·simp[hg ps t w hv hk]
  ·simp[pkD]
 simp only[vw_some,vw_none,vw_nil,biF_a,consX_a,lsF_a,hm,nilX_a,map_some,Option.bind_some];exact dm (w.zip _) λq=>decide _
theorem Dw {v:Nat->Int} (I:Nat->Ev->Prop) (hJ:J (shv U)=some ((!6).map λi=>D.int (v i))) (h0:I 0 U) (hs:∀ (i:Nat) (U:Ev),i<n->I i U->∃U',F (U.set s (some (.sh,.int (v i))))=some (.nx U')/\I (i+1) U'):∃U',frF J (eNm s) F U=some (.nx U')/\I n U':=by
 obtain⟨U',e,i⟩:=cW (tg:=eNm s) I hJ h0 (λi d U hd hi=>by
  rw[getElem?_map]at hd;cases hp:(!6)[i]? with
  |none=>rw[hp]at hd;cases hd
  |some p=>
   rw[hp]at hd;cases hd;obtain⟨hl,e⟩:=N4.mp hp;rw[List.getElem_range]at e;subst e;rw[length_range]at hl;exact hs i U hl hi)
 rw[length_map,length_range]at i;exact⟨U',e,i⟩
theorem vw_o (o:NH) (U:Ev):vw (o::U)=o.map (·.2)::vw U:=rfl
theorem rH {β γ:Type} {step} {mk} {out} {P:γ->Prop}:∀ (xs:List β),(∀x∈xs,∃y,P y/\step (mk x)=some (some (out y)))->∃ys:List γ,ys.length=xs.length/\(∀y∈ys,P y)/\gu step (xs.map mk)=some (ys.map out)
 |[],_=>⟨[],rfl,λ_ h=>(nomatch h),rfl⟩
 |x::xs,h=>by
  obtain⟨y,py,e⟩:=h x N5;obtain⟨ys,l,p,e2⟩:=rH xs λe he=>h e (N6 _ he);refine⟨y::ys,by simp[l],λz hz=>?_,?_⟩
  ·rcases mem_cons.mp hz with rfl|hz
   ·exact py
   ·exact p z hz
  ·rw[List.map_cons];unfold gu;rw[e,e2];rfl
theorem Ax {β γ:Type} {U:Vv} {xs:List β} {mk} {out} {P:γ->Prop} (hJ:J U=some (xs.map mk)) (h:∀x∈xs,∃y,P y/\jT g ft fe (d4 ks U) (mk x)=some (some (out y))) (hl:xs.length<big):
  ∃ys:List γ,ys.length=xs.length/\(∀y∈ys,P y)/\aj ks J g ft fe U=some (ys.map out):=by
 obtain⟨ys,l,p,e⟩:=rH xs h
 refine⟨ys,l,p,?_⟩
 unfold aj
 rw[hJ]
 simp only[Option.bind_some]
 rw[e]
 unfold bC
 simp[l,hl]
noncomputable def scD (ns:NQ):D:=.lst (ns.map D.int)
@[simp] theorem MS (ns:NQ):seqD (scD ns)=some (ns.map D.int):=rfl
@[simp] theorem NB (ns:NQ):lfD (scD ns)=false:=rfl
theorem Ay (ns:NQ):lfL (ns.map D.int)=true:=bI λd hd=>by
 obtain⟨p,_,rfl⟩:=Oc.mp hd;rfl
theorem Az (h:0<=i) (h2:i<1000000000039):aQ (.int i) (.int j)=some (.int (i*j)):=pR (Int.lt_of_lt_of_le (!4) h) (Int.lt_trans h2 (!4))
theorem Dx (P:D->Prop) (h:0<=i) (h2:i<ds.length) (ha:∀d∈ds,P d):∃d,P d/\atI ds i=some d:=by
 have hl:i.toNat<ds.length:=by omega
 exact⟨ds[i.toNat],ha _ (List.getElem_mem hl),pS h (getElem?_eq_getElem hl)⟩
theorem md (i:Int) (h:0<j):0<=i%j/\i%j<j:=⟨Int.emod_nonneg _ (!1),Int.emod_lt_of_pos _ h⟩
theorem HK (h1:1<=p.length) (h6:p.length<=6) (h:∀k∈p,okK k=true):okP p=true:=by
 unfold okP;grind
theorem vP {a b:Nat} (ha:a<1000000):aQ (.int (a:Int)) (.int (b:Int))=some (.int ((a*b:Nat):Int)):=by
 exact pR (Int.lt_of_lt_of_le (!4) (Int.natCast_nonneg a)) (Int.lt_trans (show(a:Int)<1000000 by omega) (!4))
end L2
namespace L2
open PySem PySem.Spec PyProof.Rows
noncomputable def lay (q:Bool) (a c:Int):Int:=if q=true then c else a-1-c
def oq (f:ad):Prop:=∀ (q:Bool) (a c:Int),f [.str (kd q),.int a,.int c]=some (.deep,.int (lay q a c))
theorem HL:oq (aL 3 3 Hy):=λq a c=>by
 refine aq rfl ?_;refine aA (aR (evX_lf ?_ rfl));cases q<;>rfl
def stp (s:Int×Int) (q:Nat×List Pk):Int×Int:=(s.1*q.2.length,q.1*s.1+lay (pkAt q).1 s.1 s.2)
def j5 (s:Int×Int) (zs:List (Nat×List Pk)):Int×Int:=zs.foldl stp s
def ahd (ps:NF) (t:Nat):Int:=(prod (ps.take t):Nat)
def pZ (ps:NF) (t:Nat) (w:NO):Int:=(j5 (ahd ps t,ahd ps t-1) (w.zip (!20))).2
theorem HM {i:Nat} (h:i<1000000):aQ (.int (i:Int)) (.int j)=some (.int ((i:Int)*j)):=pR (pW (!1) (!1)).1 (pW (!1) (!1)).2
theorem xq (hc:gU c) (ps:NF) (h:∀p∈ps,p.length<1000):c [.tup (ps.map tpD)]=some (.deep,.int (prod ps:Nat)):=by
 have e:(ps.map λp=>((false,p):Bool×List Pk)).map paD=ps.map tpD:=by rw[List.map_map];rfl
 have em:(ps.map λp=>((false,p):Bool×List Pk)).map (·.2)=ps:=by rw[List.map_map];exact List.map_id ps
 have:=hc false (ps.map λp=>(false,p)) (λp hp=>by
  obtain⟨q,hq,rfl⟩:=Oc.mp hp;exact h q hq)
 rw[e,em]at this;exact this
def mo (zs:List (Nat×List Pk)):Nat:=(zs.filter λq=>!(pkAt q).1).length
def p8 (ps:NF) (t:Nat) (w:NO):Int:=1-2*((mo (w.zip (!20)):Int)%2)
end L2
namespace L2
open PySem PySem.Spec PyProof.Rows
theorem HN {R L Sp} (h:R (vw U)=some d) (f:lfD d=false) (hl:L (vw U)=none) (hs:Sp (vw U)=none) (hl2:L (shv U)=none) (h2:R (shv U)=none):evX R L Sp U=some ((.sh,d),eI U):=by
 unfold evX orO kh jV ph yX frX orO lfO jd;grind
theorem HP {K} {st} (n k:Nat) (X:K.In h) (hN:h.Ns mainGlobals mg) (hfa:mg "law"=some (.ref fa)) (S:FnScope N ["script"] (am st)) (b:bU "law" st ["script"]) (t:aO K "law" st) (g:∀base:Heap,K.In base->base.Ns mainGlobals mg->GbOk P w K mg base G) (hf:∀ns:NQ,ns.length<=63->fD (dfn n k N ["script"] st G [.lst (ns.map D.int)])=some (.bl true)):
  ∃fd:FuncData,(∀ (s:Shared) (v:Value),BindsTo s fd ⟨[v],[]⟩ [("script",v)])/\∀base:Heap,K.In base->base.Ns mainGlobals mg->FnOk P w K mg base CX0 (k+1) fa fd ["script"] (spL K):=by
 obtain⟨f,oc,od,an,osl,kV,doc,pm,cdv,ct,h1,h2,h3,h4⟩:=t
 have e:=hfa.symm.trans (PySem.W.mg_of X hN h1)
 cases e
 have Fn:=oQ h2 h3 h4
 refine⟨_,λs v=>.of_eq (b "law" kV doc pm an cdv ct [v] rfl),λbase KB hB=>Hl (Gq Fn S λcdv A outer s H E hr=>?_) hf⟩
 exact(Dl n).2 _ _ (vD (g base KB hB) S cdv A outer s H E hr) _
theorem cn_int {K} (X:K.In h) (hN:h.Ns mainGlobals mg) (t:∃t,nsIn K mainGlobals x=some (some (.int i t))):Cn K mg x (.int i):=by
 obtain⟨t,e⟩:=t;exact⟨_,_,PySem.W.mg_of X hN e,(show RelV (.int i) _ from⟨t,rfl⟩),λH=>rfl⟩
theorem cn_2str {K} (X:K.In h) (hN:h.Ns mainGlobals mg) (t:∃ (a:Addr) (od:Option Addr) (n:Nat) (sl:Array (NM)) (t0:Tok) (t1:Tok),nsIn K mainGlobals x=some (some (.ref a))/\K.lookup a=some ⟨.type "tuple",od,.seq #[.str y t0,.str z t1] n,sl⟩):Cn K mg x (.tup [.str y,.str z]):=by
 obtain⟨a,od,n,sl,t0,t1,e,l⟩:=t;refine⟨.ref a,_,PySem.W.mg_of X hN e,rfl,λH=>⟨a,[.str y,.str z],rfl,.inr ⟨_,_,n,l,rfl,rfl,?_,?_⟩,⟨_,_,rfl,rfl,⟨_,_,rfl,rfl,rfl⟩⟩⟩⟩
 ·show 2<=sizeLine;decide
 ·exact .cons ⟨t0,rfl⟩ (.cons ⟨t1,rfl⟩ .nil)
theorem fl_one {K} (t:∃Ca,nsIn K mainGlobals C=some (!24)/\findIn K (.ref Ca) m=some none) (h:f=m):∀Ca,nsIn K mainGlobals C=some (!24)->NoAttr K Ca f:=by grind [NoAttr]
theorem Dy {K} (c:TCls K C) (hc:nsIn K mainGlobals C=some (!24)):Cls K Ca:=by
 obtain⟨Cb,e,cl,_,_⟩:=c.ex;grind
theorem MU {K} {st} {kV doc pm cdv ct} (a:nsIn K mainGlobals x=some (some (.ref f))) (l:K.lookup f=some ⟨oc,od,.func (PySem.W.fnOf x x (bv st) (aN st) (am st) .none kV doc pm an cdv ct),osl⟩) (c:PySem.W.codeIn K cdv x=true) (k:PySem.W.keepIn K (.ref f)=true):aO K x st:=⟨f,oc,od,an,osl,kV,doc,pm,cdv,ct,a,l,c,k⟩
theorem HQ {K} {st} {kV doc pm cdv ct} (a:nsIn K mainGlobals C=some (!24)) (n:findIn K (.ref Ca) m=some (some (.ref f))) (i:PySem.W.isFn K (.ref f)=true) (l:K.lookup f=some ⟨oc,od,.func (PySem.W.fnOf m qual (bv st) (aN st) (am st) .none kV doc pm an cdv ct),osl⟩) (c:PySem.W.codeIn K cdv qual=true) (k:PySem.W.keepIn K (.ref f)=true):m8 K C m qual st:=by grind [bv,aN,am,m8]
theorem MV {K} (a:nsIn K mainGlobals C=some (!24)) (pg:PySem.W.plainGet K Ca Str.empty=true) (hd:PySem.W.hasDictIn K Ca=true) (po:PySem.W.plainOver K Ca=true) (sa:findIn K (.ref Ca) "__setattr__"=some (some (.builtin "object.__setattr__"))) (mk:PySem.W.makesIn K Ca=true) (kc:PySem.W.keepIn K (.ref Ca)=true):TCls K C:=⟨Ca,a,⟨pg,hd,po,sa⟩,mk,kc⟩
theorem tno {K} (a:nsIn K mainGlobals C=some (!24)) (n:findIn K (.ref Ca) m=some none):∃Ca,nsIn K mainGlobals C=some (!24)/\findIn K (.ref Ca) m=some none:=⟨Ca,a,n⟩
theorem xt {K} (a:nsIn K mainGlobals x=some (some (.int i t))):∃t,nsIn K mainGlobals x=some (some (.int i t)):=⟨t,a⟩
theorem KJ {K} (e:nsIn K mainGlobals x=some (some (.ref a))) (l:K.lookup a=some ⟨.type "tuple",od,.seq #[.str y t0,.str z t1] n,sl⟩):
 ∃ (a:Addr) (od:Option Addr) (n:Nat) (sl:Array (NM)) (t0:Tok) (t1:Tok),nsIn K mainGlobals x=some (some (.ref a))/\K.lookup a=some ⟨.type "tuple",od,.seq #[.str y t0,.str z t1] n,sl⟩:=⟨a,od,n,sl,t0,t1,e,l⟩
def iK (fl:Str->Str->Bool) (bg:ad):Cl:=(ae (bP (evX (clF bg (aa (!8) af)) noV (fCl bg (aa (!8) af)))) nxE)
def rJ (c8:ad) (c9:ad):Cl:=(ae (ifS (orQ (ci (trF (biF ff (aa (va 1) (aa (cT "tuple") af))))) (av (ab (aK true) (biF bn (aa (va 1) af)) (cI 2)))) (ae (bP (evX (cB false) noV noV)) nxE) nxE) (ae (bP (evX (ke (clF c9 (aa (ab ixD (va 1) (cI 0)) af)) (clF c8 (aa (va 0) (aa (ab ixD (va 1) (cI 1)) af)))) noV noV)) nxE))
def iL (dJ:ad):Cl:=(ae (ifS (orQ (ci (trF (biF ff (aa (va 1) (aa (tpF (aa (cT "list") (aa (cT "tuple") af))) af))))) (av (ab gtD (biF bn (aa (va 1) af)) (cD (.int 24))))) (ae noO' nxE) nxE) (ae (ifS (ci (trF (biF lG (aa (lsF (aj [2] (jX noV (va 1)) (gNm 2) tQ (clF dJ (aa (va 0) (!21))))) af)))) (ae noO' nxE) nxE) nxE))
def m9 (qu:ad) (db:ad):Cl:=(ae (bP (evX (ke (clF db (aa (va 0) (aa (ab ixD (va 1) (cI 1)) (!21)))) (clF qu (aa (va 0) (aa (ab ixD (va 1) (cI 1)) (aa (va 2) (aa (ab ixD (va 1) (cI 0)) af)))))) noV noV)) nxE)
def mq (cE:ad) (bm:ad):Cl:=(ae (fB (clF bm (aa (va 0) (aa (va 1) af)))) (ae (ifS (orQ (ci (trF (biF ff (aa (va 2) (aa (tpF (aa (cT "list") (aa (cT "tuple") af))) af))))) (av (ab (aK true) (biF bn (!21)) (biF bn (aa (va 1) af))))) (ae noO' nxE) nxE) (ae (ifS (ci (trF (biF lG (aa (lsF (aj [3,4] (jX (zpF (aa (va 1) (!21))) (biF noD (aa (va 1) (!21)))) (gTp 2 (ao (gNm 3) (ao (gNm 4) aX))) tQ (clF cE (aa (va 0) (aa (va 3) (aa (va 4) af)))))) af)))) (ae noO' nxE) nxE) nxE)))
structure Lt where
 s:Int
 t:Nat
 w:NO
noncomputable def kj (l:Lt):D:=.tup [.int l.s,.int (l.t:Int)]
structure LtOk (ps:NF) (l:Lt):Prop where
 s1:1<=l.s
 s9:l.s<=9
 t:l.t<=ps.length
 w:WordOk ps l.t l.w
 fit:∀q∈l.w.zip (ps.drop l.t),l.s<=(pkAt q).2
def lsD (v:Bool) (ls:List Lt):D:=sq v (ls.map kj)
def plD (v:Bool) (ls:List Lt):D:=sq v (ls.map λl=>wD l.w)
def p9 (f:ad):Prop:=∀ (ps:NF) (l:Lt),LtOk ps l->f [ah ps,kj l]=some (.deep,.bl true)
theorem AA (hl:vN la) (hs:vL si):p9 (aL 2 2 (rJ la si)):=λps l h=>by
 refine aq rfl ?_;refine(ak ((bW ?_).trans rfl)).trans (aA (aR (evX_lf ?_ rfl)))
 ·simp[ax,kj]
 ·simp[ax,kj,hs l.s,hl ps l.t h.t,h.s1,h.s9]
def qa (f:ad):Prop:=∀ (v:Bool) (ps:NF) (ls:List Lt),ls.length<=24->(∀l∈ls,LtOk ps l)->f [ah ps,lsD v ls]=some (.deep,.non)
theorem AB (hl:p9 le):qa (aL 2 3 (iL le)):=λv ps ls h24 h=>by
 have hs:ax 3 [ah ps,lsD v ls]=[some _,some _,none]:=rfl;refine fH rfl (U:=ax 3 [ah ps,lsD v ls]) ?_;rw[hs];refine(ak ((bW ?_).trans rfl)).trans ((ak ((bW ?_).trans rfl)).trans rfl)
 ·have h':¬ (24:Int)<(ls.length:Int):=by omega
  cases v<;>simp[lsD,sq,h']
 ·have hm:aj [2] (jX noV (va 1)) (gNm 2) tQ (clF le (aa (va 0) (!21))) [some (ah ps),some (lsD v ls),none]=some (ls.map λ_=>.bl true):=by
   refine aC (mk:=kj) (by simp[lsD]) (λl hlm=>?_) (N9 h24 (!4));simp[hl ps l (h l hlm)]
  simp[hm,dm ls λ_=>true]
def qb (f:ad):Prop:=∀ (v u:Bool) (ps:NF) (ls:List Lt),Valid ps->ls.length<=24->(∀l∈ls,LtOk ps l)->f [ah ps,lsD v ls,plD u ls]=some (.deep,.non)
theorem fit_all (h:LtOk ps l):((l.w.zip (ps.drop l.t)).all λq=>decide (l.s<=(pkAt q).2))=true:=by
 rw[List.all_eq_true];exactλq hq=>decide_eq_true (h.fit q hq)
theorem rK {β γ:Type} (g:β×β->γ):∀xs:List β,(xs.zip xs).map g=xs.map λx=>g (x,x)
 |[]=>rfl
 |x::xs=>by rw[List.zip_cons_cons,List.map_cons,List.map_cons,rK g xs]
def HR (f:ad):Prop:=∀ (ps:NF) (l:Lt),Valid ps->LtOk ps l->f [ah ps,kj l,wD l.w]=some (.deep,.bl true)
theorem KL (hf:Aw fi) (hw:vO wo):HR (aL 3 3 (m9 fi wo)):=λps a hv ho=>by
 have x1:ixD (kj a) (.int 1)=some (.int (a.t:Int)):=vJ _ _ _;have x0:ixD (kj a) (.int 0)=some _:=rD _ _;refine aq rfl ?_;refine aA (aR (evX_lf ?_ rfl));simp[ax,x1,x0,hw ps a.t a.w hv ho.w,hf ps a.t a.w a.s hv ho.t ho.w ho.s1 ho.s9,fit_all ho]
theorem AC {wf lo} (hf:HR wf) (hl:qa lo):qb (aL 3 5 (mq wf lo)):=λv u ps ls hv h24 h=>by
 have hs:ax 5 [ah ps,lsD v ls,plD u ls]=[some _,some _,some _,none,none]:=rfl;refine fH rfl (U:=[some (.sh,ah ps),some (.sh,lsD v ls),some (.sh,plD u ls),none,none]) ?_;rw[hs];refine(ak (fJ (d:=.non) ?_)).trans ((ak ((bW ?_).trans rfl)).trans ((ak ((bW ?_).trans rfl)).trans rfl))
 ·simp[hl v ps ls h24 h]
 ·cases u<;>cases v<;>simp[plD,lsD,sq]
 ·have hm:aj [3,4] (jX (zpF (aa (va 1) (!21))) (biF noD (aa (va 1) (!21)))) (gTp 2 (ao (gNm 3) (ao (gNm 4) aX))) tQ (clF wf (aa (va 0) (aa (va 3) (aa (va 4) af)))) [some (ah ps),some (lsD v ls),some (plD u ls),none,none]=some (ls.map λ_=>.bl true):=by
   refine aC (mk:=λl=>.tup [kj l,wD l.w]) (vG ?_) (λl hlm=>?_) (N9 h24 (!4))
   ·simp only[consX_a,va_a,shAt_s,shAt_0,shAt_1,nilX_a,Option.bind_some];rw[iI (a:=lsD v ls) (b:=plD u ls) (kR _ _) (kR _ _),gT];exact congrArg some (rK _ ls)
   ·simp[hf ps l hv (h l hlm)]
  simp[hm,dm ls λ_=>true]
theorem EZ {β:Type} {xs:List β} {mk} {i:Nat} {x} (h:xs[i]?=some x):ixD (sq v (xs.map mk)) (.int (i:Int))=some (mk x):=by
 cases v<;>exact atI_mapN h
def xu:Cl:=(ae (bP (evX (lsF (aj [2,3] (jX (enF (!23)) (biF noD (!23))) (gTp 2 (ao (gNm 2) (ao (gNm 3) aX))) (av (ab (!29) (ab ixD (va 3) (cI 1)) (va 1))) (va 2))) (aj [2,3] (jX (enF (!23)) (biF noD (!23))) (gTp 2 (ao (gNm 2) (ao (gNm 3) aX))) (av (ab (!29) (ab ixD (va 3) (cI 1)) (va 1))) (va 2)) (fCo [2,3] (jX (enF (!23)) (biF noD (!23))) (gTp 2 (ao (gNm 2) (ao (gNm 3) aX))) (av (ab (!29) (ab ixD (va 3) (cI 1)) (va 1))) (frX (va 2) noV noV)))) nxE)
def AD:Cl:=(ae (aw 5 (evX (lsF (aj [7] (jX noV (va 3)) (gNm 7) tQ (lsF (dpF af)))) (aj [7] (jX noV (va 3)) (gNm 7) tQ (lsF (dpF af))) (fCo [7] (jX noV (va 3)) (gNm 7) tQ (frX (lsF (dpF af)) (dpF af) (fLs af))))) (ae (frF (jX noV (va 4)) (eNm 6) (ae (m7 5 (ab ixD (ab ixD (va 1) (va 6)) (ab bE (va 2) (ab ixD (ab ixD (va 0) (va 6)) (cI 1)))) (va 6)) nxE)) (ae (rtN 5) nxE)))
def xv:Cl:=(ae (aw 2 (evX (lsF (dpF af)) (dpF af) (fLs af))) (ae (frF (jX (zpF (aa (va 0) (aa (va 1) af))) (biF noD (aa (va 0) (aa (va 1) af)))) (eTp 2 (dF (eNm 3) (dF (eNm 4) pi))) (ae (tR 2 (ifF (av (ab (!29) (ab ixD (va 3) (cI 0)) (cS "queue"))) (va 4) (liG (aa (biF noD (aa (va 4) af)) af) (orO (rvF (aa (va 4) af)) (l1F (aa (biF noD (aa (va 4) af)) af)))))) nxE)) (ae (rtN 2) nxE)))
def Dz (fl:Str->Str->Bool) (fV:ad) (eu:ad) (cx:ad) (b7:ad):Cl:=(ae (fB (clF b7 (aa (va 0) (aa (va 1) (!21))))) (ae (aw 3 (evX (clF cx (aa (va 1) (aa (cI 0) af))) noV (fCl cx (aa (va 1) (aa (cI 0) af))))) (ae (aw 4 (evL [3] (frX (lsF (dpF (!27))) (dpF (!27)) (fLs (aa (frX (va 3) noV noV) af))) (dpF (!27)) (lsF (dpF (!27))))) (ae (frF (jX (enF (aa (!8) af)) (biF noD (aa (!8) af))) (eTp 2 (dF (eNm 5) (dF (eNm 6) pi))) (ae (aw 3 (evX (ab aG (clF eu (aa (va 6) (aa (clF fV (aa (va 1) (aa (va 2) (aa (va 5) (aa (va 6) (!27)))))) af))) (clF cx (aa (va 1) (aa (ab aG (va 5) (cI 1)) af)))) (iw (clF eu (aa (va 6) (aa (clF fV (aa (va 1) (aa (va 2) (aa (va 5) (aa (va 6) (!27)))))) af))) (clF cx (aa (va 1) (aa (ab aG (va 5) (cI 1)) af)))) noV)) (ae (pP 4 3 (evX (va 3) noV noV) (va 3)) nxE))) (ae (rtN 4) nxE)))))
def xw (kY:ad):Cl:=(ae (bP (evX (ab ixD (clF kY (aa (va 0) (aa (va 1) (!21)))) (ngF (cI 1))) noV noV)) nxE)
theorem AE (h:(xs U).bind ve=some ds):jX (enF xs) R U=some ds:=by
 unfold jX orO enF;rw[h]
theorem jk {β:Type} {f} (xs:List β):iq (xs.map f)=(xs.zipIdx).map λp=>.tup [.int (p.2:Nat),f p.1]:=by
 unfold iq;rw[List.zipIdx_map,List.map_map];rfl
noncomputable def bG (ls:List Lt) (t:Nat):NO:=(ls.zipIdx.filter λp=>decide (p.1.t=t)).map (·.2)
noncomputable def rowD (r:NO):D:=.lst (!18)
def AF (f:ad):Prop:=∀ (v:Bool) (ls:List Lt) (t:Nat),ls.length<=24->f [lsD v ls,.int (t:Int)]=some (.deep,rowD (bG ls t))
theorem lf_row (r:NO):lfL (!18)=true:=bI λd hd=>by
 obtain⟨k,_,rfl⟩:=Oc.mp hd;rfl
theorem HS:AF (aL 2 4 xu):=λv ls t h24=>by
 have hs:ax 4 [lsD v ls,.int (t:Int)]=[some _,some (.sh,.int (t:Int)),none,none]:=rfl;have y3:seqD (lsD v ls)=some _:=kR _ _;refine aq rfl ?_;rw[hs];have hc:aj [2,3] (jX (enF (!23)) (biF noD (!23))) (gTp 2 (ao (gNm 2) (ao (gNm 3) aX))) (av (ab (!29) (ab ixD (va 3) (cI 1)) (va 1))) (va 2) (vw [some (.sh,lsD v ls),some (.sh,.int (t:Int)),none,none])=some ((bG ls t).map λ(k:Nat)=>D.int (k:Int)):=by
  rw[gB (xs:=ls.zipIdx) (out:=λp=>.int (p.2:Nat))]
  ·unfold bG;rw[List.map_map];rfl
  ·refine AE ?_;show(seqD (lsD v ls)).bind (λxs=>some (iq xs))=_;rw[y3,Option.bind_some,jk]
  ·intro p _;have x1:ixD (kj p.1) (.int 1)=some (.int (p.1.t:Int)):=vJ _ _ _;simp only[stepF_a,wipe_cons,wipe_nil,KF,Aq,Dp,gNm_a,length_cons,List.length_nil,if_true,Option.bind_some,vw_some,vw_none,vw_nil,set_cons_succ,set_cons_zero,testB_a,bin2_a,va_a,shAt_s,shAt_0,shAt_1,cI_a,x1,j3,asB_bl];by_cases e:p.1.t=t
   ·simp[e]
   ·have:¬ ((p.1.t:Int)=(t:Int)):=by omega
    simp[e,this]
  ·rw[List.length_zipIdx];exact N9 h24 (!4)
 refine aA (aR (evX_lfs (d:=rowD (bG ls t)) ?_ rfl hc (lf_row _)));simp only[lsF_a,hc];rfl
theorem DA {R L Sp} (h:R (vw U)=some d) (f:lfD d=false) (hl:L (vw U)=some ds) (fl:lfL ds=false) (hs:Sp (vw U)=some e):evX R L Sp U=some ((.deep,e),U):=by
 unfold evX orO kh frX orO lfO jd;grind
theorem DB (h:j<n):ixN n (j:Int)=some j:=by
 unfold ixN;rw[if_pos (!1),if_pos (!1)];rfl
theorem DC (h0:ownL U i=some (.deep,ds)) (hk:fk (vw U)=some (.int (j:Int))) (hj:ds[j]?=some (.lst ds2)) (hd:R (shv U)=some d) (lf:lfD d=true) (hl:ds2.length+1<big):
  m7 i fk R U=some (.nx (U.set i (some (.deep,.lst (ds.set j (.lst (ds2++[d]))))))):=by
 have hjl:=(N4.mp hj).1
 unfold m7 vi
 simp only[h0,Option.bind_some,if_true,hk,Hq,DB hjl,hj,hd,lfO,lf]
 show(if ds2.length+1<big then _ else _)=_
 rw[if_pos hl]
noncomputable def pkOf (ls:List Lt) (step k:Nat):Nat:=((ls[k]?).bind λl=>l.w[step-l.t]?).getD 0
def cK (ls:List Lt) (step n:Nat) (row:NO):List (NO):=(!6).map λj=>row.filter λk=>decide (pkOf ls step k=j)
def fK (hs:List (NO)):D:=.lst (hs.map rowD)
def E6 (ls:List Lt) (step n:Nat) (row:NO):Prop:=∀k∈row,∃l j,ls[k]?=some l/\l.t<=step/\l.w[step-l.t]?=some j/\j<n
theorem xx (ls:List Lt) (step n:Nat) (row:NO) (k:Nat) (h:pkOf ls step k<n):
  (cK ls step n row)[pkOf ls step k]?=some (row.filter λi=>decide (pkOf ls step i=pkOf ls step k))/\
  cK ls step n (row++[k])=(cK ls step n row).set (pkOf ls step k) ((row.filter λi=>decide (pkOf ls step i=pkOf ls step k))++[k]):=by
 constructor
 ·unfold cK;rw[getElem?_map,List.getElem?_range h];rfl
 ·apply List.ext_getElem?;intro j;rw[List.getElem?_set];unfold cK;rw[getElem?_map,getElem?_map];by_cases hj:j<n
  ·rw[List.getElem?_range hj];by_cases e:pkOf ls step k=j
   ·subst e;simp[hj,List.filter_append]
   ·simp[e,List.filter_append]
  ·rw[List.getElem?_eq_none (by rw[length_range];omega)];have:pkOf ls step k≠j:=by omega
   simp[this]
def AG (f:ad):Prop:=∀ (v u:Bool) (ls:List Lt) (step:Nat) (p:List Pk) (row:NO),ls.length<=24->row.length<=24->p.length<=6->E6 ls step p.length row->
 f [lsD v ls,plD u ls,.int (step:Int),tpD p,rowD row]=some (.deep,fK (cK ls step p.length row))
theorem HU:AG (aL 5 8 AD):=λv u ls step p row h24 hr hp hi=>by
  refine aq rfl ?_
  have hz:cK ls step p.length []=p.map λ_=>[]:=by
    unfold cK
    apply List.ext_getElem?
    intro j
    rw[getElem?_map,getElem?_map]
    by_cases hj:j<p.length
    · rw[List.getElem?_range hj,getElem?_eq_getElem hj];rfl
    · rw[List.getElem?_eq_none (by rw[length_range];omega),List.getElem?_eq_none (!1)];rfl
  have e1:aj [7] (jX noV (va 3)) (gNm 7) tQ (lsF (dpF af)) (vw [some (.sh,lsD v ls),some (.sh,plD u ls),some (.sh,.int (step:Int)),some (.sh,tpD p),some (.sh,rowD row),none,none,none])=some (p.map λ_=>.lst []):=by
    refine aC (mk:=pkD) ?_ ?_ (N9 hp (!4))
    · simp only[cX,vw_some,vw_none,vw_nil,va_a,shAt_s,shAt_0,shAt_1,Option.bind_some];rfl
    · intro x _
      simp[vw]
  have e2:aj [7] (jX noV (va 3)) (gNm 7) tQ (frX (lsF (dpF af)) (dpF af) (fLs af)) (vw [some (.sh,lsD v ls),some (.sh,plD u ls),some (.sh,.int (step:Int)),some (.sh,tpD p),some (.sh,rowD row),none,none,none])=some (p.map λ_=>.lst []):=by
    refine aC (mk:=pkD) ?_ ?_ (N9 hp (!4))
    · simp only[cX,vw_some,vw_none,vw_nil,va_a,shAt_s,shAt_0,shAt_1,Option.bind_some];rfl
    · intro x _
      have:frX (lsF (dpF af)) (dpF af) (fLs af)=λ_=>some (.lst []):=by
        funext U
        show orO _ _ U=_
        unfold orO
        simp[lfO,jd]
      rw[this]
      simp[vw]
  have a1:aw 5 (evX (lsF (aj [7] (jX noV (va 3)) (gNm 7) tQ (lsF (dpF af)))) (aj [7] (jX noV (va 3)) (gNm 7) tQ (lsF (dpF af))) (fCo [7] (jX noV (va 3)) (gNm 7) tQ (frX (lsF (dpF af)) (dpF af) (fLs af)))) [some (.sh,lsD v ls),some (.sh,plD u ls),some (.sh,.int (step:Int)),some (.sh,tpD p),some (.sh,rowD row),none,none,none]=some (.nx [some (.sh,lsD v ls),some (.sh,plD u ls),some (.sh,.int (step:Int)),some (.sh,tpD p),some (.sh,rowD row),some (.deep,fK (cK ls step p.length [])),none,none]):=by
    have:evX (lsF (aj [7] (jX noV (va 3)) (gNm 7) tQ (lsF (dpF af)))) (aj [7] (jX noV (va 3)) (gNm 7) tQ (lsF (dpF af))) (fCo [7] (jX noV (va 3)) (gNm 7) tQ (frX (lsF (dpF af)) (dpF af) (fLs af))) [some (.sh,lsD v ls),some (.sh,plD u ls),some (.sh,.int (step:Int)),some (.sh,tpD p),some (.sh,rowD row),none,none,none]=some ((.deep,.lst (p.map λ_=>.lst [])),[some (.sh,lsD v ls),some (.sh,plD u ls),some (.sh,.int (step:Int)),some (.sh,tpD p),some (.sh,rowD row),none,none,none]):=by
      cases p with
      |nil=>exact evX_lfs (by rw[lsF_a,e1];rfl) rfl e1 rfl
      |cons a b=>exact DA (by rw[lsF_a,e1];rfl) rfl e1 rfl (by unfold fCo;rw[e2];rfl)
    rw[bV this,hz]
    unfold fK
    rw[List.map_map]
    rfl
  have L:=cW (J:=jX noV (va 4)) (tg:=eNm 6) (F:=(ae (m7 5 (ab ixD (ab ixD (va 1) (va 6)) (ab bE (va 2) (ab ixD (ab ixD (va 0) (va 6)) (cI 1)))) (va 6)) nxE))
   
    (λi U=>∃o6,U=[some (.sh,lsD v ls),some (.sh,plD u ls),some (.sh,.int (step:Int)),some (.sh,tpD p),some (.sh,rowD row),some (.deep,fK (cK ls step p.length (row.take i))),o6,none])
    (by simp only[cX,gS,dk,eO,fG,va_a,shAt_s,shAt_0,shAt_1,Option.bind_some];rfl) ⟨none,rfl⟩ (by
      rintro i d U hd ⟨o6,rfl⟩
      rw[getElem?_map]at hd
      cases hk:row[i]? with
      |none=>rw[hk]at hd;cases hd
      |some k=>
        rw[hk]at hd
        cases hd
        obtain⟨l,j,g1,g2,g3,g4⟩:=hi k (Ol hk)
        have hpk:pkOf ls step k=j:=by unfold pkOf;rw[g1,Option.bind_some,g3];rfl
        obtain⟨f1,f2⟩:=xx ls step p.length (row.take i) k (by rw[hpk];exact g4)
        rw[hpk]at f1 f2
        have ht:row.take (i+1)=row.take i++[k]:=by rw[List.take_succ,hk];rfl
        have x1:ixD (kj l) (.int 1)=some (.int (l.t:Int)):=vJ _ _ _
        have y1:ixD (lsD v ls) (.int (k:Int))=some _:=EZ g1
        have y2:ixD (plD u ls) (.int (k:Int))=some _:=EZ g1
        have y3:ixD (wD l.w) (.int ((step:Int)-(l.t:Int)))=some (.int (j:Int)):=by
          rw[show(step:Int)-(l.t:Int)=((step-l.t:Nat):Int)by omega]
          exact atI_mapN g3
        refine⟨_,(ak (DC (j:=j) (ds2:=((row.take i).filter λi=>decide (pkOf ls step i=j)).map λ(k:Nat)=>D.int (k:Int)) (d:=.int (k:Int)) rfl ?_ ?_ ?_ rfl ?_)).trans rfl,⟨some (.sh,.int (k:Int)),?_⟩⟩
        · simp only[set_cons_succ,set_cons_zero,vw_some,vw_none,vw_nil,bin2_a,va_a,shAt_s,shAt_0,shAt_1,cI_a,Option.bind_some,y1,y2,x1,subD_ii,y3]
        · rw[getElem?_map,f1];rfl
        · simp only[set_cons_succ,set_cons_zero,gS,dk,eO,fG,va_a,shAt_s,shAt_0,shAt_1]
        · rw[length_map]
          have:=List.length_filter_le (λi=>decide (pkOf ls step i=j)) (row.take i)
          rw[List.length_take]at this
          have h2:(25:Nat)<big:=by decide
          omega
        · rw[ht,f2]
          unfold fK
          simp only[set_cons_succ,set_cons_zero,List.map_set]
          rw[show rowD ((List.filter (λi=>decide _) _)++[k])=.lst ((((row.take i).filter λi=>decide _).map λ(k:Nat)=>D.int (k:Int))++[.int (k:Int)])by unfold rowD;rw[List.map_append];rfl])
  obtain⟨U',e,o6,rfl⟩:=L
  refine(ak a1).trans ((ak e).trans (aA ?_))
  rw[length_map,List.take_length]
  rfl
theorem ot:∀ {es:NS},lfL es=true->extC .deep es=.deep
 |[],_=>rfl
 |d::es,h=>by
  rw[Ao,and_eq_true]at h;show extC (newCat .deep (extS d)) es=.deep;rw[show newCat .deep (extS d)=.deep by unfold extS newCat;rw[h.1];rfl];exact ot h.2
theorem ou (h0:ownL U i=some (.deep,ds)) (hR:R (shv U)=some (.lst es)) (lf:lfL es=true) (hl:ds.length+es.length<big):tR i R U=some (.nx (U.set i (some (.deep,.lst (ds++es))))):=by
 have e:extA i R U=some (.nx (U.set i (some (.deep,.lst (ds++es))))):=by
  unfold extA;rw[h0];simp only[Option.bind_some,hR];show(if ds.length+es.length<big then _ else _)=_;rw[if_pos hl,ot lf]
 unfold tR orO;rw[e]
noncomputable def d9 (q:Pk×List Nat):NO:=if q.1.1 then q.2 else q.2.reverse
def dQ (p:List Pk) (hs:List (NO)):NO:=((p.zip hs).map d9).flatten
theorem AH (r:NO):(!18).reverse=r.reverse.map λ(k:Nat)=>D.int (k:Int):=by rw[List.map_reverse]
theorem DD (h1:xs U=none) (h2:ys U=some [d]) (h3:fu d=some ds):liG xs (orO (rvF ys) zs) U=some (.lst ds.reverse):=by
 unfold liG orO lsF rvF;simp only[h1,h2,Option.bind_none,Option.bind_some];rw[show revD [d]=some ds.reverse by show(fu d).bind _=_;rw[h3];rfl];rfl
def uu (f:ad):Prop:=∀ (p:List Pk) (hs:List (NO)),p.length<=6->(∀h∈hs,h.length<=24)->f [tpD p,fK hs]=some (.deep,rowD (dQ p hs))
theorem AI {xs:List (NO)} (h:∀x∈xs,x.length<=n):xs.flatten.length<=xs.length*n:=by
 induction xs with
 |nil=>simp
 |cons x xs ih=>
  rw[List.flatten_cons,length_append,length_cons,Nat.succ_mul];have a:=h x N5;have b:=ih λy hy=>h y (N6 _ hy);omega
theorem DE:uu (aL 2 5 xv):=λp hs hp hh=>by
 refine aq rfl ?_;have a1:evX (lsF (dpF af)) (dpF af) (fLs af) [some (.sh,tpD p),some (.sh,fK hs),none,none,none]=some ((.deep,.lst []),[some _,some _,none,none,none]):=evX_lfs (d:=.lst []) (by simp) rfl (by simp) rfl;have L:=cW (J:=jX (zpF (aa (va 0) (aa (va 1) af))) (biF noD (aa (va 0) (aa (va 1) af)))) (tg:=eTp 2 (dF (eNm 3) (dF (eNm 4) pi)))
  (F:=(ae (tR 2 (ifF (av (ab (!29) (ab ixD (va 3) (cI 0)) (cS "queue"))) (va 4) (liG (aa (biF noD (aa (va 4) af)) af) (orO (rvF (aa (va 4) af)) (l1F (aa (biF noD (aa (va 4) af)) af)))))) nxE))
  (ds:=(p.zip hs).map λq=>.tup [pkD q.1,rowD q.2])
  (λi U=>∃o3 o4,U=[some (.sh,tpD p),some (.sh,fK hs),some (.deep,rowD (((p.zip hs).take i).map d9).flatten),o3,o4])
  (by
   refine vG ?_;simp only[gS,dk,eO,fG,consX_a,va_a,shAt_s,shAt_0,shAt_1,nilX_a,Option.bind_some];rw[iI rfl rfl,gT]) ⟨none,none,rfl⟩ (by
   rintro i d U hd ⟨o3,o4,rfl⟩;rw[getElem?_map]at hd;cases hq:(p.zip hs)[i]? with
   |none=>rw[hq]at hd;cases hd
   |some q=>
    rw[hq]at hd;cases hd;obtain⟨⟨b,w⟩,h⟩:=q;obtain⟨g1,g2⟩:=List.getElem?_zip_eq_some.mp hq;have hlen:=hh h (Ol g2);have ht:(p.zip hs).take (i+1)=(p.zip hs).take i++[((b,w),h)]:=by rw[List.take_succ,hq];rfl
    have hb:((((p.zip hs).take i).map d9).flatten).length<=144:=by
     refine Oa (AI (n:=24) λx hx=>?_) ?_
     ·obtain⟨y,hy,rfl⟩:=Oc.mp hx;have hy2:=(List.of_mem_zip (List.mem_of_mem_take hy)).2;unfold d9;split
      ·exact hh _ hy2
      ·rw[List.length_reverse];exact hh _ hy2
     ·rw[length_map,List.length_take,List.length_zip];omega
    have x0:ixD (pkD (b,w)) (.int 0)=some _:=rD _ _;refine⟨_,(ak (ou (es:=(d9 ((b,w),h)).map λ(k:Nat)=>D.int (k:Int)) rfl ?_ (lf_row _) ?_)).trans rfl,⟨some (.sh,pkD (b,w)),some (.sh,rowD h),?_⟩⟩
    ·simp only[set_cons_succ,set_cons_zero,gS,dk,eO,fG,EV,testB_a,bin2_a,va_a,shAt_s,shAt_0,shAt_1,cI_a,cS_a,Option.bind_some,x0,Ap,asB_bl];cases b with
     |true=>rfl
     |false=>
      refine(DD ?_ rfl rfl).trans ?_
      ·simp[noD]
      ·rw[AH];rfl
    ·rw[length_map,length_map];have h2:(d9 ((b,w),h)).length<=24:=by
      unfold d9;split
      ·exact hlen
      ·rw[List.length_reverse];exact hlen
     have h3:(1000:Nat)<big:=by decide
     omega
    ·rw[ht,List.map_append,List.flatten_append];simp only[set_cons_succ,set_cons_zero];unfold rowD;simp)
 obtain⟨U',e,o3,o4,rfl⟩:=L;refine(ak (bV a1)).trans ((ak e).trans (aA ?_));rw[length_map,List.take_length];rfl
theorem mem_join:k∈bG ls t↔∃l,ls[k]?=some l/\l.t=t:=by
 unfold bG;simp only[List.mem_map,List.mem_filter,decide_eq_true_eq];constructor
 ·rintro⟨⟨l,j⟩,⟨h1,h2⟩,rfl⟩;exact⟨l,List.mem_zipIdx_iff_getElem?.mp h1,h2⟩
 ·rintro⟨l,h1,h2⟩;exact⟨(l,k),⟨List.mem_zipIdx_iff_getElem?.mpr h1,h2⟩,rfl⟩
theorem mv (f:Nat->Nat):∀ (n:Nat) (row:NO),(∀k∈row,f k<n)->(((!6).map λj=>row.filter λk=>decide (f k=j)).flatten).Perm row
 |0,row,h=>by
  cases row with
  |nil=>exact .nil
  |cons k _=>exact absurd (h k N5) (!1)
 |n+1,row,h=>by
  rw[List.range_succ,List.map_append,List.flatten_append];have e:((!6).map λj=>row.filter λk=>decide (f k=j))=((!6).map λj=>(row.filter λk=>decide (f k<n)).filter λk=>decide (f k=j)):=by
   apply List.map_congr_left;intro j hj;rw[List.filter_filter];apply List.filter_congr;intro k _;have:=Oj.mp hj;by_cases e:f k=j
   ·simp[e,this]
   ·simp[e]
  have a:=mv f n (row.filter λk=>decide (f k<n)) λk hk=>by simpa using (List.mem_filter.mp hk).2
  rw[e];have b:(row.filter λk=>decide (f k=n))=row.filter λk=>!decide (f k<n):=by
   apply List.filter_congr;intro k hk;have:=h k hk;by_cases e:f k=n
   ·simp[e]
   ·have:f k<n:=by omega
    simp[e,this]
  simp only[List.map_cons,List.map_nil,List.flatten_cons,List.flatten_nil,List.append_nil];rw[b];exact(a.append_right _).trans (List.filter_append_perm _ _)
theorem ox:∀ (p:List Pk) (hs:List (NO)),p.length=hs.length->(dQ p hs).Perm hs.flatten
 |[],[],_=>.nil
 |[],_::_,h=>by simp at h
 |_::_,[],h=>by simp at h
 |a::p,h::hs,e=>by
  have ih:=ox p hs (by simpa using e);unfold dQ at ih⊢;rw[List.zip_cons_cons,List.map_cons,List.flatten_cons,List.flatten_cons];refine List.Perm.append ?_ ih;unfold d9;split
  ·exact .refl _
  ·exact List.reverse_perm _
theorem jm {step} (h:∀k∈row,pkOf ls step k<p.length):(dQ p (cK ls step p.length row)).Perm row:=
 (ox p _ (by unfold cK;rw[length_map,length_range])).trans (mv _ _ _ h)
def rowAt (ps:NF) (ls:List Lt):Nat->NO
 |0=>bG ls 0
 |i+1=>dQ (ps[i]?.getD []) (cK ls i (ps[i]?.getD []).length (rowAt ps ls i))++bG ls (i+1)
theorem AJ (h:∀l∈ls,LtOk ps l) (hk:ls[k]?=some l) (ht:l.t<=i) (hi:i<ps.length):∃j,l.w[i-l.t]?=some j/\j<(ps[i]?.getD []).length/\pkOf ls i k=j:=by
 have o:=h l (Ol hk);have hl:i-l.t<l.w.length:=by rw[o.w.len,List.length_drop];omega
 refine⟨l.w[i-l.t],getElem?_eq_getElem hl,?_,?_⟩
 ·have hz:(l.w.zip (ps.drop l.t))[i-l.t]?=some (l.w[i-l.t],ps[i]):=by
   rw[List.getElem?_zip_eq_some];refine⟨getElem?_eq_getElem hl,?_⟩;rw[List.getElem?_drop,show l.t+(i-l.t)=i by omega];exact getElem?_eq_getElem hi
  have:=o.w.each _ (Ol hz);rw[getElem?_eq_getElem hi];exact this
 ·unfold pkOf;rw[hk,Option.bind_some,getElem?_eq_getElem hl];rfl
theorem eR (h:∀l∈ls,LtOk ps l):∀ (i:Nat),i<=ps.length->∀k,k∈rowAt ps ls i↔∃l,ls[k]?=some l/\l.t<=i
 |0,_,k=>by
  show k∈bG ls 0↔_;rw[mem_join];exact⟨λ⟨l,a,b⟩=>⟨l,a,by omega⟩,λ⟨l,a,b⟩=>⟨l,a,by omega⟩⟩
 |i+1,hi,k=>by
  have ih:=eR h i (!1);have pm:=jm (ls:=ls) (step:=i) (p:=ps[i]?.getD []) (row:=rowAt ps ls i) λk hk=>by
   obtain⟨l,a,b⟩:=(ih k).mp hk;obtain⟨j,_,c,d⟩:=AJ h a b (!1);rw[d];exact c
  show k∈dQ _ _++bG ls (i+1)↔_;rw[mem_append,pm.mem_iff,ih,mem_join];constructor
  ·rintro(⟨l,a,b⟩|⟨l,a,b⟩)
   ·exact⟨l,a,by omega⟩
   ·exact⟨l,a,by omega⟩
  ·rintro⟨l,a,b⟩;by_cases e:l.t<=i
   ·exact .inl ⟨l,a,e⟩
   ·exact .inr ⟨l,a,by omega⟩
theorem mw (ls:List Lt) (t:Nat):(bG ls t).Nodup:=by
 have h:(ls.zipIdx.map (·.2)).Nodup:=by rw[List.zipIdx_map_snd];exact List.nodup_range' ..
 grind [bG]
theorem jn (h:∀l∈ls,LtOk ps l):∀ (i:Nat),i<=ps.length->(rowAt ps ls i).Nodup
 |0,_=>mw ls 0
 |i+1,hi=>by
  have ih:=jn h i (!1);have pm:=jm (ls:=ls) (step:=i) (p:=ps[i]?.getD []) (row:=rowAt ps ls i) λk hk=>by
   obtain⟨l,a,b⟩:=(eR h i (!1) k).mp hk;obtain⟨j,_,c,d⟩:=AJ h a b (!1);rw[d];exact c
  refine List.nodup_append.mpr ⟨pm.symm.nodup ih,mw _ _,λa ha b hb e=>?_⟩;subst e;obtain⟨l,x,y⟩:=(eR h i (!1) a).mp (pm.mem_iff.mp ha);obtain⟨l',x',y'⟩:=mem_join.mp hb;rw[x]at x';cases x';omega
theorem AK:∀ (n:Nat) (r:NO),r.Nodup->(∀k∈r,k<n)->r.length<=n
 |0,r,_,h=>by
  cases r with
  |nil=>simp
  |cons k _=>exact absurd (h k N5) (!1)
 |n+1,r,nd,h=>by
  have a:=AK n (r.filter λk=>decide (k≠n)) (List.filter_sublist.nodup nd) λk hk=>by
   have h1:=h k (List.mem_filter.mp hk).1;have h2:k≠n:=by simpa using (List.mem_filter.mp hk).2
   omega
  have b:(r.filter λk=>!decide (k≠n)).length<=1:=by
   have hn:(r.filter λk=>!decide (k≠n)).Nodup:=List.filter_sublist.nodup nd;have he:∀k∈(r.filter λk=>!decide (k≠n)),k=n:=λk hk=>by simpa using (List.mem_filter.mp hk).2
   cases hc:(r.filter λk=>!decide (k≠n))with
   |nil=>simp
   |cons x xs=>
    cases xs with
    |nil=>simp
    |cons y ys=>
     rw[hc]at hn he;have e1:=he x N5;have e2:=he y (N6 _ N5);have:=(List.nodup_cons.mp hn).1;rw[e1,e2]at this;exact absurd N5 this
  have c:=(List.filter_append_perm (λk=>decide (k≠n)) r).length_eq;rw[length_append]at c;omega
theorem vQ (h:∀l∈ls,LtOk ps l) (i:Nat) (hi:i<=ps.length):(rowAt ps ls i).length<=ls.length:=by
 have sub:∀k∈rowAt ps ls i,k∈List.range ls.length:=λk hk=>by
  obtain⟨l,a,_⟩:=(eR h i hi k).mp hk;exact Oj.mpr (N4.mp a).1
 exact AK _ _ (jn h i hi) λk hk=>Oj.mp (sub k hk)
theorem evX_cat {R L Sp} (h:R (vw U)=none) (hl:L (vw U)=some ds) (fl:lfL ds=true):evX R L Sp U=some ((.deep,.lst ds),U):=by
 unfold evX orO kh frX orO lfO jd;simp_all
theorem DF (h1:gi i g U=none) (h0:ownL U i=some (c0,ds0)) (h2:R (shv (frzS [j] U))=some d) (ho:ownL (frzS [j] U) i=some (.top,ds)) (hl:ds.length+1<big):
  pP i j g R U=some (.nx ((frzS [j] U).set i (some (.top,.lst (ds++[d]))))):=by
 unfold pP orO
 rw[h1]
 unfold gi ph
 simp only[h0,h2,ho,Option.bind_some]
 rw[if_pos hl]
 rfl
theorem DG (h:g U=some (s,eI U)) (ho:ownL (eI U) i=none):gi i g U=none:=by
 unfold gi;cases ownL U i with
 |none=>rfl
 |some w=>simp only[Option.bind_some,h,ho,Option.bind_none]
def dn (ps:NF) (ls:List Lt) (n:Nat):NS:=(!6).map λi=>rowD (rowAt ps ls i)
def uv (f:ad):Prop:=∀ (v u:Bool) (ps:NF) (ls:List Lt),Valid ps->ls.length<=24->(∀l∈ls,LtOk ps l)->f [ah ps,lsD v ls,plD u ls]=some (.top,.lst (dn ps ls (ps.length+1)))
theorem DH {fl fi em jo lo} (hfl:fl "Mill" "passes"=true) (hfi:AG fi) (hem:uu em) (hjo:AF jo) (hlo:qb lo):uv (aL 3 7 (Dz fl fi em jo lo)):=λv u ps ls hv h24 h=>by
 have hs:ax 7 [ah ps,lsD v ls,plD u ls]=[some _,some _,some _,none,none,none,none]:=rfl;have hf:ki fl "passes" (ah ps)=some (aS ps):=by simp[ki,ah,hfl]
 have hz:jo [lsD v ls,.int 0]=some (.deep,rowD _):=hjo v ls 0 h24;refine aq rfl ?_;rw[hs];have L:=cW (J:=jX (enF (aa (!8) af)) (biF noD (aa (!8) af))) (tg:=eTp 2 (dF (eNm 5) (dF (eNm 6) pi)))
  (F:=(ae (aw 3 (evX (ab aG (clF em (aa (va 6) (aa (clF fi (aa (va 1) (aa (va 2) (aa (va 5) (aa (va 6) _))))) af))) (clF jo (aa (va 1) (aa _ af)))) (iw (clF em (aa (va 6) (aa (clF fi (aa (va 1) (aa (va 2) (aa (va 5) (aa (va 6) _))))) af))) (clF jo (aa (va 1) (aa _ af)))) noV)) (ae (pP 4 3 (evX (va 3) noV noV) (va 3)) nxE)))
  (ds:=ps.zipIdx.map λp=>.tup [.int (p.2:Nat),tpD p.1])
  (λi U=>∃o5 o6,U=[some (.sh,ah ps),some (.sh,lsD v ls),some (.sh,plD u ls),some (.sh,rowD (rowAt ps ls i)),some (.top,.lst (dn ps ls (i+1))),o5,o6])
  (by
   refine AE ?_;simp only[gS,dk,eO,Do,consX_a,va_a,ES,shAt_s,shAt_0,shAt_1,nilX_a,Option.bind_some,hf];show(seqD (aS ps)).bind (λxs=>some (iq xs))=_;rw[show seqD (aS ps)=some _ from rfl,Option.bind_some,jk]) ⟨none,none,rfl⟩ (by
   rintro i d U hd ⟨o5,o6,rfl⟩;rw[getElem?_map,List.getElem?_zipIdx]at hd;cases hp:ps[i]? with
   |none=>rw[hp]at hd;cases hd
   |some p=>
    rw[hp]at hd;simp only[map_some,Nat.zero_add,Option.some.injEq]at hd;subst hd;have hil:=(N4.mp hp).1;have hpg:ps[i]?.getD []=p:=by rw[hp];rfl
    have hpl:=(hv.p (Ol hp)).2.1;have hin:E6 ls i p.length (rowAt ps ls i):=λk hk=>by
     obtain⟨l,a,b⟩:=(eR h i (!1) k).mp hk;obtain⟨j,c,d,_⟩:=AJ h a b hil;rw[hpg]at d;exact⟨l,j,a,b,c,d⟩
    have hrl:=Oa (vQ h i (!1)) h24;have hrl2:=Oa (vQ h (i+1) (!1)) h24;have y1:=hfi v u ls i p _ h24 hrl hpl hin;have y2:=hem p (cK ls i p.length _) hpl (λx hx=>by
     obtain⟨j,_,rfl⟩:=Oc.mp hx;exact Oa (List.length_filter_le _ _) hrl)
    have y3:=hjo v ls (i+1) h24;have er:rowAt ps ls (i+1)=dQ p (cK ls i p.length (rowAt ps ls i))++bG ls (i+1):=by
     show dQ _ _++_=_;rw[hpg]
    have a2:evX (ab aG (clF em (aa (va 6) (aa (clF fi (aa (va 1) (aa (va 2) (aa (va 5) (aa (va 6) (!27)))))) af))) (clF jo (aa (va 1) (aa (ab aG (va 5) (cI 1)) af)))) (iw (clF em (aa (va 6) (aa (clF fi (aa (va 1) (aa (va 2) (aa (va 5) (aa (va 6) (!27)))))) af))) (clF jo (aa (va 1) (aa (ab aG (va 5) (cI 1)) af)))) noV
      [some (.sh,ah ps),some (.sh,lsD v ls),some (.sh,plD u ls),some (.sh,rowD (rowAt ps ls i)),some (.top,.lst (dn ps ls (i+1))),some (.sh,.int (i:Nat)),some (.sh,tpD p)]=some ((.deep,rowD (rowAt ps ls (i+1))),[some (.sh,ah ps),some (.sh,lsD v ls),some (.sh,plD u ls),some (.sh,rowD (rowAt ps ls i)),some (.top,.lst (dn ps ls (i+1))),some (.sh,.int (i:Nat)),some (.sh,tpD p)]):=by
     refine evX_cat ?_ ?_ (lf_row _)
     ·simp only[vw_some,vw_none,vw_nil,clF_a,consX_a,nilX_a,bin2_a,va_a,shAt_s,shAt_0,shAt_1,cI_a,Option.bind_some,y1,y2,valO_some,addD_ii];rw[show(i:Int)+1=((i+1:Nat):Int)from rfl,y3];rfl
     ·show(_:NU).bind _=_;simp only[vw_some,vw_none,vw_nil,clF_a,consX_a,nilX_a,bin2_a,va_a,shAt_s,shAt_0,shAt_1,cI_a,Option.bind_some,y1,y2,valO_some,addD_ii];rw[show(i:Int)+1=((i+1:Nat):Int)from rfl,y3];rw[er,List.map_append];refine cY ?_;rw[<-List.map_append,<-er,length_map];exact N9 hrl2 (!4)
    refine⟨_,(ak (bV a2)).trans ((ak (DF (d:=rowD (rowAt ps ls (i+1))) ?_ rfl ?_ rfl ?_)).trans rfl),⟨some (.sh,.int (i:Nat)),some (.sh,tpD p),?_⟩⟩
    ·exact DG (HN (d:=rowD (rowAt ps ls (i+1))) (by simp) rfl rfl rfl rfl (by simp[rowD])) rfl
    ·rfl
    ·unfold dn;rw[length_map,length_range];have:ps.length<=6:=hv.len;have h3:(1000:Nat)<big:=by decide
     omega
    ·show[_,_,_,_,_,_,_]=[_,_,_,_,_,_,_];have:dn ps ls (i+1)++[rowD (rowAt ps ls (i+1))]=dn ps ls (i+1+1):=by
      unfold dn;rw[List.range_succ (n:=i+1),List.map_append];rfl
     rw[this];rfl)
 obtain⟨U',e,o5,o6,rfl⟩:=L;have b1:evX (clF jo (aa (va 1) (aa (cI 0) af))) noV (fCl jo (aa (va 1) (aa (cI 0) af))) [some (.sh,ah ps),some (.sh,lsD v ls),some (.sh,plD u ls),none,none,none,none]=some ((.deep,rowD (bG ls 0)),[some _,some _,some _,none,none,none,none]):=
  evX_call (d:=rowD (bG ls 0)) (by simp[hz]) rfl rfl (by simp[hz])
 have b2:evL [3] (frX (lsF (dpF (!27))) (dpF (!27)) (fLs (aa (frX (va 3) noV noV) af))) (dpF (!27)) (lsF (dpF (!27))) [some (.sh,ah ps),some (.sh,lsD v ls),some (.sh,plD u ls),some (.deep,rowD (bG ls 0)),none,none,none]=some ((.top,.lst [rowD (bG ls 0)]),[some (.sh,ah ps),some (.sh,lsD v ls),some (.sh,plD u ls),some (.sh,rowD (bG ls 0)),none,none,none]):=by
  unfold evL orO kh jV ph frX orO lfO jd;simp[rowD,frzS,frz1,shO,lfO,jd,orO]
 refine(ak (fJ (d:=.non) ?_)).trans ((ak (bV b1)).trans ((ak (bV b2)).trans ((ak e).trans (aA ?_))))
 ·simp[hlo v u ps ls hv h24 h]
 ·rw[length_map,List.length_zipIdx];rfl
def HV (f:ad):Prop:=∀ (v u:Bool) (ps:NF) (ls:List Lt),Valid ps->ls.length<=24->(∀l∈ls,LtOk ps l)->f [ah ps,lsD v ls,plD u ls]=some (.sh,rowD (rowAt ps ls ps.length))
theorem KM {tr} (ht:uv tr):HV (aL 3 3 (xw tr)):=λv u ps ls hv h24 h=>by
 have y:=ht v u ps ls hv h24 h;have hx:dn ps ls (ps.length+1)=dn ps ls ps.length++[rowD (rowAt ps ls ps.length)]:=by unfold dn;rw[List.range_succ,List.map_append];rfl
 have key:∀U:Vv,cf U 0=some (ah ps)->cf U 1=some (lsD v ls)->cf U 2=some (plD u ls)->ab ixD (clF tr (aa (va 0) (aa (va 1) (!21)))) (ngF (cI 1)) U=some (rowD _):=λU h0 h1 h2=>by
  simp only[bin2_a,clF_a,consX_a,va_a,nilX_a,h0,h1,h2,Option.bind_some,y,valO_some,vF,cI_a,pQ,Dn];rw[hx];exact ym _ _
 refine aq rfl ?_;exact aA (aR (uh (key _ rfl rfl rfl) rfl rfl rfl rfl (key _ rfl rfl rfl)))
def eg (fl:Str->Str->Bool):Cl:=(ae (frF (jX noV (!8)) (eNm 1) (ae (ifS (trF (biF zQ (aa (lsF (aj [2,3] (jX noV (va 1)) (gTp 2 (ao (gNm 2) (ao (gNm 3) aX))) tQ (ab (!29) (va 3) (cI 0)))) af))) (ae noO' nxE) nxE) nxE)) nxE)
def AL (ay:ad):Cl:=(ae (ifS (orQ (ci (trF (biF ff (aa (va 0) (aa (tpF (aa (cT "list") (aa (cT "tuple") af))) af))))) (av (ab gtD (biF bn (!23)) (cD (.int 24))))) (ae (bP (evX (cB false) noV noV)) nxE) nxE) (ae (bP (evX (ke (biF lG (aa (lsF (aj [1] (jX noV (va 0)) (gNm 1) tQ (clF ay (aa (va 1) (aa (cI 0) (aa (ab bE (biF bn (!23)) (cI 1)) af)))))) af)) (ab (!29) (liG (!23) (s1F (!23))) (liG (aa (biF noD (aa (biF bn (!23)) af)) af) (orO (lrF (aa (biF bn (!23)) af)) (l1F (aa (biF noD (aa (biF bn (!23)) af)) af)))))) noV noV)) nxE))
section
variable {G F:Cl} {U U':Ev} {out:Option Out}
theorem q_set (h:g U=some (s,U')) (k:G (U'.set i (some s))=out):ae (aw i g) G U=out:=(ak (bV h)).trans k
theorem AM (h:f (vw U)=some d) (k:G U=out):ae (fB f) G U=out:=(ak (fJ h)).trans k
theorem q_if0 (h:c (vw U)=some false) (k:G U=out):ae (ifS c F nxE) G U=out:=(ak ((bW h).trans rfl)).trans k
theorem q_st (h:F U=some (.nx U')) (k:G U'=out):ae F G U=out:=(ak h).trans k
theorem q_ret (h:g U=some (s,U')):ae (bP g) G U=some (.rt s):=aA (aR h)
theorem KN (I:Nat->Ev->Prop) (hJ:J (shv U)=some ds) (h0:I 0 U) (hs:∀ (i:Nat) (d:D) (U:Ev),ds[i]?=some d->I i U->∃U',(tg d U).bind F=some (.nx U')/\I (i+1) U') (k:∀U',I ds.length U'->G U'=out):ae (frF J tg F) G U=out:=by
 obtain⟨U',e,i⟩:=cW I hJ h0 hs;exact(ak e).trans (k _ i)
theorem AN {β:Type} {xs:List β} {mk} (I:Nat->Ev->Prop) (hJ:J (shv U)=some (xs.map mk)) (h0:I 0 U) (hs:∀ (i:Nat) (x:β) (U:Ev),xs[i]?=some x->I i U->∃U',(tg (mk x) U).bind F=some (.nx U')/\I (i+1) U') (k:∀U',I xs.length U'->G U'=out):ae (frF J tg F) G U=out:=KN I hJ h0 (λi d U hd hi=>by
 rw[getElem?_map]at hd;cases hx:xs[i]? with
 |none=>rw[hx]at hd;cases hd
 |some x=>rw[hx]at hd;cases hd;exact hs i x U hx hi) (by rw[length_map];exact k)
theorem HW {β:Type} {xs:List β} {mk} (I:Nat->Ev->Prop) (hJ:J (shv U)=some (xs.map mk)) (h0:I 0 U) (hs:∀ (i:Nat) (x:β) (U:Ev),xs[i]?=some x->I i U->∃U',(tg (mk x) U).bind F=some (.nx U')/\I (i+1) U'):
  ∃U',ae (frF J tg F) nxE U=some (.nx U'):=by
 obtain⟨U',e,i⟩:=cW I hJ h0 (λi d U hd hi=>by
  rw[getElem?_map]at hd;cases hx:xs[i]? with
  |none=>rw[hx]at hd;cases hd
  |some x=>rw[hx]at hd;cases hd;exact hs i x U hx hi)
 exact⟨U',(ak e).trans rfl⟩
theorem HX (h:J (shv U)=none) (e:gP J tg F (frzS [i] U)=some x):frY i J tg F U=some x:=by
 unfold frY orO;rw[show gP J tg F U=none by unfold gP;rw[h];rfl];simp only[e]
end
theorem mx:∀r:NO,cg (!18)=some (r.map λ(k:Nat)=>(k:Int))
 |[]=>rfl
 |k::r=>by
  show(cg (!18)).bind (λxs=>some ((k:Int)::xs))=_;rw[mx r];rfl
theorem DI {r:NO} (h:r.Perm (!6)):pF (r.map λ(k:Nat)=>(k:Int))=(!6).map λ(k:Nat)=>(k:Int):=by
 refine(zv (h.symm.map _) ?_).symm;rw[List.pairwise_map];exact List.pairwise_lt_range.imp λh=>by omega
theorem sort_row (h:r.Perm (!6)) (hn:n<=24):jZ [rowD r]=some ((!6).map λ(k:Nat)=>D.int (k:Int)):=by
 show((cg (!18)).bind λns=>if ns.length<64 then some ((pF ns).map D.int)else none)=_;rw[mx];simp only[Option.bind_some];have hl:r.length=n:=by rw[h.length_eq,length_range]
 rw[if_pos (by rw[length_map];omega),DI h,List.map_map];rfl
theorem HY {n:Nat} (hn:n<=24):lrD [.int (n:Int)]=some ((!6).map λ(k:Nat)=>D.int (k:Int)):=by
 show(if inR (n:Int)/\(n:Int)<1000000 then some (kf 0 (n:Int).toNat)else none)=_;rw[if_pos ⟨vK (!1),by omega⟩,Int.toNat_natCast,Ar]
theorem qc:∀r:NO,okL (!18)=true/\de (!18)=0
 |[]=>⟨rfl,rfl⟩
 |k::r=>⟨by show(true&&okL _)=true;rw[(qc r).1];rfl,by show max 0 (de _)=0;rw[(qc r).2];rfl⟩
theorem DJ (neg:Bool) (h2:okE d=true) (h3:dep d<=50) (h4:F5 d d=true) (h1:bQ d=false):aK neg d d=some (.bl (!neg)):=by
 unfold aK jU;rw[show(bQ d&&bQ d&&xX (toV d) (toV d))=false by rw[h1];rfl,if_neg (!4),h2,h4,decide_eq_true h3,if_pos (by rfl),qQ _ h2];cases neg<;>rfl
theorem AO (neg:Bool) (r:NO):aK neg (rowD r) (rowD r)=some (.bl (!neg)):=DJ neg (qc r).1 (by show de _+1<=50;rw[(qc r).2];decide) rfl rfl
theorem vR (h:L U=some ds):liG xs L U=some (.lst ds):=by
 unfold liG orO lsF;have:(xs U).bind noD=none:=by cases xs U<;>rfl
 simp only[this,h];rfl
theorem MW (hn:n<=24) (h:ys U=some [.int (n:Int)]):orO (lrF ys) zs U=some ((!6).map λ(k:Nat)=>D.int (k:Int)):=by
 have:lrF ys U=some ((!6).map λ(k:Nat)=>D.int (k:Int)):=by
  unfold lrF;rw[h];exact HY hn
 unfold orO;rw[this]
theorem AQ {β:Type} (xs:List β) (p:β->Bool):zQ [.lst (xs.map λx=>.bl (p x))]=some (.bl (xs.any p)):=by
 have e:xs.map (λx=>D.bl (p x))=(xs.map p).map D.bl:=by rw[List.map_map];rfl
 rw[e];unfold zQ un1;simp only[fu,Option.bind_some];rw[l9];simp[List.any_map];rfl
def Wide (ps:NF):Prop:=∀p∈ps,∀k∈p,1<=k.2
def HZ (f:ad):Prop:=∀ps:NF,Valid ps->Wide ps->f [ah ps]=some (.deep,.non)
theorem KO (hfl:fl "Mill" "passes"=true):HZ (aL 1 4 (eg fl)):=λps hv hw=>by
 have hf:ki fl "passes" (ah ps)=some (aS ps):=by simp[ki,ah,hfl]
 have L:∃U',eg fl [some (.sh,ah ps),none,none,none]=some (.nx U'):=by
  refine HW (xs:=ps) (mk:=tpD) (λi U=>∃o1,U=[some _,o1,none,none]) ?_ ⟨none,rfl⟩ ?_
  ·simp only[cX,gS,dk,eO,ES,va_a,shAt_0,Option.bind_some,hf];rfl
  ·rintro i p U hp ⟨o1,rfl⟩;have hpl:=(hv.p (Ol hp)).2.1;have hm:aj [2,3] (jX noV (va 1)) (gTp 2 (ao (gNm 2) (ao (gNm 3) aX))) tQ (ab (!29) (va 3) (cI 0)) [some (ah ps),some (tpD p),none,none]=some (p.map λ_=>.bl false):=by
    refine aC (by simp only[cX,va_a,shAt_1,Option.bind_some];rfl) (λk hk=>?_) (N9 hpl (!4));have h1:¬k.2=0:=by have:=hw p (Ol hp) k hk;omega
    show jT _ _ _ _ (.tup [.str (kd k.1),.int k.2])=_;simp[h1]
   refine⟨_,q_if0 ?_ rfl,⟨some _,rfl⟩⟩;simp only[set_cons_succ,set_cons_zero,vw_some,vw_none,vw_nil,trF_a,biF_a,consX_a,nilX_a,lsF_a,hm,map_some,Option.bind_some,AQ p λ_=>false];simp
 obtain⟨U',e⟩:=L;exact fH rfl e
def uw (f:ad):Prop:=∀ (r:NO) (n:Nat),r.Perm (!6)->n<=24->f [rowD r]=some (.deep,.bl true)
theorem DK (hw:dG w):uw (aL 1 2 (AL w)):=λr n pm hn=>by
 have hs:ax 2 [rowD r]=[some _,none]:=rfl;have hl:r.length=n:=by rw[pm.length_eq,length_range]
 have y:seqD (rowD r)=some (!18):=rfl;have hm:aj [1] (jX noV (va 0)) (gNm 1) tQ (clF w (aa (va 1) (aa (cI 0) (aa (ab bE (biF bn (!23)) (cI 1)) af)))) [some (rowD r),none]=some (r.map λ_=>.bl true):=by
  refine aC (mk:=λ(k:Nat)=>D.int (k:Int)) (by simp only[cX,va_a,shAt_0,Option.bind_some,y]) (λk hk=>?_) (N9 (by omega:r.length<=24) (!4));have h1:=Oj.mp (pm.mem_iff.mp hk);have h2:(0:Int)<=(k:Int):=by omega
  have h3:(k:Int)<=(r.length:Int)-1:=by omega
  simp only[stepF_a,wipe_cons,wipe_nil,gNm_a,tQ_a,set_cons_succ,set_cons_zero,Option.bind_some,if_true,clF_a,consX_a,nilX_a,va_a,shAt_0,shAt_1,cI_a,bin2_a,biF_a,dP,y,length_map,subD_ii,hw (k:Int) 0 ((r.length:Int)-1),valO_some,h2,h3,decide_true];rfl
 have s1:s1F (!23) [some (rowD r),none]=some ((!6).map λ(k:Nat)=>D.int (k:Int)):=by
  show(aa (va 0) af _).bind cb=_;simp only[consX_a,nilX_a,va_a,shAt_0,Option.bind_some,kQ (sort_row pm hn)]
 refine aq rfl ?_;rw[hs];have h24:¬ (24:Int)<(r.length:Int):=by omega
 refine q_if0 ?_ (q_ret (evX_lf ?_ rfl))
 ·simp only[vw_some,vw_none,vw_nil,EU,notQ_a,trF_a,testB_a,bin2_a,biF_a,consX_a,nilX_a,va_a,shAt_0,ER,Mu,Mt,Option.bind_some,capL_2,KC,Hv,show bR (rowD r)=some "list"from rfl,List.any_cons,List.any_nil,Hw,truD_bl,dP,y,length_map,Ho,asB_bl,h24,decide_false];rfl
 ·simp only[vw_some,vw_none,vw_nil,Am,biF_a,consX_a,nilX_a,lsF_a,hm,map_some,Option.bind_some,dm r λ_=>true,asB_bl];rw[show(r.all λ_=>true)=true by simp];simp only[if_true,bin2_a];rw[vR s1,vR (MW hn (by simp only[consX_a,nilX_a,biF_a,va_a,shAt_0,Option.bind_some,dP,y,length_map,hl]))];exact AO false _
structure One (ps:NF) (l:Lt):Prop where
 s:l.s=1
 t:l.t=0
 w:WordOk ps 0 l.w
theorem One.ok (h:One ps l) (hw:Wide ps):LtOk ps l:=by
 refine⟨by rw[h.s];decide,by rw[h.s];decide,by rw[h.t];exact Nat.zero_le _,by rw[h.t];exact h.w,λq hq=>?_⟩;rw[h.t]at hq;rw[h.s];have h1:=h.w.each q hq;have h2:q.2∈ps:=by have:=(List.of_mem_zip hq).2;simpa using this
 have e:=getElem?_eq_getElem h1;unfold pkAt;rw[e];exact hw _ h2 _ (List.getElem_mem h1)
@[simp] theorem MX (a b c d:D):bC (some [a,b,c,d])=some [a,b,c,d]:=cY (show 4<big by decide)
@[simp] theorem Lx (a b c d e f g h i j:D):bC (some [a,b,c,d,e,f,g,h,i,j])=some [a,b,c,d,e,f,g,h,i,j]:=cY (show 10<big by decide)
section
variable {α:Type} {G F:Cl} {U U':Ev} {out:α->Option Out} {P:α->Prop}
theorem x_st (h:F U=some (.nx U')) (k:∃a,G U'=out a/\P a):∃a,ae F G U=out a/\P a:=k.imp λ_ q=>⟨(ak h).trans q.1,q.2⟩
theorem x_set (h:g U=some (s,U')) (k:∃a,G (U'.set i (some s))=out a/\P a):∃a,ae (aw i g) G U=out a/\P a:=x_st (bV h) k
theorem x_if0 (h:c (vw U)=some false) (k:∃a,G U=out a/\P a):∃a,ae (ifS c F nxE) G U=out a/\P a:=x_st ((bW h).trans rfl) k
theorem x_if {b:Bool} (h:c (vw U)=some b) (k1:∃U',(if b then F U else F' U)=some (.nx U')/\∃a,G U'=out a/\P a):∃a,ae (ifS c F F') G U=out a/\P a:=by
 obtain⟨U',e,k⟩:=k1;cases b with
 |true=>exact x_st ((om h).trans e) k
 |false=>exact x_st ((bW h).trans e) k
theorem x_rng {v:Nat->Int} (I:Nat->Ev->Prop) (hJ:J (shv U)=some ((!6).map λi=>D.int (v i))) (h0:I 0 U) (hs:∀ (i:Nat) (U:Ev),i<n->I i U->∃U',F (U.set s (some (.sh,.int (v i))))=some (.nx U')/\I (i+1) U') (k:∀U',I n U'->∃a,G U'=out a/\P a):∃a,ae (frF J (eNm s) F) G U=out a/\P a:=by
 obtain⟨U',e,i⟩:=Dw I hJ h0 hs;exact x_st e (k _ i)
theorem x_for {β:Type} {xs:List β} {mk} (I:Nat->Ev->Prop) (hJ:J (shv U)=some (xs.map mk)) (h0:I 0 U) (hs:∀ (i:Nat) (x:β) (U:Ev),xs[i]?=some x->I i U->∃U',(tg (mk x) U).bind F=some (.nx U')/\I (i+1) U') (k:∀U',I xs.length U'->∃a,G U'=out a/\P a):∃a,ae (frF J tg F) G U=out a/\P a:=by
 obtain⟨U',e,i⟩:=cW I hJ h0 (λi d U hd hi=>by
  rw[getElem?_map]at hd;cases hx:xs[i]? with
  |none=>rw[hx]at hd;cases hd
  |some x=>rw[hx]at hd;cases hd;exact hs i x U hx hi)
 rw[length_map]at i;exact x_st e (k _ i)
theorem x_end {P:Ev->Prop} (h:P U):∃a,nxE U=some (.nx a)/\P a:=⟨U,rfl,h⟩
theorem x_one {P:Ev->Prop} (h:F' U=some (.nx U')) (p:P U'):∃a,ae F' nxE U=some (.nx a)/\P a:=x_st h (x_end p)
end
noncomputable abbrev dp (d:D):NH:=some (.deep,d)
noncomputable abbrev sn (d:D):NH:=some (.sh,d)
noncomputable abbrev iN (n:Nat):D:=.int (n:Int)
abbrev Fn:=List D->Option Sl
abbrev Fv:=Vv->Option D
abbrev Fx:=Vv->Option (List D)
abbrev evV (R:Fv):=evX R noV noV
abbrev evC (f:Fn) (xs:Fx):=evX (clF f xs) noV (fCl f xs)
abbrev evE:=evX (lsF (dpF af)) (dpF af) (fLs af)
abbrev jR (xs:Fx):=jX (r1F xs) (biF noD xs)
abbrev rtF (g:NE):=ae (bP g) nxE
abbrev x1 (a:Fv):Fx:=aa a af
abbrev x2 (a b:Fv):Fx:=aa a (x1 b)
abbrev x3 (a b c:Fv):Fx:=aa a (x2 b c)
abbrev x4 (a b c d:Fv):Fx:=aa a (x3 b c d)
abbrev x5 (a b c d e:Fv):Fx:=aa a (x4 b c d e)
abbrev x6 (a b c d e f:Fv):Fx:=aa a (x5 b c d e f)
abbrev lnF (a:Fv):Fv:=biF bn (x1 a)
theorem tr {α:Type} {P:α->Prop} {f g} (h:P g) (e:f=g:=by kernel_rfl):P f:=e▸h
theorem ux:x1 a U=aa a af U:=rfl
theorem DL:x2 a b U=aa a (x1 b) U:=rfl
theorem KP:x3 a b c U=aa a (x2 b c) U:=rfl
noncomputable def sB0:=And.intro @vw_o (And.intro @vw_nil (And.intro @vw_some (And.intro @vw_none (And.intro @map_some.{0,0} (And.intro @Option.map_none.{0,0} (And.intro @set_cons_succ.{0} (And.intro @set_cons_zero.{0} (And.intro @consX_a (And.intro @nilX_a (And.intro @va_a (And.intro @shAt_s (And.intro @shAt_0 (And.intro @shAt_1 (And.intro @Option.bind_some.{0,0} (And.intro @bin2_a (And.intro @biF_a (And.intro @clF_a (And.intro @fCl_a (And.intro @cI_a (And.intro @cS_a (And.intro @testB_a (And.intro @notQ_a (And.intro @trF_a (And.intro @andQ_a (And.intro @valO_some (And.intro @asB_bl (And.intro @truD_bl (And.intro @addD_ii (And.intro @subD_ii (And.intro @lsF_a (And.intro @dpF_a (And.intro @capL_1 (And.intro @capL_2 (And.intro @stepF_a (And.intro @wipe_cons (And.intro @wipe_nil (And.intro @gNm_a (And.intro @tQ_a (@if_true.{1})))))))))))))))))))))))))))))))))))))))
theorem sB:type_of%sB0:=sB0
end L2
namespace HD
open PySem PySem.W PyProof.Rows
noncomputable abbrev S0 (w:World) (os:OsState):Shared:=⟨boot_heap w.params,Array.mk [],boot_drawn,boot_toks,os⟩
theorem left_of {Ya:World->α} {F:World->OsState->Shared} (o:∀w:World,(fencedOpening treeTable p w N).map (λs=>(s.heap,s.gens,s.drawn,s.toks))=some (boot_heap w.params,Array.mk [],boot_drawn,boot_toks)) (sz:∀w:World,(boot_heap w.params).isNs mainGlobals=true/\(boot_heap w.params).objs.size=m₀/\(boot_heap w.params).nsMap mainGlobals "__annotations__"=ann) (rn:∀w os,topRun treeTable p w m₀ ann M (S0 w os) (topStub p)=some (F w os)) (le:M<=N) (lk:∀w os,((staticsOk (importedModules p.main.body) (boot_heap w.params) (F w os).heap&&namesBound p (F w os).heap&&gensDone (F w os)&&laidKept (boot_heap w.params) (F w os).heap),openSeen q loose (importedModules p.main.body) Xt true (F w os),Yf (F w os))=(true,openGood q loose,Ya w)):
  LeftO p q loose Xt Yf Ya N:=by
 intro w
 obtain⟨s,e,e'⟩:=Option.map_eq_some_iff.mp (o w)
 cases s with
 |mk h gs d k os=>
 simp only[Prod.mk.injEq]at e'
 obtain⟨a1,a2,a3,a4⟩:=e'
 subst a1 a2 a3 a4
 obtain⟨z1,z2,z3⟩:=sz w
 have l:=lk w os
 simp only[Prod.mk.injEq]at l
 obtain⟨l1,l2,l3⟩:=l
 have r:=topRun_mono (N-M) _ _ _ _ (rn w os)
 rw[show M+(N-M)=N from Nat.add_sub_cancel' le]at r
 have t:topFrom treeTable p w N (S0 w os)=some (F w os):=by
  unfold topFrom;rw[z2,z3];rw[r];simp only[z1];show(match(staticsOk (importedModules p.main.body) (boot_heap w.params) (F w os).heap&&namesBound p (F w os).heap&&gensDone (F w os)&&laidKept (boot_heap w.params) (F w os).heap)with|true=>_|false=>_)=_;rw[l1]
 unfold openEnds
 rw[e]
 show Option.map _ (topFrom treeTable p w N (S0 w os))=_
 rw[t]
 exact congrArg some (Prod.ext l2 l3)
noncomputable abbrev KQ:=@PySem.W.Fast.tw10110043849684766642
noncomputable abbrev KR:=@PySem.W.Fast.tw14364793385576792824
noncomputable abbrev AR:=@PySem.W.Fast.tw12563942051412417395
theorem KS:@segRunT=@KQ:=PySem.W.Fast.te10110043849684766642
theorem KU:@treeTable=@KR:=PySem.W.Fast.te14364793385576792824
theorem DM:@execs=@AR:=PySem.W.Fast.te12563942051412417395
noncomputable def put:List Obj->Nat->BT->BT
 |[],_,t=>t
 |o::l,i,t=>put l (i+1) (t.ins i o)
def toT (s:Shared):SharedT:=⟨put s.heap.objs.toList 0 .nil,s.heap.objs.size,s.heap.life,s.gens,s.drawn,s.toks,s.os⟩
noncomputable def st1 (d:Shared):Option (Shared×Thread)->Shared
 |some (s,_)=>s
 |none=>d
noncomputable def st2 (d:Shared):Option (Flow×Shared×Code×Pos)->Shared
 |some (_,s,_)=>s
 |none=>d
noncomputable def st3 (d:SharedT):Option (Flow×SharedT×Code×Pos)->SharedT
 |some (_,s,_)=>s
 |none=>d
theorem of1 (h:o.map (·.2)=some t):o=some (st1 d o,t):=by
 cases o with
 |none=>cases h
 |some z=>cases h;rfl
theorem of2 (h:o.map (λr=>(r.1,r.2.2))=some (f,c,q)):o=some (f,st2 d o,c,q):=by
 cases o with
 |none=>cases h
 |some z=>obtain⟨a,b,x,y⟩:=z;cases h;rfl
theorem of3 (h:o.map (λr=>(r.1,r.2.2))=some (f,c,q)):o=some (f,st3 d o,c,q):=by
 cases o with
 |none=>cases h
 |some z=>obtain⟨a,b,x,y⟩:=z;cases h;rfl
section
variable (p:Program) (m₀:Nat) (ann:NM) (env:Env) (q pa pb:Pos) (k1 k2 k3:Nat)
noncomputable abbrev cd:Code:=.body (behindTheImports p) env
def A (w:World) (os:OsState):Option (Shared×Thread):=topGo treeTable p w m₀ ann k1 (S0 w os) (topStub p)
def SA (w:World) (os:OsState):Shared:=st1 (S0 w os) (A p m₀ ann k1 w os)
def B (w:World) (os:OsState):Option (Flow×Shared×Code×Pos):=segRun treeTable p w m₀ ann 1 k2 (SA p m₀ ann k1 w os) (blockOf (behindTheImports p) env (cd p env) pa [topFrame q])
def SB (w:World) (os:OsState):Shared:=st2 (S0 w os) (B p m₀ ann env q pa k1 k2 w os)
def C (w:World) (os:OsState):Option (Flow×SharedT×Code×Pos):=KQ KR p w m₀ ann 1 k3 (toT (SB p m₀ ann env q pa k1 k2 w os)) ⟨(AR (behindTheImports p) env).wrap doneF deadEnd id id,cd p env,pb,[topFrame q]⟩
theorem KW (w:World) (os:OsState):C p m₀ ann env q pa pb k1 k2 k3 w os=segRunT treeTable p w m₀ ann 1 k3 (toT (SB p m₀ ann env q pa k1 k2 w os)) (piecesOf (behindTheImports p) env (cd p env) pb [topFrame q]):=by
 unfold C piecesOf;rw[KS,KU,DM]
def SC (w:World) (os:OsState):SharedT:=st3 (toT (S0 w os)) (C p m₀ ann env q pa pb k1 k2 k3 w os)
end
theorem run_of (hA:∀w os,(A p m₀ ann k1 w os).map (·.2)=some ⟨denote treeTable (cd p env),cd p env,pa,[topFrame q]⟩) (hB:∀w os,(B p m₀ ann env q pa k1 k2 w os).map (λr=>(r.1,r.2.2))=some (.next,cd p env,pb)) (hT:∀w os,(toT (SB p m₀ ann env q pa k1 k2 w os)).abs=SB p m₀ ann env q pa k1 k2 w os) (hC:∀w os,(C p m₀ ann env q pa pb k1 k2 k3 w os).map (λr=>(r.1,r.2.2))=some (.next,cd p env,pc)) (hF:∀w s,topRun treeTable p w m₀ ann k4 s ⟨doneF .next,cd p env,pc,[topFrame q]⟩=some s) (w:World) (os:OsState):
  topRun treeTable p w m₀ ann (k1+(k2+(k3+k4))) (S0 w os) (topStub p)=some (SC p m₀ ann env q pa pb k1 k2 k3 w os).abs:=by
 have a:=of1 (d:=S0 w os) (hA w os)
 have b:=of2 (d:=S0 w os) (hB w os)
 have c:=of3 (d:=toT (S0 w os)) (hC w os)
 rw[KW]at c
 have c:=segRun_of c
 rw[hT]at c
 rw[<-KW]at c
 refine go_top a (piece_block b ?_)
 have k:=piece_app c (piece_nil (hF w _))
 rw[List.append_nil]at k
 exact k
end HD
namespace L2
open PySem PySem.Spec PyProof.Rows
noncomputable def my (ps:NF) (l:Lt) (i:Nat):List (Nat×List Pk):=(l.w.zip (ps.drop l.t)).take (i-l.t)
def stAt (ps:NF) (l:Lt) (i:Nat):Int×Int:=j5 (ahd ps l.t,ahd ps l.t-1) (my ps l i)
def gm (ps:NF) (l:Lt) (i:Nat):Int:=1-2*((mo (my ps l i):Int)%2)
section
variable {ps:NF} {ls:List Lt}
theorem kS (o:LtOk ps l) (ht:l.t<=i) (hi:i<ps.length):∃j,l.w[i-l.t]?=some j/\(l.w.zip (ps.drop l.t))[i-l.t]?=some (j,ps[i])/\j<ps[i].length:=by
 have hl:i-l.t<l.w.length:=by rw[o.w.len,List.length_drop];omega
 have hz:(l.w.zip (ps.drop l.t))[i-l.t]?=some (l.w[i-l.t],ps[i]):=by
  rw[List.getElem?_zip_eq_some];refine⟨getElem?_eq_getElem hl,?_⟩;rw[List.getElem?_drop,show l.t+(i-l.t)=i by omega];exact getElem?_eq_getElem hi
 exact⟨_,getElem?_eq_getElem hl,hz,o.w.each _ (Ol hz)⟩
theorem oy (ht:l.t<=i) (h:(l.w.zip (ps.drop l.t))[i-l.t]?=some q):my ps l (i+1)=my ps l i++[q]:=by
 unfold my;rw[show i+1-l.t=(i-l.t)+1 by omega,List.take_succ,h];rfl
theorem vS (ht:l.t<=i) (h:(l.w.zip (ps.drop l.t))[i-l.t]?=some q):stAt ps l (i+1)=stp (stAt ps l i) q:=by
 unfold stAt j5;rw[oy ht h,List.foldl_append];rfl
theorem qd (ht:l.t<=i) (h:(l.w.zip (ps.drop l.t))[i-l.t]?=some q):gm ps l (i+1)=if(pkAt q).1=true then gm ps l i else-gm ps l i:=by
 unfold gm mo;rw[oy ht h,List.filter_append,length_append];grind
theorem AS (hi:i<ps.length):ahd ps (i+1)=ahd ps i*(ps[i].length:Nat):=by
 unfold ahd;rw[List.take_succ,getElem?_eq_getElem hi];have:∀ (xs:NF) (y:List Pk),prod (xs++[y])=prod xs*y.length:=λxs y=>by
  induction xs with
  |nil=>simp[prod]
  |cons a xs ih=>simp only[List.cons_append,prod,ih,Nat.mul_assoc]
 grind
theorem kT (hv:Valid ps) (i:Nat):0<ahd ps i:=by
 unfold ahd;have:∀ (xs:NF),(∀x∈xs,1<=x.length)->0<prod xs:=λxs=>by
  induction xs with
  |nil=>intro _;simp[prod]
  |cons a xs ih=>intro h;simp only[prod];exact Nat.mul_pos (h a N5) (ih λx hx=>h x (N6 _ hx))
 have:=this (ps.take i) λx hx=>(hv.p (List.mem_of_mem_take hx)).1;omega
theorem AT (hv:Valid ps) (o:LtOk ps l):∀ (d:Nat),l.t+d<=ps.length->(stAt ps l (l.t+d)).1=ahd ps (l.t+d)/\0<=(stAt ps l (l.t+d)).2/\(stAt ps l (l.t+d)).2<ahd ps (l.t+d)
 |0,_=>by
  have:stAt ps l (l.t+0)=(ahd ps l.t,ahd ps l.t-1):=by unfold stAt my j5;simp
  rw[this];have:=kT hv l.t;exact⟨rfl,by show 0<=ahd ps l.t-1;omega,by show ahd ps l.t-1<ahd ps l.t;omega⟩
 |d+1,hd=>by
  obtain⟨h1,h2,h3⟩:=AT hv o d (!1);obtain⟨j,g1,g2,g3⟩:=kS o (i:=l.t+d) (!1) (!1);have e:=vS (ps:=ps) (i:=l.t+d) (!1) g2;rw[show l.t+(d+1)=l.t+d+1 from rfl,e,AS (!1)];unfold stp;simp only[h1];have hA:=kT hv (l.t+d);generalize ahd ps (l.t+d)=A at*;generalize (stAt ps l (l.t+d)).2=c at*;have hl:0<=lay (pkAt (j,ps[l.t+d])).1 A c/\lay (pkAt (j,ps[l.t+d])).1 A c<A:=by
   unfold lay;split<;>constructor<;>omega
  generalize lay (pkAt (j,ps[l.t+d])).1 A c=y at*;have h4:(j:Int)*A+A<=A*(ps[l.t+d].length:Nat):=by
   have:(j:Int)+1<=(ps[l.t+d].length:Nat):=by omega
   have:=Int.mul_le_mul_of_nonneg_left this (Int.le_of_lt hA);rw[Int.mul_add,Int.mul_one,Int.mul_comm]at this;exact this
  have h5:0<=(j:Int)*A:=Int.mul_nonneg (!1) (Int.le_of_lt hA);exact⟨trivial,by omega,by omega⟩
def cd (ps:NF) (ls:List Lt) (i k:Nat):Int:=((ls[k]?).map λl=>(stAt ps l i).2).getD 0
def ky (ps:NF) (ls:List Lt) (i k:Nat):Int:=((ls[k]?).map λl=>gm ps l i*((k:Int)+(ls.length:Int)*(l.t:Int))).getD 0
def pLt (ps:NF) (ls:List Lt) (i a b:Nat):Prop:=cd ps ls i a<cd ps ls i b\/(cd ps ls i a=cd ps ls i b/\ky ps ls i a<ky ps ls i b)
theorem rL (hv:Valid ps) (h:∀l∈ls,LtOk ps l) (hk:ls[k]?=some l) (ht:l.t<=i) (hi:i<=ps.length):0<=cd ps ls i k/\cd ps ls i k<ahd ps i:=by
 unfold cd;rw[hk];have:=AT hv (h l (Ol hk)) (i-l.t) (!1);grind
theorem cC (hv:Valid ps) (h:∀l∈ls,LtOk ps l) (hk:ls[k]?=some l) (ht:l.t<=i) (hi:i<ps.length):
  cd ps ls (i+1) k=(pkOf ls i k:Int)*ahd ps i+lay (pkAt (pkOf ls i k,ps[i])).1 (ahd ps i) (cd ps ls i k)/\ky ps ls (i+1) k=(if(pkAt (pkOf ls i k,ps[i])).1=true then ky ps ls i k else-ky ps ls i k)/\pkOf ls i k<ps[i].length:=by
 have o:=h l (Ol hk)
 obtain⟨j,g1,g2,g3⟩:=kS o ht hi
 have hp:pkOf ls i k=j:=by unfold pkOf;rw[hk,Option.bind_some,g1];rfl
 have e:=vS ht g2
 have f:=qd ht g2
 have s1:=(AT hv o (i-l.t) (!1)).1
 rw[show l.t+(i-l.t)=i by omega]at s1
 rw[hp]
 unfold cd ky
 rw[hk]
 simp only[map_some,Option.getD_some]
 refine⟨?_,?_,g3⟩
 ·rw[e];unfold stp;rw[s1]
 grind
theorem fc_b (l:Lt) (i:Nat):gm ps l i=1\/gm ps l i= -1:=by unfold gm;omega
theorem MY (hk:ls[k]?=some l) (ht:l.t<=i):ky ps ls i k<(ls.length:Int)*((i:Int)+1):=by
 unfold ky;rw[hk];simp only[map_some,Option.getD_some];have hl:=(N4.mp hk).1;have h1:(ls.length:Int)*(l.t:Int)<=(ls.length:Int)*(i:Int):=Int.mul_le_mul_of_nonneg_left (!1) (!1);have h0:0<=(ls.length:Int)*(l.t:Int):=Int.mul_nonneg (!1) (!1);rw[Int.mul_add (ls.length:Int) (i:Int) 1,Int.mul_one];generalize (ls.length:Int)*(l.t:Int)=x at*;generalize (ls.length:Int)*(i:Int)=y at*;rcases fc_b l i with e|e<;>rw[e]<;>omega
theorem iM (hk:ls[k]?=some l) (ht:l.t=i):cd ps ls i k=ahd ps i-1/\ky ps ls i k=(k:Int)+(ls.length:Int)*(i:Int):=by
 have hg:my ps l i=[]:=by unfold my;rw[show i-l.t=0 by omega];rfl
 unfold cd ky stAt gm;rw[hk];simp only[map_some,Option.getD_some,hg];subst ht;constructor
 ·rfl
 ·simp[mo]
theorem j6 (ls:List Lt) (t:Nat):(bG ls t).Pairwise (·<·):=by
 have h:(ls.zipIdx.map (·.2)).Pairwise (·<·):=by rw[List.zipIdx_map_snd];exact List.pairwise_lt_range' ..
 grind [bG]
theorem xy {p:List Pk} (g:Nat->NO):p.zip ((List.range p.length).map g)=(List.range p.length).map λj=>(p[j]?.getD (true,0),g j):=by
 apply List.ext_getElem?;grind
theorem oz (hv:Valid ps) (h:∀l∈ls,LtOk ps l):∀ (i:Nat),i<=ps.length->(rowAt ps ls i).Pairwise (pLt ps ls i)
 |0,_=>by
  refine(List.Pairwise.and_mem.mp (j6 ls 0)).imp λ{a b} ⟨ha,hb,hab⟩=>?_;obtain⟨la,x1,x2⟩:=mem_join.mp ha;obtain⟨lb,y1,y2⟩:=mem_join.mp hb;obtain⟨c1,k1⟩:=iM (ps:=ps) x1 x2;obtain⟨c2,k2⟩:=iM (ps:=ps) y1 y2;exact .inr ⟨by rw[c1,c2],by rw[k1,k2];omega⟩
 |i+1,hi=>by
  have ih:=oz hv h i (!1);have hil:i<ps.length:=by omega
  have mem:=eR h i (Oi hil);have hA:=kT hv i;have hpg:ps[i]?.getD []=ps[i]:=by rw[getElem?_eq_getElem hil];rfl
  have info:∀k∈rowAt ps ls i,∃l,ls[k]?=some l/\l.t<=i:=λk hk=>(mem k).mp hk;show(dQ (ps[i]?.getD []) (cK ls i (ps[i]?.getD []).length (rowAt ps ls i))++bG ls (i+1)).Pairwise _;rw[hpg];rw[List.pairwise_append];refine⟨?_,?_,?_⟩
  ·unfold dQ cK;rw[xy,List.map_map,List.pairwise_flatten];constructor
   ·intro r hr;obtain⟨j,hj,rfl⟩:=Oc.mp hr;have hq:((rowAt ps ls i).filter λk=>decide (pkOf ls i k=j)).Pairwise (pLt ps ls i):=ih.sublist List.filter_sublist;have hm:∀k∈((rowAt ps ls i).filter λk=>decide (pkOf ls i k=j)),pkOf ls i k=j/\∃l,ls[k]?=some l/\l.t<=i:=λk hk=>⟨by simpa using (List.mem_filter.mp hk).2,info k (List.mem_filter.mp hk).1⟩;show(d9 _).Pairwise _;unfold d9;simp only;cases hb:(ps[i][j]?.getD (true,0)).1 with
    |true=>
     simp only[if_true];refine(List.Pairwise.and_mem.mp hq).imp λ{a b} ⟨ha,hb',hab⟩=>?_;obtain⟨pa,la,x1,x2⟩:=hm a ha;obtain⟨pb,lb,y1,y2⟩:=hm b hb';obtain⟨c1,k1,_⟩:=cC hv h x1 x2 hil;obtain⟨c2,k2,_⟩:=cC hv h y1 y2 hil;have e:(pkAt (j,ps[i])).1=true:=hb;rw[pa,e]at c1 k1;rw[pb,e]at c2 k2;simp only[lay,if_true]at c1 c2 k1 k2;unfold pLt at hab⊢;rw[c1,c2,k1,k2];omega
    |false=>
     simp only[Bool.false_eq_true,if_false];rw[List.pairwise_reverse];refine(List.Pairwise.and_mem.mp hq).imp λ{a b} ⟨ha,hb',hab⟩=>?_;obtain⟨pa,la,x1,x2⟩:=hm a ha;obtain⟨pb,lb,y1,y2⟩:=hm b hb';obtain⟨c1,k1,_⟩:=cC hv h x1 x2 hil;obtain⟨c2,k2,_⟩:=cC hv h y1 y2 hil;have e:(pkAt (j,ps[i])).1=false:=hb;rw[pa,e]at c1 k1;rw[pb,e]at c2 k2;simp only[lay,Bool.false_eq_true,if_false]at c1 c2 k1 k2;unfold pLt at hab⊢;rw[c1,c2,k1,k2];omega
   ·rw[List.pairwise_map];refine(List.pairwise_lt_range (n:=ps[i].length)).imp λ{j1 j2} hj=>?_;intro a ha b hb;have ma:∀ (j k:Nat),k∈(d9∘λj=>(ps[i][j]?.getD (true,0),(rowAt ps ls i).filter λk=>decide (pkOf ls i k=j))) j->pkOf ls i k=j/\∃l,ls[k]?=some l/\l.t<=i:=λj k hk=>by
     have hk':k∈(rowAt ps ls i).filter λk=>decide (pkOf ls i k=j):=by
      have:k∈d9 (ps[i][j]?.getD (true,0),(rowAt ps ls i).filter λk=>decide (pkOf ls i k=j)):=hk;unfold d9 at this;split at this
      ·exact this
      ·exact List.mem_reverse.mp this
     exact⟨by simpa using (List.mem_filter.mp hk').2,info k (List.mem_filter.mp hk').1⟩
    obtain⟨pa,la,x1,x2⟩:=ma j1 a ha;obtain⟨pb,lb,y1,y2⟩:=ma j2 b hb;obtain⟨c1,_,_⟩:=cC hv h x1 x2 hil;obtain⟨c2,_,_⟩:=cC hv h y1 y2 hil;obtain⟨z1,z2⟩:=rL hv h x1 x2 (Oi hil);obtain⟨w1,w2⟩:=rL hv h y1 y2 (Oi hil);rw[pa]at c1;rw[pb]at c2;have l1:lay (pkAt (j1,ps[i])).1 (ahd ps i) (cd ps ls i a)<ahd ps i:=by unfold lay;split<;>omega
    have l2:0<=lay (pkAt (j2,ps[i])).1 (ahd ps i) (cd ps ls i b):=by unfold lay;split<;>omega
    have m:((j1:Int)+1)*ahd ps i<=(j2:Int)*ahd ps i:=Int.mul_le_mul_of_nonneg_right (!1) (Int.le_of_lt hA);rw[Int.add_mul,Int.one_mul]at m;exact .inl (by rw[c1,c2];omega)
  ·refine(List.Pairwise.and_mem.mp (j6 ls (i+1))).imp λ{a b} ⟨ha,hb,hab⟩=>?_;obtain⟨la,x1,x2⟩:=mem_join.mp ha;obtain⟨lb,y1,y2⟩:=mem_join.mp hb;obtain⟨c1,k1⟩:=iM (ps:=ps) x1 x2;obtain⟨c2,k2⟩:=iM (ps:=ps) y1 y2;exact .inr ⟨by rw[c1,c2],by rw[k1,k2];omega⟩
  ·intro a ha b hb;have pm:=jm (ls:=ls) (step:=i) (p:=ps[i]) (row:=rowAt ps ls i) λk hk=>by
    obtain⟨l,x,y⟩:=info k hk;exact(cC hv h x y hil).2.2
   obtain⟨la,x1,x2⟩:=info a (pm.mem_iff.mp ha);obtain⟨lb,y1,y2⟩:=mem_join.mp hb;obtain⟨c2,k2⟩:=iM (ps:=ps) y1 y2;obtain⟨z1,z2⟩:=rL hv h x1 (show la.t<=i+1 by omega) hi;by_cases e:cd ps ls (i+1) a=ahd ps (i+1)-1
   ·refine .inr ⟨by rw[e,c2],?_⟩;rw[k2];obtain⟨_,k1,_⟩:=cC hv h x1 x2 hil;have kb:=MY (ps:=ps) x1 x2;have kb2:- ky ps ls i a<(ls.length:Int)*((i:Int)+1):=by
     unfold ky at kb⊢;rw[x1]at kb⊢;simp only[map_some,Option.getD_some]at kb⊢;have hl:a<ls.length:=(N4.mp x1).1;have h1:(ls.length:Int)*(la.t:Int)<=(ls.length:Int)*(i:Int):=Int.mul_le_mul_of_nonneg_left (!1) (!1);have h0:0<=(ls.length:Int)*(la.t:Int):=Int.mul_nonneg (!1) (!1);rw[Int.mul_add (ls.length:Int) (i:Int) 1,Int.mul_one];generalize (ls.length:Int)*(la.t:Int)=x at*;generalize (ls.length:Int)*(i:Int)=y at*;rcases fc_b (ps:=ps) la i with e|e<;>rw[e]<;>omega
    rw[k1];have e3:((i+1:Nat):Int)=(i:Int)+1:=rfl;rw[e3];split<;>omega
   ·exact .inl (by rw[c2];omega)
theorem ends (hv:Valid ps) (o:LtOk ps l):(stAt ps l ps.length).2=pZ ps l.t l.w/\gm ps l ps.length=p8 ps l.t l.w:=by
 have hg:my ps l ps.length=l.w.zip (ps.drop l.t):=by
  apply List.take_of_length_le;rw[List.length_zip,List.length_drop];omega
 unfold stAt gm pZ p8;grind
end
end L2
namespace K20
open PySem PySem.Spec PyProof.Rows L2
theorem H0 (h:iB U j=none):evM j g U=g U:=by
 unfold evM orO mvE;rw[h];rfl
theorem evM_lf {R L Sp} (h0:iB U j=none) (h:R (vw U)=some d) (f:lfD d=true):evM j (evX R L Sp) U=some ((.deep,d),U):=(H0 h0).trans (evX_lf h f)
theorem AU {α:Type} (k:α->NQ) (L:List α):(L.mergeSort λa b=>!HT.lexLt (k b) (k a)).Pairwise λa b=>HT.lexLt (k b) (k a)=false:=by
 refine(List.pairwise_mergeSort (λa b c h1 h2=>?_) (λa b=>?_) L).imp λh=>by simpa using h
 ·simp only[Bool.not_eq_true']at h1 h2⊢;cases e:HT.lexLt (k c) (k a)with
  |false=>rfl
  |true=>rw[lT _ _ _ e h1]at h2;cases h2
 ·cases e:HT.lexLt (k b) (k a)with
  |false=>rfl
  |true=>rw[pL _ _ e];rfl
theorem xz {α:Type} {g} (hg:∀a,∃ds,g a=.tup ds) {L} (h64:L.length<1024) (h:gR (L.map g)):
  ∃T:List α,T.Perm L/\T.Pairwise (λa b=>HT.lexLt (flt (g b)) (flt (g a))=false)/\cb [.lst (L.map g)]=some (T.map g):=by
 refine⟨L.mergeSort λa b=>!HT.lexLt _ _,List.mergeSort_perm _ _,AU (λa=>flt (g a)) L,?_⟩
 have e:pM (L.map g)=(L.mergeSort λa b=>!HT.lexLt _ _).map g:=(vt h ((List.mergeSort_perm _ _).map g) (List.pairwise_map.mpr (AU (λa=>flt (g a)) L))).symm
 rw[<-e]
 cases L with
 |nil=>
  refine kQ ?_;show(if([]:NQ).length<1024 then some ((pF []).map D.int)else none)=_;rw[show pF []=[]from List.mergeSort_nil,show pM (List.map g [])=[]from List.mergeSort_nil];rfl
 |cons a L=>
  refine CY ?_ ?_
  ·obtain⟨ds,e⟩:=hg a;rw[List.map_cons,e];rfl
  ·show(if((a::L).map g).length<1024/\gR ((a::L).map g)then some (pM ((a::L).map g))else none)=_;rw[if_pos ⟨by rw[length_map];exact h64,h⟩]
noncomputable abbrev Sd:=Int×Int
def sdD (p:Sd):D:=.tup [.int p.1,.int p.2]
theorem DN (h:S.length<1024):∃T:List Sd,T.Perm S/\T.Pairwise (λa b=>HT.lexLt [b.1,b.2] [a.1,a.2]=false)/\cb [.lst (S.map sdD)]=some (T.map sdD):=
 xz (g:=sdD) (λ_=>⟨_,rfl⟩) h ⟨[none,none],by decide,λd hd=>by
  obtain⟨p,_,rfl⟩:=Oc.mp hd;exact⟨[p.1,p.2],rfl⟩⟩
theorem lx2 (a b c d:Int):HT.lexLt [a,b] [c,d]=decide (a<c\/(a=c/\b<d)):=by
 rw[HT.lexLt_cons,HT.lexLt_cons];by_cases h:a=c
 ·rw[if_pos h];by_cases g:b=d
  ·rw[if_pos g];refine(decide_eq_false ?_).symm;omega
  ·rw[if_neg g];by_cases k:b<d
   ·rw[decide_eq_true k];exact(decide_eq_true (.inr ⟨h,k⟩)).symm
   ·rw[decide_eq_false k];exact(decide_eq_false (!1)).symm
 grind
noncomputable def rM (W:List (NO)) (p:List Pk):List (NO):=(List.range p.length).flatMap λk=>W.map λw=>w++[k]
def wds (rs:NF):List (NO):=rs.foldl rM [[]]
theorem fL (rs:NF) (p:List Pk):wds (rs++[p])=rM (wds rs) p:=by unfold wds;rw[List.foldl_append];rfl
noncomputable def pkg (p:List Pk) (k:Nat):Pk:=p.getD k (true,0)
def br (n k:Nat) (pk:Pk) (c:Sd):Sd:=((k:Int)*(n:Int)+(if pk.1 then c.1 else(n:Int)-1-c.1),if pk.1 then c.2 else -c.2)
def pl:Nat->NF->NO->Sd->Sd
 |_,[],_,c=>c
 |_,_::_,[],c=>c
 |n,p::rs,k::w,c=>pl (n*p.length) rs w (br n k (pkg p k) c)
theorem kU:∀ {rs:NF} {w:NO} (n:Nat) (c:Sd) (p:List Pk) (k:Nat),w.length=rs.length->pl n (rs++[p]) (w++[k]) c=br (n*prod rs) k (pkg p k) (pl n rs w c)
 |[],[],n,c,p,k,_=>by show br n k _ c=br (n*1) k _ c;rw[Nat.mul_one]
 |[],_::_,_,_,_,_,h=>by cases h
 |_::_,[],_,_,_,_,h=>by cases h
 |q::rs,j::w,n,c,p,k,h=>by
  show pl (n*q.length) (rs++[p]) (w++[k]) (br n j (pkg q j) c)=br (n*(q.length*prod rs)) k (pkg p k) (pl (n*q.length) rs w (br n j (pkg q j) c));rw[kU _ _ _ _ (Nat.succ.inj h),Nat.mul_assoc]
def jq (s:Int):NF->NO->Bool
 |[],_=>true
 |_::_,[]=>true
 |p::rs,k::w=>decide (s<=(pkg p k).2)&&jq s rs w
theorem mz:∀ {rs:NF} {w:NO} (p:List Pk) (k:Nat),w.length=rs.length->jq s (rs++[p]) (w++[k])=(jq s rs w&&decide (s<=(pkg p k).2))
 |[],[],p,k,_=>by show(decide _&&true)=(true&&_);rw[Bool.and_true,Bool.true_and]
 |[],_::_,_,_,h=>by cases h
 |_::_,[],_,_,h=>by cases h
 |q::rs,j::w,p,k,h=>by
  show(decide _&&jq s (rs++[p]) (w++[k]))=((decide _&&jq s rs w)&&_);rw[mz _ _ (Nat.succ.inj h),Bool.and_assoc]
theorem vT {α:Type} {P:List α->Prop} (h0:P []) (h1:∀l a,P l->P (l++[a])) (l:List α):P l:=by
 have:∀l:List α,P l.reverse:=λl=>by
  induction l with
  |nil=>exact h0
  |cons a l ih=>rw[List.reverse_cons];exact h1 _ _ ih
 have z:=this l.reverse;grind
theorem eS:∀ (rs:NF),∀w∈wds rs,w.length=rs.length/\∀q∈w.zip rs,q.1<q.2.length:=by
 refine vT (λw hw=>?_) λrs p ih w hw=>?_
 ·cases Oe.mp hw;exact⟨rfl,λ_ h=>nomatch h⟩
 ·rw[fL]at hw;obtain⟨k,hk,hw⟩:=List.mem_flatMap.mp hw;obtain⟨v,hv,rfl⟩:=Oc.mp hw;obtain⟨h1,h2⟩:=ih v hv;refine⟨by rw[length_append,length_append,h1];rfl,λq hq=>?_⟩;rw[List.zip_append h1]at hq;rcases mem_append.mp hq with hq|hq
  ·exact h2 q hq
  ·cases Oe.mp hq;exact Oj.mp hk
theorem DO:∀ (rs:NF),(wds rs).length=prod rs:=by
 refine vT rfl λrs p ih=>?_;rw[fL,bi,<-ih];unfold rM;rw[List.length_flatMap];have:∀l:NO,(l.map λk=>((wds rs).map λw=>w++[k]).length).sum=(wds rs).length*l.length:=λl=>by
  induction l with
  |nil=>rfl
  |cons a l ih=>rw[List.map_cons,List.sum_cons,ih,length_map,length_cons,Nat.mul_succ,Nat.add_comm]
 grind
def AV (s:Int) (n:Nat) (p:List Pk) (S:List Sd):List Sd:=(List.range p.length).flatMap λk=>if s<=(pkg p k).2 then S.map (br n k (pkg p k))else[]
def sds (s:Int) (n:Nat) (rs:NF):List Sd:=((wds rs).filter (jq s rs)).map λw=>pl n rs w ((n:Int)-1,1)
theorem AW (s:Int) (n:Nat) (rs:NF) (p:List Pk):sds s n (rs++[p])=AV s (n*prod rs) p (sds s n rs):=by
 unfold sds AV;rw[fL];unfold rM;rw[List.filter_flatMap,List.map_flatMap];refine congrArg (λf=>List.flatMap f _) (funext λk=>?_);have e:((wds rs).map λw=>w++[k]).filter (jq s (rs++[p]))=if s<=(pkg p k).2 then((wds rs).filter (jq s rs)).map (λw=>w++[k])else[]:=by
  rw[List.filter_map];by_cases h:s<=(pkg p k).2
  ·rw[if_pos h];refine congrArg _ (List.filter_congr λw hw=>?_);show jq s (rs++[p]) (w++[k])=_;rw[mz _ _ (eS rs w hw).1,decide_eq_true h,Bool.and_true]
  ·rw[if_neg h];have:(wds rs).filter (jq s (rs++[p])∘λw=>w++[k])=[]:=List.filter_eq_nil_iff.mpr λw hw=>by
    show¬jq s (rs++[p]) (w++[k])=true;rw[mz _ _ (eS rs w hw).1,decide_eq_false h,Bool.and_false];decide
   rw[this];rfl
 rw[e];by_cases h:s<=(pkg p k).2
 ·rw[if_pos h,if_pos h,List.map_map,List.map_map];exact List.map_congr_left λw hw=>kU _ _ _ _ (eS rs w (List.mem_filter.mp hw).1).1
 grind
theorem DP (s:Int) (n:Nat) (rs:NF):(sds s n rs).length<=prod rs:=by
 unfold sds;rw[length_map,<-DO];grind
end K20
namespace K20
open PySem PySem.Spec PyProof.Rows L2
noncomputable def dg:NF->Nat->NO
 |[],_=>[]
 |p::rs,m=>m%p.length::dg rs (m/p.length)
theorem AX:∀ (rs:NF) (m:Nat),(dg rs m).length=rs.length
 |[],_=>rfl
 |p::rs,m=>by show(dg rs _).length+1=_;rw[AX rs];rfl
theorem qf:∀ (rs:NF) (p:List Pk) (m:Nat),dg (rs++[p]) m=dg rs m++[m/prod rs%p.length]
 |[],p,m=>by show[m%p.length]=[m/1%p.length];rw[Nat.div_one]
 |q::rs,p,m=>by
  show m%q.length::dg (rs++[p]) (m/q.length)=m%q.length::(dg rs (m/q.length)++[m/(q.length*prod rs)%p.length]);rw[qf rs p,Nat.div_div_eq_div_mul]
theorem AY:∀ (rs:NF) (k j:Nat),(∀p∈rs,0<p.length)->dg rs (k*prod rs+j)=dg rs j
 |[],_,_,_=>rfl
 |q::rs,k,j,h=>by
  have hq:=h q N5;have e0:k*(q.length*prod rs)+j=j+q.length*(k*prod rs):=by
   rw[Nat.add_comm,<-Nat.mul_assoc,Nat.mul_comm k,Nat.mul_assoc]
  have e1:(k*(q.length*prod rs)+j)%q.length=j%q.length:=by rw[e0,Nat.add_mul_mod_self_left]
  have e2:(k*(q.length*prod rs)+j)/q.length=k*prod rs+j/q.length:=by rw[e0,Nat.add_mul_div_left _ _ hq,Nat.add_comm]
  show(k*(q.length*prod rs)+j)%q.length::dg rs ((k*(q.length*prod rs)+j)/q.length)=j%q.length::dg rs (j/q.length);rw[e1,e2,AY rs k _ λp hp=>h p (mem_cons_of_mem _ hp)]
theorem jr {α:Type} (f:Nat->α) (n:Nat):∀L:Nat,(List.range L).flatMap (λk=>(!6).map λj=>f (k*n+j))=(List.range (L*n)).map f
 |0=>by simp
 |L+1=>by
  rw[List.range_succ,List.flatMap_append,jr f n L,Nat.succ_mul,List.range_add,List.map_append,List.map_map];simp
theorem vU {α β:Type} {f g:α->List β}:∀ {l:List α},(∀a∈l,(f a).Perm (g a))->(l.flatMap f).Perm (l.flatMap g)
 |[],_=>.refl _
 |a::l,h=>by
  rw[List.flatMap_cons,List.flatMap_cons];exact(h a N5).append (vU λb hb=>h b (N6 _ hb))
theorem rN {α:Type} {P:List α->Prop} (h0:P []) (h1:∀l a,P l->P (l++[a])) (l:List α):P l:=by
 have:∀n (l:List α),l.length=n->P l:=λn=>by
  induction n with
  |zero=>intro l h;rw[List.eq_nil_of_length_eq_zero h];exact h0
  |succ n ih=>
   intro l h;have hn:l≠[]:=by intro e;rw[e]at h;cases h
   rw[<-List.dropLast_concat_getLast hn];exact h1 _ _ (ih _ (by rw[List.length_dropLast];omega))
 exact this _ l rfl
theorem uy (rs:NF):(∀p∈rs,0<p.length)->wds rs=(List.range (prod rs)).map (dg rs):=by
 refine rN (P:=λrs=>(∀p∈rs,0<p.length)->wds rs=(List.range (prod rs)).map (dg rs)) (λ_=>rfl) (λrs p ih h=>?_) rs;have hr:∀q∈rs,0<q.length:=λq hq=>h q (Of _ hq);rw[fL,ih hr,bi,Nat.mul_comm,<-jr (dg _) _ p.length];refine congrArg List.flatten (List.map_congr_left λk hk=>?_);rw[List.map_map];refine List.map_congr_left λj hj=>?_;have hk:=Oj.mp hk;have hj:=Oj.mp hj;show dg rs j++[k]=_;rw[qf,AY rs k j hr];have e:(k*prod rs+j)/prod rs=k:=by
  rw[Nat.add_comm,Nat.add_mul_div_right _ _ (!1),Nat.div_eq_of_lt hj,Nat.zero_add]
 rw[e,Nat.mod_eq_of_lt hk]
abbrev p1 (rs:NF) (w:NO):Sd:=pl 1 rs w (0,1)
theorem AZ (b:Bool) (n k:Nat):((!6).map λ(j:Nat)=>((k:Int)*(n:Int)+(if b then(j:Int)else(n:Int)-1-(j:Int)))).Perm ((!6).map λ(j:Nat)=>((k*n+j:Nat):Int)):=by
 cases b with
 |true=>
  refine List.Perm.of_eq (List.map_congr_left λj _=>?_);simp
 |false=>
  have e:((!6).map λ(j:Nat)=>((k:Int)*(n:Int)+(if false=true then(j:Int)else(n:Int)-1-(j:Int))))=((!6).map λ(j:Nat)=>((k*n+j:Nat):Int)).reverse:=by
   apply List.ext_getElem
   ·simp
   ·intro i h1 h2;simp only[length_map,length_range]at h1;rw[List.getElem_reverse];simp only[List.getElem_map,List.getElem_range,length_map,length_range];rw[if_neg (!4)];omega
  rw[e];exact List.reverse_perm _
theorem uz (rs:NF):(∀p∈rs,0<p.length)->((wds rs).map λw=>(p1 rs w).1).Perm ((List.range (prod rs)).map λ(i:Nat)=>(i:Int)):=by
 refine rN (P:=λrs=>(∀p∈rs,0<p.length)->((wds rs).map λw=>(p1 rs w).1).Perm ((List.range (prod rs)).map λ(i:Nat)=>(i:Int))) (λ_=>.refl _) (λrs p ih h=>?_) rs;have hr:∀q∈rs,0<q.length:=λq hq=>h q (Of _ hq);rw[fL,bi,Nat.mul_comm,<-jr (λ(i:Nat)=>(i:Int)) _ p.length];unfold rM;rw[List.map_flatMap];refine vU λk hk=>?_;rw[List.map_map];have e:List.map ((λw=>(p1 (rs++[p]) w).1)∘λw=>w++[k]) (wds rs)=((wds rs).map λw=>(p1 rs w).1).map λc=>((k:Int)*(prod rs:Int)+(if(pkg p k).1 then c else(prod rs:Int)-1-c)):=by
  rw[List.map_map];refine List.map_congr_left λw hw=>?_;show(pl 1 (rs++[p]) (w++[k]) (0,1)).1=_;rw[kU 1 (0,1) p k (eS rs w hw).1,Nat.one_mul];rfl
 rw[e];refine((ih hr).map _).trans ?_;rw[List.map_map];exact AZ (pkg p k).1 _ k
theorem fit_all:∀ (rs:NF) (w:NO),w.length=rs.length->(∀q∈w.zip rs,q.1<q.2.length)->(∀p∈rs,∀a∈p,s<=a.2)->jq s rs w=true
 |[],_,_,_,_=>rfl
 |_::_,[],h,_,_=>by cases h
 |p::rs,k::w,h,hz,hp=>by
  have h1:=hz (k,p) (by rw[List.zip_cons_cons];exact N5);have e:pkg p k∈p:=by
   unfold pkg;rw[List.getD_eq_getElem?_getD,getElem?_eq_getElem h1];exact List.getElem_mem h1
  show(decide (s<=(pkg p k).2)&&jq s rs w)=true;rw[decide_eq_true (hp p mem_cons_self _ e),fit_all rs w (Nat.succ.inj h) (λq hq=>hz q (by rw[List.zip_cons_cons];exact N6 _ hq)) λq hq=>hp q (N6 _ hq)];rfl
def tol (ps:NF):List Sd:=(List.range (prod ps)).map λm=>p1 ps (dg ps m)
theorem DQ (h:∀p∈ps,0<p.length) (hw:∀p∈ps,∀a∈p,(1:Int)<=a.2):sds 1 1 ps=tol ps:=by
 have e:=List.filter_eq_self.mpr λw hm=>fit_all ps w (eS ps w hm).1 (eS ps w hm).2 hw;unfold sds tol;rw[e,uy ps h,List.map_map];rfl
theorem oA (h:∀p∈ps,0<p.length):((tol ps).map (·.1)).Perm ((List.range (prod ps)).map λ(i:Nat)=>(i:Int)):=by
 have:=uz ps h;rw[uy ps h,List.map_map]at this;unfold tol;rw[List.map_map];exact this
theorem uA (h:∀p∈ps,0<p.length) {T:List Sd} (h1:T.Perm (tol ps)) (h2:T.Pairwise λa b=>HT.lexLt [b.1,b.2] [a.1,a.2]=false):T.map (·.1)=(List.range (prod ps)).map λ(i:Nat)=>(i:Int):=by
 refine List.Perm.eq_of_pairwise (λa b _ _ x y=>Int.le_antisymm x y) (List.pairwise_map.mpr (h2.imp λ{a b} z=>?_)) ?_ ((h1.map _).trans (oA h))
 ·rw[lx2]at z;have z:=of_decide_eq_false z;omega
 ·refine List.pairwise_map.mpr ((List.pairwise_lt_range).imp λ{a b} z=>?_);omega
theorem oB (h:∀p∈ps,0<p.length):((tol ps).map (·.1)).Nodup:=by
 refine(oA h).nodup_iff.mpr ?_;refine List.pairwise_map.mpr ((List.pairwise_lt_range).imp λ{a b} z=>?_);omega
end K20
namespace K20
open PySem PySem.Spec PyProof.Rows L2
def mB (jx:Fn):Cl:=(ae (aw 4 evE) (ae (frF (jX (enF (x1 (va 0))) (biF noD (x1 (va 0)))) (eTp 2 (dF (eNm 5) (dF (eNm 6) pi))) (ae (ifS (av (ab leD (va 1) (ab ixD (va 6) (cI 1)))) (ae (aw 7 (evV (ifF (av (ab (!29) (ab ixD (va 6) (cI 0)) (cS "queue"))) (cI 1) (ngF (cI 1))))) (ae (tR 4 (lsF (aj [8,9] (jX noV (va 3)) (gTp 2 (ao (gNm 8) (ao (gNm 9) aX))) tQ (tpF (x2 (ab aG (ab aQ (va 5) (va 2)) (clF jx (x3 (ab ixD (va 6) (cI 0)) (va 2) (va 8)))) (ab aQ (va 7) (va 9))))))) nxE)) nxE) nxE)) (ae (rtN 4) nxE)))
def qg (fl:Str->Str->Bool) (b8 bg:Fn):Cl:=(ae (aw 3 (evC bg (x1 (slF (!8) noP (aH (va 2)))))) (ae (aw 4 (evX (lsF (dpF (x1 (tpF (x2 (ab bE (va 3) (cI 1)) (cI 1)))))) (dpF (x1 (tpF (x2 (ab bE (va 3) (cI 1)) (cI 1))))) (fLs (x1 (frX (tpF (x2 (ab bE (va 3) (cI 1)) (cI 1))) noV (fTp (x2 (frX (ab bE (va 3) (cI 1)) noV noV) (frX (cI 1) noV noV)))))))) (ae (frF (jX noV (slF (!8) (aH (va 2)) noP)) (eNm 5) (ae (aw 4 (evC b8 (x4 (va 5) (va 1) (va 3) (va 4)))) (ae (aw 3 (evV (ab aQ (va 3) (lnF (va 5))))) nxE))) (rtF (evX (liG (x1 (va 4)) (s1F (x1 (va 4)))) (s1F (x1 (va 4))) (fNo (x1 (va 4))))))))
theorem A3 (S:List Sd):lfL (S.map sdD)=true:=bI λd hd=>by
 obtain⟨p,_,rfl⟩:=Oc.mp hd;rfl
theorem A4 (h:p[k]?=some a):pkg p k=a:=by unfold pkg;rw[List.getD_eq_getElem?_getD,h];rfl
theorem xA {S:List Sd} (i:Nat):((List.range i).flatMap λk=>if s<=(pkg p k).2 then S.map (br n k (pkg p k))else[]).length<=i*S.length:=by
 induction i with
 |zero=>exact Nat.le_of_eq (by simp)
 |succ i ih=>
  rw[List.range_succ,List.flatMap_append,length_append,Nat.succ_mul];have:(List.flatMap (λk=>if s<=(pkg p k).2 then S.map (br n k (pkg p k))else[]) [i]).length<=S.length:=by
   rw[List.flatMap_cons,List.flatMap_nil,List.append_nil];split
   ·rw[length_map];exact Om _
   ·exact Nat.zero_le _
  omega
def qh (f:Fn):Prop:=∀ (p:List Pk) (s:Int) (n:Nat) (S:List Sd),p.length<=6->n<=1000->S.length<=1000->f [tpD p,.int s,iN n,.lst (S.map sdD)]=dp (.lst ((AV s n p S).map sdD))
theorem A5 {la} (hl:oq la):qh (aL 4 10 (mB la)):=λp s n S hp hn hS=>by
 refine aq rfl ?_;refine q_set (evX_lfs (d:=.lst []) (by simp) rfl (by simp) rfl) (AN (xs:=p.zipIdx) (mk:=λq=>.tup [.int (q.2:Nat),pkD q.1])
  (λi U=>∃o5 o6 o7,U=[sn (tpD p),sn _,sn (iN n),sn (.lst _),dp (.lst (((List.range i).flatMap λk=>if s<=(pkg p k).2 then S.map (br n k (pkg p k))else[]).map sdD)),o5,o6,o7,none,none]) ?_ ⟨none,none,none,rfl⟩ ?_ ?_)
 ·refine AE ?_;show(seqD (tpD p)).bind (λxs=>some (iq xs))=_;rw[show seqD (tpD p)=some _ from rfl,Option.bind_some,jk]
 ·rintro i ⟨⟨b,w⟩,j⟩ U hq ⟨o5,o6,o7,rfl⟩;obtain⟨hq1,hq2⟩:p[i]?=some (b,w)/\i=j:=by
   rw[List.getElem?_zipIdx]at hq;cases e:p[i]? with
   |none=>rw[e]at hq;cases hq
   |some a=>rw[e]at hq;cases hq;exact⟨rfl,by simp⟩
  subst hq2;have hi:=(N4.mp hq1).1;have pk:=A4 hq1;have x0:ixD (pkD (b,w)) (.int 0)=some _:=rD _ _;have x1:ixD (pkD (b,w)) (.int 1)=some _:=vJ _ _ _;have e1:((List.range (i+1)).flatMap λk=>if s<=(pkg p k).2 then S.map (br n k (pkg p k))else[])=((List.range i).flatMap λk=>if s<=(pkg p k).2 then S.map (br n k (pkg p k))else[])++(if s<=w then S.map (br n i (b,w))else[]):=by
   rw[List.range_succ,List.flatMap_append];simp[pk]
  have hlen:=xA (s:=s) (n:=n) (p:=p) (S:=S) i;have hlen2:i*S.length<=6*1000:=Nat.mul_le_mul (!1) hS;rw[e1];generalize ((List.range i).flatMap λk=>if s<=(pkg p k).2 then S.map (br n k (pkg p k))else[])=T at hlen;by_cases hw:s<=w
  ·rw[if_pos hw];obtain⟨t,ht,ht1⟩:∃t:Int,(if b then 1 else -1)=t/\(t=1\/t= -1):=⟨_,rfl,by cases b<;>simp⟩;have mi:aQ (iN i) (iN n)=some (.int ((i:Int)*(n:Int))):=eQ (!1) (!1);refine x_if (b:=true) (by simp[vw_o,x1,hw]) ⟨_,q_set (evX_lf (d:=.int t) ?_ rfl) (q_st (ou (es:=(S.map (br n i (b,w))).map sdD) rfl ?_ (A3 _) ?_) rfl),⟨_,rfl,⟨sn (iN i),sn (pkD (b,w)),dp (.int t),?_⟩⟩⟩
   ·simp only[sB,EV,x0,Ap];cases b with
    |true=>
     have e:decide (kd true="queue")=true:=by decide+kernel
     simp only[e];subst ht;rfl
    |false=>
     have e:decide (kd false="queue")=false:=by decide+kernel
     simp only[e];subst ht;rfl
   ·have hc:aj [8,9] (jX noV (va 3)) (gTp 2 (ao (gNm 8) (ao (gNm 9) aX))) tQ (tpF (x2 (ab aG (ab aQ (va 5) (va 2)) (clF la (x3 (ab ixD (va 6) (cI 0)) (va 2) (va 8)))) (ab aQ (va 7) (va 9))))
      [some (tpD p),some (.int s),some (iN n),some (.lst (S.map sdD)),none,some (iN i),some (pkD (b,w)),some (.int t),none,none]=some (S.map λc=>sdD (br n i (b,w) c)):=by
     refine aC (mk:=sdD) (by simp) (λc _=>?_) (N9 hS (!4))
     have mt:aQ (.int t) (.int c.2)=some (.int _):=pR (!1) (!1)
     simp[sdD,mi,x0,hl b (n:Int) c.1,mt]
     cases b with
     |true=>subst ht;simp[br,lay]
     |false=>subst ht;simp[br,lay]
    show lsF _ [some (tpD p),some (.int s),some (iN n),some (.lst (S.map sdD)),none,some (iN i),some (pkD (b,w)),some (.int t),none,none]=_;rw[lsF_a,hc,List.map_map];rfl
   ·rw[length_map,length_map,length_map];exact N9 (show T.length+S.length<=10000 by omega) (!4)
   ·rw[List.map_append];rfl
  ·rw[if_neg hw];refine x_if (b:=false) (by simp[vw_o,x1,hw]) ⟨_,rfl,⟨_,rfl,⟨sn (iN i),sn (pkD (b,w)),o7,?_⟩⟩⟩;rw[List.append_nil];rfl
 ·rintro U ⟨o5,o6,o7,rfl⟩;rw[List.length_zipIdx];rfl
def uB (f:Fn):Prop:=∀ (ps:NF) (s:Int) (t:Nat),Valid ps->prod ps<256->t<=ps.length->∃T:List Sd,T.Perm (sds s (prod (ps.take t)) (!20))/\T.Pairwise (λa b=>HT.lexLt [b.1,b.2] [a.1,a.2]=false)/\f [ah ps,.int s,iN t]=dp (.lst (T.map sdD))
theorem oC {α:Type} (l:List α) (t i:Nat) (a:α) (h:(l.drop t)[i]?=some a):(l.drop t).take (i+1)=(l.drop t).take i++[a]:=by rw[List.take_add_one,h];rfl
theorem rO (ps:NF) (t i:Nat):prod (ps.take t)*prod ((!20).take i)=prod (ps.take (t+i)):=by rw[<-cJ,List.take_add]
theorem qi (hv:Valid ps) (k:Nat):prod (ps.take k)<=prod ps:=by
 have e:prod ps=prod (ps.take k)*prod (ps.drop k):=by rw[<-cJ,List.take_append_drop]
 have h1:1<=prod (ps.drop k):=by
  have:∀rs:NF,(∀p∈rs,p∈ps)->1<=prod rs:=λrs=>by
   induction rs with
   |nil=>intro _;decide
   |cons p rs ih=>intro h;exact Nat.mul_pos (hv.p (h p N5)).1 (ih λq hq=>h q (N6 _ hq))
  exact this _ λp hp=>List.mem_of_mem_drop hp
 rw[e];exact Nat.le_mul_of_pos_right _ h1
theorem mC (hv:Valid ps) (t i:Nat):1<=prod ((!20).take i):=by
 have:∀rs:NF,(∀p∈rs,p∈ps)->1<=prod rs:=λrs=>by
  induction rs with
  |nil=>intro _;decide
  |cons p rs ih=>intro h;exact Nat.mul_pos (hv.p (h p N5)).1 (ih λq hq=>h q (N6 _ hq))
 grind
theorem H9 (hv:Valid ps) (s:Int) (t i:Nat):(sds s (prod (ps.take t)) ((!20).take i)).length<=prod ps:=by
 refine Oa (DP _ _ _) ?_;have h1:1<=prod (ps.take t):=by have:=mC hv 0 t;rwa [List.drop_zero]at this
 refine Oa ?_ (Oa (Nat.le_of_eq (rO ps t i)) (qi hv (t+i)));exact Nat.le_mul_of_pos_left _ h1
theorem MZ (hf:fl "Mill" "passes"=true) (h0:cf U 0=some (ah ps)) (h1:cf U 2=some (iN t)):slF (!8) noP (aH (va 2)) U=some (.tup ((ps.take t).map tpD)):=by
 unfold slF orO mZ;simp[h0,h1,iJ hf,aS,mj]
theorem M5 (hf:fl "Mill" "passes"=true) (h0:cf U 0=some (ah ps)) (h1:cf U 2=some (iN t)):slF (!8) (aH (va 2)) noP U=some (.tup ((!20).map tpD)):=by
 unfold slF orO mZ;simp[h0,h1,iJ hf,aS,fI]
theorem xB (hc:gU co) (hp:∀p∈ps,p.length<1000):co [.tup (ps.map tpD)]=dp (.int (prod ps:Nat)):=by
 have i1:(ps.map λp=>(false,p)).map (·.2)=ps:=by rw[List.map_map];exact List.map_id ps
 have i2:(ps.map λp=>(false,p)).map paD=ps.map tpD:=by rw[List.map_map];rfl
 have q:=hc false (ps.map λp=>(false,p)) λp hp'=>by
  obtain⟨r,hr,rfl⟩:=Oc.mp hp';exact hp r hr
 rw[i1,i2]at q;exact q
theorem DR (hfl:fl "Mill" "passes"=true) (hsb:qh sb) (hco:gU co):uB (aL 3 6 (qg fl sb co)):=λps s t hv h64 ht=>by
 have hs:ax 6 [ah ps,.int s,iN t]=[sn _,sn _,sn (iN t),none,none,none]:=rfl;obtain⟨n0,hn0⟩:∃n,n=prod (ps.take t):=⟨_,rfl⟩;have ec:co [.tup ((ps.take t).map tpD)]=dp (.int (n0:Nat)):=by rw[hn0];exact xB hco λp hp=>by have:=(hv.p (List.mem_of_mem_take hp)).2.1;omega
 have hle:∀i,n0*prod ((!20).take i)<=prod ps:=λi=>by rw[hn0,rO];exact qi hv _
 have hsl:∀i,(sds s n0 ((!20).take i)).length<=prod ps:=λi=>by rw[hn0];exact H9 hv s t i
 obtain⟨T,h1,h2,h3⟩:=DN (S:=sds s n0 (!20)) (by have:=hsl (!20).length;rw[List.take_length]at this;omega);rw[<-hn0];refine⟨T,h1,h2,aq rfl ?_⟩;rw[hs];refine q_set (evX_lf (d:=iN n0) ?_ rfl) (q_set (evX_lfs (d:=.lst [sdD ((n0:Int)-1,1)]) (ds:=[sdD ((n0:Int)-1,1)]) ?_ rfl ?_ rfl) (AN (xs:=ps.drop t) (mk:=tpD)
  (λi U=>∃o5,U=[sn (ah ps),sn (.int s),sn (iN t),dp (iN (n0*prod ((!20).take i))),dp (.lst ((sds s n0 ((!20).take i)).map sdD)),o5]) ?_ ⟨none,?_⟩ ?_ ?_))
 ·have e:=MZ hfl (U:=[some (ah ps),some (.int s),some (iN t),none,none,none]) rfl rfl;simp only[sB,e,ec]
 ·simp[sdD]
 ·simp[sdD]
 ·show jX noV _ (shv _)=_;rw[cX,M5 hfl rfl rfl];rfl
 ·have e:n0*prod ((!20).take 0)=n0:=Nat.mul_one n0;rw[e];rfl
 ·rintro i p U hp ⟨o5,rfl⟩;have hpm:=List.mem_of_mem_drop (Ol hp);have hl6:=(hv.p hpm).2.1;have hb:=hle i;have e:=hsb p s (n0*prod ((!20).take i)) (sds s n0 ((!20).take i)) hl6 (!1) (by have:=hsl i;omega);rw[<-AW,<-oC ps t i p hp]at e;refine⟨_,q_set (evX_call (d:=.lst ((sds s n0 ((!20).take (i+1))).map sdD)) (e:=.lst ((sds s n0 ((!20).take (i+1))).map sdD)) ?_ rfl rfl ?_) (q_set (evX_lf (d:=iN (n0*prod ((!20).take i)*p.length)) ?_ rfl) rfl),⟨sn (tpD p),?_⟩⟩
  ·simp only[sB,e]
  ·simp only[sB,e,ui]
  ·have y:seqD (tpD p)=some _:=rfl;simp only[sB,dP,y,length_map,vP (show n0*prod ((!20).take i)<1000000 by omega)]
  ·rw[oC ps t i p hp,bi,<-Nat.mul_assoc];rfl
 ·rintro U ⟨o5,rfl⟩;rw[List.take_length];have s1:s1F (x1 (va 4)) (vw [sn (ah ps),sn (.int s),sn (iN t),dp (iN (n0*prod (!20))),dp (.lst ((sds s n0 (!20)).map sdD)),o5])=some (T.map sdD):=by
   show(x1 (va 4) _).bind cb=_;simp only[sB,h3]
  refine q_ret (evX_lfs (vR s1) rfl s1 (A3 T))
end K20
namespace K20
open PySem PySem.Spec PyProof.Rows L2
def DS (bx bz:Fn):Cl:=(ae (fB (clF bz (x1 (va 0)))) (rtF (evX (lsF (aj [1,2] (jX noV (clF bx (x3 (va 0) (cI 1) (cI 0)))) (gTp 2 (ao (gNm 1) (ao (gNm 2) aX))) tQ (va 2))) (aj [1,2] (jX noV (clF bx (x3 (va 0) (cI 1) (cI 0)))) (gTp 2 (ao (gNm 1) (ao (gNm 2) aX))) tQ (va 2)) (fCo [1,2] (jX noV (clF bx (x3 (va 0) (cI 1) (cI 0)))) (gTp 2 (ao (gNm 1) (ao (gNm 2) aX))) tQ (frX (va 2) noV noV)))))
def iO:Cl:=(ae (aw 1 (evX noV noV dcN)) (ae (aw 2 (evV (cI 1))) (ae (frF (jX noV (va 0)) (eNm 3) (ae (aw 2 (evV (ab aQ (va 2) (lnF (va 3))))) nxE)) (ae (frF (jR (x1 (va 2))) (eNm 4) (ae (aw 5 (evM 4 (evV (va 4)))) (ae (aw 6 (evV (cI 0))) (ae (aw 7 (evV (cI 1))) (ae (aw 8 (evV (cI 1))) (ae (frF (jX noV (va 0)) (eNm 3) (ae (aw 9 (evV (ab bd (va 5) (lnF (va 3))))) (ae (aw 5 (evV (ab eZ (va 5) (lnF (va 3))))) (ae (ifS (av (ab (!29) (ab ixD (ab ixD (va 3) (va 9)) (cI 0)) (cS "pile"))) (ae (aw 6 (evV (ab bE (ab bE (va 7) (cI 1)) (va 6)))) (ae (aw 8 (evV (ngF (va 8)))) nxE)) nxE) (ae (aw 6 (evX (ab aG (ab aQ (va 9) (va 7)) (va 6)) (iw (orO (ab aQ (va 9) (va 7)) (lsF noV)) (va 6)) noV)) (ae (aw 7 (evV (ab aQ (va 7) (lnF (va 3))))) nxE)))))) (ae (iG 1 (va 6) (evV (va 8)) (va 8)) nxE))))))) (rtF (evX (lsF (aj [6] (jR (x1 (va 2))) (gNm 6) tQ (ab ixD (va 1) (va 6)))) (aj [6] (jR (x1 (va 2))) (gNm 6) tQ (ab ixD (va 1) (va 6))) (fCo [6] (jR (x1 (va 2))) (gNm 6) tQ (frX (ab ixD (va 1) (va 6)) noV noV))))))))
theorem Ia {α:Type} {U1:Ev} {out:α->Option Out} {P:α->Prop} (h:o=some U1) (k:∃a,F U1=out a/\P a):∃a,o.bind F=out a/\P a:=by rw[h];exact k
def uC (f:Fn):Prop:=∀ps:NF,Valid ps->Wide ps->prod ps<256->∃T:List Sd,T.Perm (tol ps)/\T.Pairwise (λa b=>HT.lexLt [b.1,b.2] [a.1,a.2]=false)/\f [ah ps]=dp (.lst ((T.map (·.2)).map D.int))
theorem vV (S:NQ):lfL (S.map D.int)=true:=bI λd hd=>by
 obtain⟨p,_,rfl⟩:=Oc.mp hd;rfl
theorem iP (hv:Valid ps):∀p∈ps,0<p.length:=λp hp=>(hv.p hp).1
theorem DT {os lw} (hos:uB os) (hlw:HZ lw):uC (aL 1 3 (DS os lw)):=λps hv hw hp=>by
 have hs:ax 3 [ah ps]=[sn _,none,none]:=rfl;obtain⟨T,h1,h2,h3⟩:=hos ps 1 0 hv hp (Nat.zero_le _);have h1:T.Perm (sds 1 1 ps):=h1;have h3:os [ah ps,.int 1,.int 0]=dp (.lst _):=h3;rw[DQ (iP hv) hw]at h1;have hT:T.length<big:=by
  rw[h1.length_eq];unfold tol;rw[length_map,length_range];exact Nat.lt_trans hp (!4)
 have hc:aj [1,2] (jX noV (clF os (x3 (va 0) (cI 1) (cI 0)))) (gTp 2 (ao (gNm 1) (ao (gNm 2) aX))) tQ (va 2) [some (ah ps),none,none]=some ((T.map (·.2)).map D.int):=by
  rw[List.map_map];refine aC (mk:=sdD) ?_ (λc _=>?_) hT
  ·simp only[sB,cX,h3,Hr]
  ·simp[sdD]
 refine⟨T,h1,h2,aq rfl ?_⟩;rw[hs];refine AM (d:=.non) ?_ (q_ret (evX_lfs (d:=.lst ((T.map (·.2)).map D.int)) ?_ rfl ?_ (vV _)))
 ·simp only[sB,hlw ps hv hw]
 all_goals simp_all
def dkD (W:List Sd):D:=.dct (W.map λq=>Sum.inl q.1) (W.map λq=>.int q.2)
theorem DU {W:List Sd} (h:a ∉ W.map (·.1)):lO (W.map λq=>Sum.inl q.1) (.inl a)=false:=by
 unfold lO;grind
theorem KY (W:List Sd):lfL (W.map λq=>D.int q.2)=true:=bI λd hd=>by
 obtain⟨p,_,rfl⟩:=Oc.mp hd;rfl
theorem DV {R L Sp} (hU:io U i=dp (dkD W)) (hk:k (vw U)=some (.int q.1)) (hR:R (vw U)=some (.int q.2)) (hn:q.1 ∉ W.map (·.1)) (hl:W.length<1000):
  iG i k (evX R L Sp) R U=some (.nx (U.set i (dp (dkD (W++[q]))))):=by
 refine EO ?_
 unfold qX
 rw[show iB U i=some (W.map λq=>Sum.inl q.1,W.map λq=>D.int q.2)by unfold iB;rw[hU];rfl,hR,hk]
 show(if lfL (W.map λq=>D.int q.2)=true/\(W.map λq:Sd=>(Sum.inl q.1:Key)).length+1<big then _ else _)=_
 rw[if_pos ⟨KY W,by rw[length_map];exact N9 (show W.length+1<=1000 by omega) (!4)⟩]
 unfold n5 jY dkD
 rw[DU hn,List.map_append,List.map_append]
 rfl
theorem A6:∀ {W:List Sd} {q:Sd},q∈W->(W.map (·.1)).Nodup->qO (W.map λq=>Sum.inl q.1) (W.map λq=>.int q.2) (.inl q.1)=some (.int q.2)
 |[],_,h,_=>nomatch h
 |p::W,q,h,hn=>by
  rw[List.map_cons]at hn;obtain⟨h1,h2⟩:=List.nodup_cons.mp hn;show(if(Sum.inl p.1:Key)=.inl q.1 then some (D.int p.2)else qO (W.map λq=>Sum.inl q.1) (W.map λq=>.int q.2) (.inl q.1))=_;rcases mem_cons.mp h with rfl|h
  ·rw[if_pos rfl]
  ·rw[if_neg λe=>?_,A6 h h2];have e:p.1=q.1:=Sum.inl.inj e;exact h1 (by rw[e];exact Oc.mpr ⟨q,h,rfl⟩)
theorem KZ (h:q∈W) (hn:(W.map (·.1)).Nodup):ixD (dkD W) (.int q.1)=some (.int q.2):=A6 h hn
def stt (ps:NF) (i m:Nat):Sd:=p1 (ps.take i) (dg (ps.take i) m)
theorem A7 (h:ps[i]?=some p):stt ps (i+1) m=br (prod (ps.take i)) (m/prod (ps.take i)%p.length) (pkg p (m/prod (ps.take i)%p.length)) (stt ps i m):=by
 unfold stt p1;rw[List.take_add_one,h];show pl 1 (ps.take i++[p]) (dg (ps.take i++[p]) m) (0,1)=_;rw[qf,kU 1 (0,1) p _ (AX _ _),Nat.one_mul]
theorem Ib (h:m<prod ps):(tol ps)[m]?=some (stt ps ps.length m):=by
 unfold tol stt;grind
theorem rP (h:m<prod ps):(tol ps).take (m+1)=(tol ps).take m++[stt ps ps.length m]:=by
 rw[List.take_add_one,Ib h];rfl
theorem DW (hv:Valid ps) (h:m<prod ps):(stt ps ps.length m).1 ∉ ((tol ps).take m).map (·.1):=λhm=>by
 have hn:=oB (iP hv);have e:(tol ps).map (·.1)=((tol ps).take (m+1)).map (·.1)++((tol ps).drop (m+1)).map (·.1):=by rw[<-List.map_append,List.take_append_drop]
 rw[e,rP h,List.map_append]at hn;grind
theorem DX (b:Bool):decide (kd b="pile")=!b:=by cases b<;>decide+kernel
def sLF (f:Fn):Prop:=∀ (ps:NF) (S:NQ),Valid ps->prod ps<256->S.length=prod ps->(∀i,i<prod ps->((i:Int),S.getD i 0)∈tol ps)->f [aS ps]=dp (!31)
theorem M6:sLF (aL 1 10 iO):=λps S hv h2 hl hS=>by
 have hs:ax 10 [aS ps]=[sn _,none,none,none,none,none,none,none,none,none]:=rfl;have y:seqD (aS ps)=some _:=rfl;have hpi:∀i,prod (ps.take i)<256:=λi=>N9 (qi hv i) h2;have hpp:∀i,1<=prod (ps.take i):=λi=>by have:=mC hv 0 i;rwa [List.drop_zero]at this
 have hlen:∀ (i:Nat) (p:List Pk),ps[i]?=some p->1<=p.length/\p.length<=6:=λi p h=>⟨(hv.p (Ol h)).1,(hv.p (Ol h)).2.1⟩;have psn:∀ (i:Nat) (p:List Pk),ps[i]?=some p->prod (ps.take (i+1))=prod _*p.length:=λi p h=>by
  rw[List.take_add_one,h];exact bi _ _
 have fin:∃a:Unit,iO [sn (aS ps),none,none,none,none,none,none,none,none,none]=some (.rt (.deep,.lst (S.map D.int)))/\True:=by
  refine x_set rfl (x_set (evX_lf rfl rfl) (x_for (xs:=ps) (mk:=tpD) (λi U=>∃o3,U=[sn _,dp _,dp (.int (prod (ps.take i):Nat)),o3,none,none,none,none,none,none]) ?_ ⟨none,rfl⟩ ?_ ?_))
  ·show(va 0 [some (aS ps),none,some (.int 1),none,none,none,none,none,none,none]).bind seqD=_;rw[va_a,shAt_0,Option.bind_some,y]
  ·rintro i p U hp ⟨o3,rfl⟩;have sp:seqD (tpD p)=some _:=rfl;refine Ia (U1:=[sn _,dp _,dp (.int (prod _:Nat)),sn (tpD p),none,none,none,none,none,none]) rfl (x_set (evX_lf (d:=iN (prod (ps.take i)*p.length)) ?_ rfl) (x_end ⟨sn (tpD p),?_⟩))
   ·simp only[sB,dP,sp,length_map,vP (show prod (ps.take i)<1000000 by have:=hpi i;omega)]
   ·rw[psn i p hp];rfl
  ·rintro U ⟨o3,rfl⟩;rw[List.take_length];refine x_rng (n:=prod ps) (v:=λi=>(i:Int)) (λm U=>∃o3 o4 o5 o6 o7 o8 o9,U=[sn _,dp (dkD ((tol ps).take m)),dp (.int (prod ps:Nat)),o3,o4,o5,o6,o7,o8,o9]) ?_ ⟨o3,none,none,none,none,none,none,rfl⟩ ?_ ?_
   ·refine gw ?_;exact bF (!1)
   ·rintro m U hm ⟨o3,o4,o5,o6,o7,o8,o9,rfl⟩;have st0:stt ps 0 m=(0,1):=by unfold stt p1;rw[List.take_zero];rfl
    refine x_set (evM_lf rfl rfl rfl) (x_set (evX_lf rfl rfl) (x_set (evX_lf rfl rfl) (x_set (evX_lf rfl rfl)
     (x_for (xs:=ps) (mk:=tpD) (λi U=>∃o3 o9,U=[sn (aS ps),dp (dkD ((tol ps).take m)),dp (.int (prod ps:Nat)),o3,sn (iN m),dp (iN (m/prod (ps.take i))),dp (.int (stt ps i m).1),dp (.int (prod (ps.take i):Nat)),dp (.int (stt ps i m).2),o9]) ?_ ⟨o3,o9,?_⟩ ?_ ?_))))
    ·show(va 0 [some (aS ps),none,some (.int (prod ps:Nat)),Ge o3,some (iN m),some (iN m),some (.int 0),some (.int 1),some (.int 1),Ge o9]).bind seqD=_;rw[va_a,shAt_0,Option.bind_some,y]
    ·rw[st0,List.take_zero,show prod []=1 from rfl,Nat.div_one];rfl
    ·rintro i p U hp ⟨o3,o9,rfl⟩;have sp:seqD (tpD p)=some _:=rfl;obtain⟨l1,l6⟩:=hlen i p hp;have hpi:=hpi i;rw[A7 hp,psn i p hp,<-Nat.div_div_eq_div_mul];have hk:m/prod (ps.take i)%p.length<p.length:=Nat.mod_lt _ l1;have em:bd (iN (m/prod (ps.take i))) (.int (p.length:Int))=some (iN (m/prod _%p.length)):=vI (!1);have ed:eZ (iN (m/prod (ps.take i))) (.int (p.length:Int))=some (iN (m/prod _/p.length)):=eN (!1) (!1);generalize m/prod (ps.take i)%p.length=k at hk em;generalize m/prod (ps.take i)/p.length=l at ed;generalize m/prod (ps.take i)=l0 at em ed;generalize prod (ps.take i)=n at hpi hpp;obtain⟨⟨b,w⟩,hb⟩:∃a,p[k]?=some a:=⟨_,getElem?_eq_getElem hk⟩;have pk:=A4 hb;rw[pk];obtain⟨c,s⟩:=stt ps i m;have f3:ixD (tpD p) (iN k)=some _:=atI_mapN hb;have x0:ixD (pkD (b,w)) (.int 0)=some _:=rD _ _;have mk:aQ (iN k) (iN n)=some (.int ((k:Int)*(n:Int))):=eQ (!1) (!1);have mn:aQ (iN n) (.int (p.length:Int))=some (iN _):=vP (!1);refine Ia (U1:=[sn _,dp (dkD _),dp (.int (prod ps:Nat)),sn (tpD p),sn (iN m),dp (iN l0),dp _,dp (iN n),dp _,o9]) rfl
      (x_set (evX_lf (d:=iN k) ?_ rfl) (x_set (evX_lf (d:=iN l) ?_ rfl) (x_if (b:=!b) ?_ ⟨[sn _,dp (dkD _),dp (.int (prod ps:Nat)),sn (tpD p),sn (iN m),dp (iN l),dp (.int (if b then c else(n:Int)-1-c)),dp (iN n),dp (.int _),dp (iN k)],?_,
       x_set (evX_lf (d:=.int ((k:Int)*(n:Int)+(if b then c else(n:Int)-1-c))) ?_ rfl) (x_set (evX_lf ?_ rfl) (x_end ⟨sn (tpD p),dp (iN k),rfl⟩))⟩)))
     ·simp only[sB,dP,sp,length_map,em]
     ·simp only[sB,dP,sp,length_map,ed]
     ·simp only[sB,f3,x0,Ap,DX];rfl
     ·cases b with
      |true=>rfl
      |false=>
       refine q_set (evX_lf (d:=.int ((n:Int)-1-c)) ?_ rfl) (q_set (evX_lf (d:=.int (-s)) ?_ rfl) rfl)
       ·simp only[sB]
       ·simp only[sB,vF,pQ]
     ·simp only[sB,mk]
     ·simp only[sB,dP,sp,length_map,mn]
    ·rintro U ⟨o3,o9,rfl⟩;rw[rP hm];refine x_one (DV rfl rfl rfl (DW hv hm) ?_) ⟨_,_,_,_,_,_,_,rfl⟩;rw[List.length_take];omega
   ·rintro U ⟨o3,o4,o5,o6,o7,o8,o9,rfl⟩;have hll:(tol ps).length=prod ps:=by unfold tol;rw[length_map,length_range]
    rw[<-hll,List.take_length,hll];have hc:∀o3 o4 o5 o6 o7 o8 o9:NU,aj [6] (jR (x1 (va 2))) (gNm 6) tQ (ab ixD (va 1) (va 6)) [some (aS ps),some (dkD (tol ps)),some (.int (prod ps:Nat)),o3,o4,o5,o6,o7,o8,o9]=some (S.map D.int):=λo3 o4 o5 o6 o7 o8 o9=>by
     have e:S.map D.int=(List.range (prod ps)).map λi=>D.int (S.getD i 0):=by
      rw[<-hl];conv=>lhs;rw[<-bT 0 S]
      rw[List.map_map];rfl
     rw[e];refine aC (mk:=λ(i:Nat)=>D.int (i:Int)) (gw ?_) (λi hi=>?_) (by rw[length_range];exact Nat.lt_trans h2 (!4))
     ·simp only[sB];exact bF (!1)
     ·have:=KZ (hS i (Oj.mp hi)) (oB (iP hv));simp only[sB,this]
    refine⟨(),q_ret (evX_lfs (d:=.lst (S.map D.int)) ?_ rfl ?_ (vV _)),trivial⟩
    ·simp only[sB,hc]
    ·simp only[sB,hc]
 obtain⟨_,fin,_⟩:=fin;exact aq rfl (by rw[hs];exact fin)
end K20
namespace K20
open PySem PySem.Spec PyProof.Rows L2
def xC:Cl:=(rtF (evV (ab (!29) (va 1) (ab (!29) (va 0) (cI 1)))))
def rQ (gf iT gd:Fn):Cl:=(ae (aw 2 (evC gd (x1 (va 0)))) (ae (ifS (ci (trF (clF iT (x1 (va 1))))) (ae noO' nxE) nxE) (ae (aw 3 evE) (ae (frF (jX noV (va 1)) (eNm 4) (ae (ifS (mX (av (ab gtD (lnF (va 3)) (cI 0))) (trF (clF gf (x2 (ab ixD (va 2) (ab bE (lnF (va 3)) (cI 1))) (ab gtD (va 4) (ab ixD (ab ixD (va 3) (ngF (cI 1))) (ngF (cI 1)))))))) (ae (m7 3 (ngF (cI 1)) (va 4)) nxE) (ae (ifS (av (ab ltD (lnF (va 3)) (lnF (va 2)))) (ae (gi 3 (evX (lsF (dpF (x1 (va 4)))) (dpF (x1 (va 4))) (fLs (x1 (frX (va 4) noV noV))))) nxE) (rtF (evV cN))) nxE)) nxE)) (ae (rtN 3) nxE)))))
def xD (bu:Fn):Cl:=(rtF (evV (ab (oY true) (clF bu (x2 (va 0) (va 1))) cN)))
noncomputable def la (F:List (NO)):NO:=F.getD (F.length-1) []
def lx (F:List (NO)):Nat:=(la F).getD ((la F).length-1) 0
def okG (S:NQ) (F:List (NO)) (x:Nat):Bool:=decide (0<F.length)&&(decide (lx F<x)==decide (S.getD (F.length-1) 0=1))
def grow (S:NQ) (F:List (NO)) (x:Nat):Option (List (NO)):=
 if okG S F x=true then some (F.set (F.length-1) (la F++[x]))else if F.length<S.length then some (F++[[x]])else none
def strt (S:NQ) (r:NO):Option (List (NO)):=r.foldlM (grow S) []
def K0:Option (List (NO))->D
 |some F=>.lst (F.map rowD)
 |none=>.non
structure Gd (S:NQ) (k:Nat) (F:List (NO)):Prop where
 ne:∀p∈F,0<p.length
 le:F.length<=S.length
 lk:F.length<=k
 ll:∀p∈F,p.length<=k
theorem uD (h:0<F.length):la F∈F:=by
 unfold la;grind
theorem A8 {F:List (NO)} (h:0<F.length):la (F.set (F.length-1) p)=p:=by
 unfold la;grind
theorem kW (F:List (NO)) (p:NO):la (F++[p])=p:=by
 unfold la;rw[length_append,List.getD_eq_getElem?_getD];show((F++[p])[F.length+1-1]?).getD []=p;rw[Nat.add_sub_cancel,getElem?_append_right (le_refl _),Nat.sub_self];rfl
theorem jt (p:NO) (x:Nat):(p++[x]).getD ((p++[x]).length-1) 0=x:=by simp
theorem kX (h:okG S F x=true):0<F.length:=by grind [okG]
theorem qj (g:Gd S k F) (h:grow S F x=some F'):Gd S (k+1) F'/\0<F'.length/\lx F'=x:=by
 have gk:=g.lk;unfold grow at h;by_cases c:okG S F x=true
 ·rw[if_pos c]at h;cases h;have hp:=kX c;have hm:=g.ll _ (uD hp);refine⟨⟨λp hp=>?_,by rw[List.length_set];exact g.le,by rw[List.length_set];omega,λp hp=>?_⟩,by rw[List.length_set];exact hp,?_⟩
  ·rcases List.mem_or_eq_of_mem_set hp with hp|rfl
   ·exact g.ne p hp
   ·rw[length_append];exact Nat.succ_pos _
  ·rcases List.mem_or_eq_of_mem_set hp with hp|rfl
   ·have:=g.ll p hp;omega
   ·rw[length_append];show _+1<=_;omega
  ·unfold lx;rw[A8 hp];exact jt _ _
 ·rw[if_neg c]at h;by_cases l:F.length<S.length
  ·rw[if_pos l]at h;cases h;refine⟨⟨λp hp=>?_,by rw[length_append];exact l,by rw[length_append];show _+1<=_;omega,λp hp=>?_⟩,by rw[length_append];exact Nat.succ_pos _,?_⟩
   ·rcases mem_append.mp hp with hp|hp
    ·exact g.ne p hp
    ·cases Oe.mp hp;exact Nat.one_pos
   ·rcases mem_append.mp hp with hp|hp
    ·have:=g.ll p hp;omega
    ·cases Oe.mp hp;show 1<=k+1;omega
   ·unfold lx;rw[kW];rfl
  ·rw[if_neg l]at h;cases h
theorem gd0 (S:NQ):Gd S 0 []:=by constructor<;>grind
theorem rR {α Y:Type} {step} {mk} (g:Y->α->Option Y) (I:Nat->Y->Ev->Prop):∀ (xs:List α) (i:Nat) (s:Y) (U:Ev),I i s U->
  (∀j x s U,xs[j]?=some x->I (i+j) s U->(∀s',g s x=some s'->∃U',step (mk x) U=some (.nx U')/\I (i+j+1) s' U')/\(g s x=none->step (mk x) U=some (.rt r)))->
  (∀s',xs.foldlM g s=some s'->∃U',ip step (xs.map mk) U=some (.nx U')/\I (i+xs.length) s' U')/\(xs.foldlM g s=none->ip step (xs.map mk) U=some (.rt r))
 |[],i,s,U,h,_=>⟨λs' e=>by cases e;exact⟨U,rfl,h⟩,λe=>by cases e⟩
 |x::xs,i,s,U,h,hs=>by
  obtain⟨h1,h2⟩:=hs 0 x s U rfl h;rw[List.foldlM_cons,List.map_cons];unfold ip;cases e:g s x with
  |none=>
   rw[h2 e];exact⟨λs' z=>(nomatch z),λ_=>rfl⟩
  |some s1=>
   obtain⟨U1,e1,i1⟩:=h1 s1 e;rw[e1];have:=rR g I xs (i+1) s1 U1 i1 (λj y s U hy hi=>by
    have:=hs (j+1) y s U (by simpa using hy) (by rwa [show i+(j+1)=i+1+j by omega]);rwa [show i+(j+1)+1=i+1+j+1 by omega]at this)
   rw[show i+1+xs.length=i+(x::xs).length by rw[length_cons];omega]at this;exact this
theorem A9 (h:0<n):ixN n (-1)=some (n-1):=by grind [ixN]
theorem E7 {β:Type} {xs:List β} {mk} {x0} (h:0<xs.length):ixD (.lst (xs.map mk)) (.int (-1))=some (mk (xs.getD (xs.length-1) x0)):=by
 show atI (xs.map mk) (-1)=_;unfold atI;rw[length_map,A9 h,Option.bind_some,getElem?_map,List.getD_eq_getElem?_getD,getElem?_eq_getElem (!1)];rfl
theorem dH {β:Type} {xs:List β} {mk} {x0} (h:i<xs.length) (hz:z=(i:Int)):ixD (.lst (xs.map mk)) (.int z)=some (mk (xs.getD i x0)):=by
 subst hz;refine atI_mapN ?_;grind
theorem Ic (h0:ownL U i=some (.deep,F.map rowD)) (hF:0<F.length) (hl:(la F).length<1000) (hR:R (shv U)=some (iN x)):
  m7 i (ngF (cI 1)) R U=some (.nx (U.set i (dp (.lst ((F.set (F.length-1) (la F++[x])).map rowD))))):=by
 have e1:vi U i=some (F.map rowD):=by
  unfold vi;rw[h0];rfl
 have e3:(F.map rowD)[F.length-1]?=some (rowD (la F)):=by
  rw[getElem?_map,getElem?_eq_getElem (!1)];unfold la;rw[List.getD_eq_getElem?_getD,getElem?_eq_getElem (!1)];rfl
 unfold m7
 rw[e1]
 show(ixN (F.map rowD).length (-1)).bind _=_
 rw[length_map,A9 hF,Option.bind_some,e3,Option.bind_some]
 rw[hR]
 show(if((la F).map λ(k:Nat)=>D.int (k:Int)).length+1<big then _ else _)=_
 rw[if_pos (by rw[length_map];exact N9 (show(la F).length+1<=1000 by omega) (!4)),List.map_set]
 unfold rowD
 grind
theorem eq_bb (a b:Bool):aK false (.bl a) (.bl b)=some (.bl (a==b)):=by cases a<;>cases b<;>rfl
def sGo (f:Fn):Prop:=∀ (s:Int) (b:Bool),f [.int s,.bl b]=dp (.bl (b==decide (s=1)))
theorem M7:sGo (aL 2 2 xC):=λs b=>by
 refine aq rfl ?_;refine q_ret (evX_lf ?_ rfl);show ab (!29) (va 1) (ab (!29) (va 0) (cI 1)) [some (.int s),some (.bl b)]=_;simp only[sB,j3,eq_bb];rfl
def DY (fa f:Fn):Prop:=∀ (ps:NF) (S:NQ) (r:NO) (n:Nat),fa [ah ps]=dp (!31)->r.Perm (!6)->n<=24->f [ah ps,rowD r]=dp (K0 (strt S r))
theorem fM (F:List (NO)):bn [.lst (F.map rowD)]=some (.int (F.length:Int)):=by simp
theorem dq (S:NQ):bn [.lst (S.map D.int)]=some (.int (S.length:Int)):=by simp
theorem Ie (n:Nat):gtD (iN n) (.int 0)=some (.bl (decide (0<n))):=by simp
theorem Ba (a b:Nat):gtD (iN a) (iN b)=some (.bl (decide (b<a))):=by
 show some (D.bl (decide ((a:Int)>(b:Int))))=_;by_cases h:b<a
 ·rw[decide_eq_true h,decide_eq_true (!1)]
 ·rw[decide_eq_false h,decide_eq_false (!1)]
theorem rS (a b:Nat):ltD (iN a) (iN b)=some (.bl (decide (a<b))):=by simp
theorem K1 (hgo:sGo go) (hir:uw ir):DY fa (aL 2 5 (rQ go ir fa)):=λps S r n hf pm hn=>by
 have hs:ax 5 [ah ps,rowD r]=[sn _,sn _,none,none,none]:=rfl;have er:=hir r n pm hn;have hl:r.length=n:=by rw[pm.length_eq,length_range]
 have cnd:∀ (F:List (NO)) (x k:Nat),Gd S k F->mX (av (ab gtD (lnF (va 3)) (cI 0))) (trF (clF go (x2 (ab ixD (va 2) (ab bE (lnF (va 3)) (cI 1))) (ab gtD (va 4) (ab ixD (ab ixD (va 3) (ngF (cI 1))) (ngF (cI 1))))))) [some (ah ps),some (rowD r),some (!31),some (!30),some (iN x)]=some (okG S F x):=λF x k g=>by
  by_cases h:0<F.length
  ·have h1:=g.le;have i1:ixD (!31) (.int ((F.length:Int)-1))=some (.int (S.getD (F.length-1) 0)):=dH (!1) (!1);have i2:ixD (!30) (.int (-1))=some (rowD (la F)):=E7 h;have i3:ixD (rowD (la F)) (.int (-1))=some (iN (lx F)):=E7 (g.ne _ (uD h));simp only[sB,vF,pQ,fM,Ie,i1,i2,i3,Ba,hgo _ _];unfold okG;rw[decide_eq_true h];rfl
  ·have e:okG S F x=false:=by unfold okG;rw[decide_eq_false h];rfl
   simp only[sB,fM,Ie,e,decide_eq_false h];rfl
 have L:=rR (step:=pj (eNm 4) (ae (ifS (mX (av (ab gtD _ (cI 0))) (trF (clF go (x2 (ab ixD (va 2) (ab bE _ (cI 1))) (ab gtD (va 4) (ab ixD (ab ixD (va 3) _) _)))))) (ae (m7 3 _ (va 4)) nxE) (ae (ifS (av (ab ltD _ _)) (ae (gi 3 (evX (lsF (dpF (x1 (va 4)))) (dpF (x1 (va 4))) (fLs (x1 (frX (va 4) noV noV))))) nxE) (rtF (evV cN))) nxE)) nxE))
  (grow S) (λk F U=>Gd S k F/\∃o4,U=[sn (ah ps),sn (rowD r),dp (!31),dp (!30),o4]) r 0 [] [sn _,sn _,dp (.lst _),dp (.lst []),none] ⟨gd0 S,none,rfl⟩ (by
   rintro j x F U hx ⟨g,o4,rfl⟩;have hj:=(N4.mp hx).1;rw[Nat.zero_add]at g⊢;have hc:=cnd F x j g;refine⟨λF' e=>?_,λe=>?_⟩
   ·obtain⟨g',_,_⟩:=qj g e;unfold grow at e;by_cases c:okG S F x=true
    ·rw[if_pos c]at e;cases e;rw[c]at hc;have hp:=kX c;have hm:=g.ll _ (uD hp);refine⟨[sn _,sn _,dp (.lst _),dp (.lst ((F.set _ _).map rowD)),sn (iN x)],?_,g',_,rfl⟩;exact(ak ((om hc).trans ((ak (Ic rfl hp (!1) rfl)).trans rfl))).trans rfl
    ·rw[if_neg c]at e;by_cases l:F.length<S.length
     ·rw[if_pos l]at e;cases e;rw[Bool.eq_false_iff.mpr c]at hc;have gk:=g.lk;refine⟨[sn _,sn _,dp (.lst _),dp (.lst _),sn (iN x)],?_,g',_,rfl⟩;refine(ak ((bW hc).trans ((ak ((om ?_).trans ((ak (appF_deep rfl (evX_lfs rfl rfl rfl rfl) rfl ?_)).trans rfl))).trans rfl))).trans ?_
      ·show av (ab ltD (lnF (va 3)) (lnF (va 2))) [some (ah ps),some (rowD r),some (!31),some (!30),some (iN x)]=_;simp only[sB,fM,dq,rS,decide_eq_true l]
      ·rw[length_map];exact N9 (show F.length+1<=100 by omega) (!4)
      ·rw[List.map_append];rfl
     ·rw[if_neg l]at e;cases e
   ·unfold grow at e;by_cases c:okG S F x=true
    ·rw[if_pos c]at e;cases e
    ·rw[if_neg c]at e;by_cases l:F.length<S.length
     ·rw[if_pos l]at e;cases e
     ·rw[Bool.eq_false_iff.mpr c]at hc;refine aA ((bW hc).trans (aA ((bW ?_).trans rfl)));show av (ab ltD (lnF (va 3)) (lnF (va 2))) [some (ah ps),some (rowD r),some (!31),some (!30),some (iN x)]=_;simp only[sB,fM,dq,rS,decide_eq_false l])
 refine aq rfl ?_;rw[hs];refine q_set (evX_call (d:=.lst (S.map D.int)) (e:=.lst (S.map D.int)) ?_ rfl rfl ?_) (q_if0 ?_ (q_set (evX_lfs (d:=.lst []) (ds:=[]) (by simp) rfl (by simp) rfl) ?_))
 ·simp only[sB,hf]
 ·simp only[sB,hf];rfl
 ·simp only[sB,er];rfl
 ·have hJ:jX noV (va 1) (shv [sn (ah ps),sn (rowD r),dp (!31),dp (.lst []),none])=some (!18):=by
   rfl
  cases e:strt S r with
  |none=>
   refine aA ?_;show frF _ _ _ [sn (ah ps),sn (rowD r),dp (!31),dp (.lst []),none]=_;unfold frF orO gP;rw[hJ];simp only[Option.bind_some,L.2 e];rfl
  |some F=>
   obtain⟨U',e1,_,o4,rfl⟩:=L.1 F e;refine(ak (U':=[sn (ah ps),sn (rowD r),dp (!31),dp (.lst _),o4]) ?_).trans (aA rfl);show frF _ _ _ [sn (ah ps),sn (rowD r),dp (!31),dp (.lst []),none]=_;unfold frF orO gP;rw[hJ];simp only[Option.bind_some,e1]
end K20
namespace K20
open PySem PySem.Spec PyProof.Rows L2
def Bb (fa f:Fn):Prop:=∀ (ps:NF) (S:NQ) (r:NO) (n:Nat),fa [ah ps]=dp (!31)->r.Perm (!6)->n<=24->f [ah ps,rowD r]=dp (.bl (strt S r).isSome)
theorem Ig (o:Option (List (NO))):oY true (K0 o) .non=some (.bl o.isSome):=by cases o<;>rfl
theorem Ih {fa st} (hst:DY fa st):Bb fa (aL 2 2 (xD st)):=λps S r n hf pm hn=>by
 have e:=hst ps S r n hf pm hn;refine aq rfl ?_;refine q_ret (evX_lf ?_ rfl);show ab (oY true) (clF st (x2 (va 0) (va 1))) cN [some (ah ps),some (rowD r)]=_;simp only[sB,Ms,e,Ig]
end K20
namespace K20
open PySem PySem.Spec PyProof.Rows L2
def fN:Cl:=(ae (ifS (av (ab (!29) (va 0) (cI 1))) (rtF (evV (ab ltD (va 1) (va 2)))) nxE) (rtF (evV (ab ltD (va 2) (va 1)))))
def mD (ca:Fn):Cl:=(ae (aw 2 (evX noV noV (dcO 0 true))) (ae (frF (jX noV (slF (va 0) noP (aH (ab aG (lnF (va 1)) (cI 1))))) (eNm 3) (ae (aw 4 (evX noV noV dcN)) (ae (zU 2 (eNm 5) (ae (iG 4 (va 5) (evV (cB true)) (cB true)) (ae (aw 6 (evV (ab aG (va 5) (cI 1)))) (ae (aw 7 (evV (ab ltD (va 5) (lnF (va 1))))) (ae (wlF (trF (va 7)) (ae (iG 4 (va 6) (evV (cB true)) (cB true)) (ae (aw 6 (evV (ab aG (va 6) (cI 1)))) (ae (aw 7 (evV (ke (ab leD (va 6) (lnF (va 1))) (clF ca (x3 (va 3) (ab ixD (va 1) (ab bE (va 6) (cI 2))) (ab ixD (va 1) (ab bE (va 6) (cI 1)))))))) nxE)))) nxE))))) (ae (aw 2 (evM 4 (evV (va 4)))) nxE)))) (rtF (evV (ab inD (lnF (va 1)) (va 2))))))
noncomputable abbrev itD (S:NQ):D:=.lst (S.map D.int)
theorem Ii (h0:A U=some (.lst xs)) (h1:B U=some (iN k)):slF A noP (aH B) U=some (.lst (xs.take k)):=by
 have e:=mj xs id k;rw[List.map_id,List.map_id]at e;unfold slF orO mZ kg;simp[h0,h1,e]
theorem Ij (h0:A U=some (.lst xs)) (h1:B U=some (iN k)):slF A (aH B) noP U=some (.lst (xs.drop k)):=by
 have e:=fI xs id k;rw[List.map_id,List.map_id]at e;unfold slF orO mZ kg;simp[h0,h1,e]
theorem DZ (r:NO):bn [rowD r]=some (.int (r.length:Int)):=by rw[dP,show seqD _=some (!18)from rfl,Option.bind_some,length_map]
theorem fO {α:Type}:∀ {l m:List α},l.Nodup->m.Nodup->(∀a,a∈l↔a∈m)->l.Perm m
 |[],m,_,_,h=>by
  cases m with
  |nil=>exact .refl _
  |cons a m=>exact absurd ((h a).mpr N5) (by simp)
 |a::l,m,hl,hm,h=>by
  obtain⟨s,t,rfl⟩:=List.append_of_mem ((h a).mp N5);obtain⟨h1,h2⟩:=List.nodup_cons.mp hl;have p1:(s++a::t).Perm (a::(s++t)):=List.perm_middle;obtain⟨h3,h4⟩:=List.nodup_cons.mp (p1.nodup_iff.mp hm);refine((fO h2 h4 λb=>?_).cons a).trans p1.symm;constructor
  ·intro hb;rcases mem_cons.mp (p1.mem_iff.mp ((h b).mp (N6 _ hb)))with rfl|hb'
   ·exact absurd hb h1
   ·exact hb'
  ·intro hb;rcases mem_cons.mp ((h b).mpr (p1.mem_iff.mpr (N6 _ hb)))with rfl|hb'
   ·exact absurd hb h3
   ·exact hb'
noncomputable def gs (s:Int) (x y:Nat):Bool:=if s=1 then decide (x<y)else decide (y<x)
def Mn (s:Int) (r:NO) (a b:Nat):Prop:=∀i,a<=i->i+1<b->gs s (r.getD i 0) (r.getD (i+1) 0)=true
def Rc (S:NQ) (r:NO):Nat->Nat->Prop
 |0,b=>b=0
 |j+1,b=>∃e,Rc S r j e/\e<=b/\b<=r.length/\Mn (S.getD j 0) r e b
theorem Mn.sub (h:Mn s r a b) (h1:a<=c) (h2:d<=b):Mn s r c d:=λi hi hj=>h i (!1) (!1)
theorem Bc (h:b<=a+1):Mn s r a b:=λi hi hj=>absurd hj (!1)
theorem E8:∀ {j b:Nat},Rc S r j b->b<=r.length
 |0,b,h=>by cases(h);exact Nat.zero_le _
 |j+1,b,⟨_,_,_,h,_⟩=>h
theorem Bd (h:Rc S r j b) (hk:j<=k):Rc S r k b:=by
 induction k with
 |zero=>rwa [Nat.le_zero.mp hk]at h
 |succ k ih=>
  by_cases c:j=k+1
  ·rwa [c]at h
  ·exact⟨b,ih (!1),Om _,E8 h,Bc (!1)⟩
theorem E9 (h:0<F.length) (hx:x≠lx F):okG S F x=gs (S.getD (F.length-1) 0) (lx F) x:=by grind [lx,okG,gs]
def Gr (S:NQ) (r:NO) (i:Nat) (F:List (NO)):Prop:=i=0/\F=[]\/∃a,0<F.length/\a<i/\lx F=r.getD (i-1) 0/\Mn (S.getD (F.length-1) 0) r a i/\Rc S r (F.length-1) a/\∀e,Rc S r (F.length-1) e->e<=a
theorem Ik (hs:s=S.getD k 0) (hx:r[i]?=some x) (ha:a<i) (hm:∀e,Rc S r k e->e<=a) (hn:gs s (r.getD (i-1) 0) x=false):∀b,Rc S r (k+1) b->b<=i:=λb ⟨e,h1,h2,h3,h4⟩=>by
 rcases Nat.lt_or_ge i b with z|z
 ·have:=h4 (i-1) (by have:=hm e h1;omega) (!1);rw[show i-1+1=i by omega,show r.getD i 0=x by rw[List.getD_eq_getElem?_getD,hx];rfl,<-hs,hn]at this;cases this
 ·exact z
theorem Be (hn:r.Nodup) (h0:0<S.length):∀ (i:Nat),i<=r.length->(∀F,(r.take i).foldlM (grow S) []=some F->Gr S r i F)/\((r.take i).foldlM (grow S) []=none->∀b,Rc S r S.length b->b<r.length)
 |0,_=>⟨λF h=>by cases h;exact .inl ⟨rfl,rfl⟩,λh=>nomatch h⟩
 |i+1,hi=>by
  obtain⟨ih1,ih2⟩:=Be hn h0 i (!1);have hx:r[i]?=some (r[i]'(!1)):=getElem?_eq_getElem (!1);generalize r[i]'(!1)=x at hx;have gx:r.getD i 0=x:=by rw[List.getD_eq_getElem?_getD,hx];rfl
  have e1:r.take (i+1)=r.take i++[x]:=by rw[List.take_succ,hx];rfl
  rw[e1,List.foldlM_append];cases hF:(r.take i).foldlM (grow S) []with
  |none=>exact⟨λF h=>(nomatch h),λ_=>ih2 hF⟩
  |some F=>
   have e2:(some F>>=λz=>[x].foldlM (grow S) z)=grow S F x:=by
    show(grow S F x).bind (λz=>some z)=_;cases grow S F x<;>rfl
   rw[e2];have g1:=ih1 F hF;unfold grow;rcases g1 with⟨rfl,rfl⟩|⟨a,a1,a2,a3,a4,a5,a6⟩
   ·have c:¬okG S [] x=true:=λz=>absurd (kX z) (by simp);rw[if_neg c,if_pos (show([]:List (NO)).length<S.length from h0)];refine⟨λF h=>?_,λh=>nomatch h⟩;cases h;refine .inr ⟨0,Nat.one_pos,Nat.one_pos,?_,Bc (Om _),rfl,λe h=>Nat.le_of_eq h⟩;show x=r.getD 0 0;exact gx.symm
   ·have hne:x≠lx F:=by
     rw[a3,<-gx];intro e;have h1:i<r.length:=by omega
     have h2:i-1<r.length:=by omega
     rw[List.getD_eq_getElem?_getD,List.getD_eq_getElem?_getD,getElem?_eq_getElem h1,getElem?_eq_getElem h2]at e;exact List.pairwise_iff_getElem.mp hn (i-1) i h2 h1 (!1) e.symm
    rw[E9 a1 hne];by_cases c:gs (S.getD (F.length-1) 0) (lx F) x=true
    ·rw[if_pos c];refine⟨λF' h=>?_,λh=>nomatch h⟩;cases h;refine .inr ⟨a,by rw[List.length_set];exact a1,by omega,?_,?_,by rw[List.length_set];exact a5,by rw[List.length_set];exact a6⟩
     ·unfold lx;rw[A8 a1,jt];exact gx.symm
     ·rw[List.length_set];intro j h1 h2;by_cases q:j+1<i
      ·exact a4 j h1 q
      ·have:j=i-1:=by omega
       subst this;rw[show i-1+1=i by omega,gx,<-a3];exact c
    ·rw[if_neg c];have top:=Ik (S:=S) (k:=F.length-1) rfl hx a2 a6 (by rw[<-a3];exact Bool.eq_false_iff.mpr c);rw[show F.length-1+1=F.length by omega]at top;by_cases l:F.length<S.length
     ·rw[if_pos l];refine⟨λF' h=>?_,λh=>nomatch h⟩;cases h;have e3:(F++[[x]]).length-1=F.length:=by rw[length_append];rfl
      refine .inr ⟨i,by rw[length_append];exact Nat.succ_pos _,Nat.lt_succ_self _,?_,Bc (Om _),?_,by rw[e3];exact top⟩
      ·unfold lx;rw[kW];exact gx.symm
      ·rw[e3,show F.length=F.length-1+1 by omega];exact⟨a,a5,by omega,by omega,a4⟩
     ·rw[if_neg l];refine⟨λF' h=>(nomatch h),λ_ b hb=>?_⟩;have:=top b (rc_up' hb (!1));omega
where rc_up' {S:NQ} {r:NO} {j k b:Nat} (h:Rc S r j b) (e:j <= k):Rc S r k b:=Bd h e
theorem D0 (hn:r.Nodup) (h0:0<S.length):(strt S r).isSome=true↔Rc S r (min (r.length+1) S.length) r.length:=by
 obtain⟨h1,h2⟩:=Be hn h0 r.length (Om _);rw[List.take_length]at h1 h2;unfold strt;have up:∀ {j:Nat},j<=r.length->j<=S.length->Rc S r j r.length->Rc S r (min (r.length+1) S.length) r.length:=λa b h=>Bd h (!1);cases e:r.foldlM (grow S) []with
 |none=>
  refine⟨λz=>(nomatch z),λz=>?_⟩;have:=h2 e _ (Bd z (Nat.min_le_right _ _));omega
 |some F=>
  refine⟨λ_=>?_,λ_=>rfl⟩;have g:Gd S r.length F:=by
   have:∀ (i:Nat) (F:List (NO)),i<=r.length->(r.take i).foldlM (grow S) []=some F->Gd S i F:=λi=>by
    induction i with
    |zero=>intro F _ h;cases h;exact gd0 S
    |succ i ih=>
     intro F hi h;have hx:r[i]?=some (r[i]'(!1)):=getElem?_eq_getElem (!1);rw[show r.take (i+1)=r.take i++[r[i]'(!1)]by rw[List.take_succ,hx];rfl,List.foldlM_append]at h;cases hF:(r.take i).foldlM (grow S) []with
     |none=>rw[hF]at h;cases h
     |some F0=>
      rw[hF]at h;refine(qj (ih F0 (!1) hF) (x:=r[i]'(!1)) ?_).1;rw[<-h];show _=(grow S F0 _).bind (λz=>some z);cases grow S F0 _<;>rfl
   exact this r.length F (Om _) (by rw[List.take_length];exact e)
  have gl:=g.le;have gk:=g.lk;rcases h1 F e with⟨z,rfl⟩|⟨a,a1,a2,_,a4,a5,_⟩
  ·exact up (Nat.zero_le _) (Nat.zero_le _) z
  ·refine up gk gl ?_;rw[show F.length=F.length-1+1 by omega];exact⟨a,a5,by omega,Om _,a4⟩
noncomputable def enD (ks:NO):D:=.dct (ks.map λ(k:Nat)=>(Sum.inl (k:Int):Key)) (ks.map λ_=>.bl true)
noncomputable def inK (ks:NO) (k:Nat):NO:=if k∈ks then ks else ks++[k]
theorem vW:b∈inK ks k↔b∈ks\/b=k:=by grind [inK]
theorem Bf (h:ks.Nodup):(inK ks k).Nodup:=by
 unfold inK;split
 ·exact h
 ·rename_i c;exact List.nodup_append.mpr ⟨h,by simp,λa ha b hb e=>by rw[mem_singleton.mp hb]at e;rw[e]at ha;exact c ha⟩
theorem Bg {ks:NO} (h:ks.Nodup) (hk:∀k∈ks,k<=n):ks.length<=n+1:=by
 have p:ks.Perm ((List.range (n+1)).filter λk=>decide (k∈ks)):=fO h (List.Pairwise.filter _ (List.pairwise_lt_range.imp λh=>Ob h)) λa=>by
  rw[List.mem_filter,List.mem_range,decide_eq_true_eq];exact⟨λh=>⟨by have:=hk a h;omega,h⟩,λh=>h.2⟩
 rw[p.length_eq];grind
theorem Bh (ks:NO) (k:Nat):lO (ks.map λ(k:Nat)=>(Sum.inl (k:Int):Key)) (.inl (k:Int))=decide (k∈ks):=by
 unfold lO;grind
theorem Bi (hU:io U i=dp (enD ks)) (hk:k (vw U)=some (iN x)) (hl:ks.length<=100):
  iG i k g (cB true) U=some (.nx (U.set i (dp (enD (inK ks x))))):=by
 refine EO ?_
 unfold qX
 rw[show iB U i=some (ks.map λ(k:Nat)=>(Sum.inl (k:Int):Key),ks.map λ_=>D.bl true)by unfold iB;rw[hU];rfl,hk]
 show(if lfL (ks.map λ_=>D.bl true)=true/\(ks.map λ(k:Nat)=>(Sum.inl (k:Int):Key)).length+1<big then _ else _)=_
 rw[if_pos ⟨bI λd hd=>by obtain⟨p,_,rfl⟩:=List.mem_map.mp hd;rfl,by rw[length_map];exact N9 (show ks.length+1<=101 by omega) (!4)⟩]
 unfold n5 jY enD inK
 rw[Bh]
 by_cases c:x∈ks
 all_goals simp_all
theorem K2 (ks:NO) (n:Nat):inD (iN n) (enD ks)=some (.bl (decide (n∈ks))):=by
 have:=Bh ks n;unfold lO at this;show some (D.bl ((ks.map λ(k:Nat)=>(Sum.inl (k:Int):Key)).any λj=>decide (j=.inl (n:Int))))=_;rw[this]
theorem Il {α:Type} {out:α->Option Out} {P:α->Prop} (I:Nat->Ev->Prop) (hU:io U i=dp (enD ks)) (h0:I 0 (frzS [i] U)) (hs:∀ (j x:Nat) (U:Ev),ks[j]?=some x->I j U->∃U',F (U.set s (sn (iN x)))=some (.nx U')/\I (j+1) U') (k:∀U',I ks.length U'->∃a,G U'=out a/\P a):∃a,ae (zU i (eNm s) F) G U=out a/\P a:=by
 obtain⟨U',e,h⟩:=iH (step:=pj (eNm s) F) (ks.map λ(k:Nat)=>D.int (k:Int)) I _ h0 (λj d U hd hi=>by
  rw[getElem?_map]at hd;cases hx:ks[j]? with
  |none=>rw[hx]at hd;cases hd
  |some x=>
   rw[hx]at hd;cases hd;obtain⟨U',e,h⟩:=hs j x U hx hi;refine⟨U',?_,h⟩;exact e)
 rw[length_map]at h;refine x_st ?_ (k _ h);unfold zU;rw[show iB U i=some (ks.map λ(k:Nat)=>(Sum.inl (k:Int):Key),ks.map λ_=>D.bl true)by unfold iB;rw[hU];rfl,Option.bind_some];rw[show(ks.map λ(k:Nat)=>(Sum.inl (k:Int):Key)).map zT=ks.map λ(k:Nat)=>D.int (k:Int)by rw[List.map_map];rfl];exact e
theorem Bj (I:Nat->Ev->Prop) (Q:Ev->Prop) (hs:∀m U,I m U->(c (vw U)=some false/\Q U)\/(c (vw U)=some true/\0<m/\∃U',F U=some (.nx U')/\I (m-1) U')):∀ (n m:Nat) (U:Ev),m<n->I m U->∃U',whF c F n U=some (.nx U')/\Q U'
 |0,m,U,h,_=>absurd h (Nat.not_lt_zero _)
 |n+1,m,U,h,i=>by
  rcases hs m U i with⟨h1,q⟩|⟨h1,h2,U1,h3,i1⟩
  ·refine⟨U,?_,q⟩;show(c (vw U)).bind _=_;rw[h1];rfl
  ·obtain⟨U',e,q⟩:=Bj I Q hs n (m-1) U1 (!1) i1;refine⟨U',?_,q⟩;show(c (vw U)).bind _=_;rw[h1,Option.bind_some,if_pos rfl,h3];exact e
def sLg (f:Fn):Prop:=∀ (s:Int) (x y:Nat),f [.int s,iN x,iN y]=dp (.bl (gs s x y))
theorem M8:sLg (aL 3 3 fN):=λs x y=>by
 refine aq rfl ?_;unfold fN gs;have st:ax 3 [.int s,iN x,iN y]=[sn _,sn (iN x),sn (iN y)]:=rfl;rw[st];by_cases c:s=1
 ·rw[if_pos c];refine aA ((om ?_).trans (q_ret (evX_lf (rS x y) rfl)));simp only[sB,j3,decide_eq_true c];rfl
 ·rw[if_neg c];refine q_if0 ?_ (q_ret (evX_lf (rS y x) rfl));simp only[sB,j3,decide_eq_false c];rfl
abbrev sC (S:NQ) (r:NO) (o2 o3 o4 o5 o6 o7:NH):Ev:=[sn (itD S),sn (rowD r),o2,o3,o4,o5,o6,o7]
def Im (f:Fn):Prop:=∀ (S:NQ) (r:NO) (n:Nat),0<S.length->r.Perm (!6)->n<=24->f [itD S,rowD r]=dp (.bl (strt S r).isSome)
theorem K3 (hgo:sLg go):Im (aL 2 8 (mD go)):=λS r n h0 pm hn=>by
 have hl:r.length=n:=by rw[pm.length_eq,length_range]
 have nd:=pm.nodup_iff.mpr (List.pairwise_lt_range.imp λh=>Ob h);have nl:bn [rowD r]=some (iN n):=by rw[DZ,hl]
 have hs:ax 8 [itD S,rowD r]=sC S r none none none none none none:=rfl;have key:∃a:Unit,mD go (sC S r none none none none none none)=some (.rt (.deep,.bl (strt S r).isSome))/\True:=by
  refine x_set rfl (x_for (xs:=S.take (n+1)) (mk:=D.int) (λj U=>∃ks o3 o5 o6 o7,ks.Nodup/\(∀b,b∈ks↔Rc S r j b)/\U=sC S r (dp (enD ks)) o3 none o5 o6 o7) ?_ ⟨[0],none,none,none,none,by simp,λb=>by rw[mem_singleton];exact Iff.rfl,rfl⟩ ?_ ?_)
  ·rw[cX,Ii rfl ?_,<-List.map_take]
   ·rfl
   ·show ab aG (lnF (va 1)) (cI 1) [some (itD S),some (rowD r),none,none,none,none,none,none]=_;simp only[sB,nl];rfl
  ·rintro j s U hs ⟨ks,o3,o5,o6,o7,k1,k2,rfl⟩;have es:S.getD j 0=s:=by
    rw[List.getElem?_take]at hs;split at hs
    ·rw[List.getD_eq_getElem?_getD,hs];rfl
    ·cases hs
   refine Ia rfl (x_set rfl ?_);refine Il (λi U=>∃M o5 o6 o7,M.Nodup/\(∀b,b∈M↔∃e,e∈ks.take i/\e<=b/\b<=n/\Mn s r e b)/\U=sC S r (sn _) (sn _) (dp (enD M)) o5 o6 o7) rfl ⟨[],o5,o6,o7,List.nodup_nil,λb=>⟨λh=>(nomatch h),λ⟨e,h,_⟩=>(nomatch h)⟩,rfl⟩ ?_ ?_
   ·rintro i x U hx ⟨M,o5,o6,o7,m1,m2,rfl⟩;have xn:x<=n:=by
     have:=E8 ((k2 x).mp (Ol hx));omega
    have mn:∀b∈M,b<=n:=λb hb=>by obtain⟨e,_,_,h,_⟩:=(m2 b).mp hb;exact h
    have ml:=Bg m1 mn;refine x_st (U':=sC S r (sn _) (sn _) (dp (enD _)) _ o6 o7) (Bi rfl rfl (!1)) (x_set (s:=(.deep,iN (x+1))) (evX_lf ?_ rfl) (x_set (s:=(.deep,.bl (decide (x<n)))) (evX_lf ?_ rfl) ?_))
    ·simp only[sB,sC];rfl
    ·simp only[sB,sC,nl,rS]
    ·obtain⟨U',e,q⟩:=Bj (c:=trF (va 7)) (F:=ae (iG 4 (va 6) (evV _) _) (ae (aw 6 (evV (ab aG (va 6) (cI 1)))) (ae (aw 7 (evV (ke (ab leD (va 6) (lnF (va 1))) (clF go (x3 (va 3) (ab ixD (va 1) (ab bE (va 6) (cI 2))) (ab ixD (va 1) (ab bE (va 6) (cI 1)))))))) nxE)))
      (λm U=>∃at' g M',at'+m=n+1/\x<at'/\(g=true↔at'<=n/\Mn s r x at')/\Mn s r x (at'-1)/\M'.Nodup/\(∀b,b∈M'↔b∈M\/x<=b/\b<at')/\U=sC S r (sn _) (sn (.int s)) (dp (enD M')) _ (dp (iN at')) (dp (.bl g)))
      (λU=>∃M' o6 o7,M'.Nodup/\(∀b,b∈M'↔b∈M\/x<=b/\b<=n/\Mn s r x b)/\U=sC S r (sn _) (sn _) (dp (enD M')) _ o6 o7) (by
      rintro m U ⟨at',g,M',a1,a2,a3,a4,a5,a6,rfl⟩
      cases g with
      |false=>
       refine .inl ⟨rfl,M',_,_,a5,λb=>?_,rfl⟩;rw[a6];refine⟨λh=>h.imp id λh=>⟨h.1,by omega,a4.sub (Om _) (!1)⟩,λh=>h.imp id λh=>⟨h.1,?_⟩⟩;rcases Nat.lt_or_ge b at' with z|z
       ·exact z
       ·exact absurd (a3.mpr ⟨by omega,h.2.2.sub (Om _) z⟩) (!4)
      |true=>
       obtain⟨a7,a8⟩:=a3.mp rfl;have ml':=Bg a5 (λb hb=>by
        rcases(a6 b).mp hb with h|h
        ·exact mn b h
        ·omega)
       have a9:Mn s r x (at'+1)↔gs s (r.getD (at'-1) 0) (r.getD at' 0)=true:=by
        constructor
        ·intro h;have:=h (at'-1) (!1) (!1);rwa [show at'-1+1=at' by omega]at this
        ·intro h i h1 h2;by_cases q:i+1<at'
         ·exact a8 i h1 q
         ·have:i=at'-1:=by omega
          subst this;rw[show at'-1+1=at' by omega];exact h
       refine .inr ⟨rfl,by omega,?_⟩;refine x_st (U':=sC S r (sn _) (sn _) (dp (enD _)) _ (dp _) (dp _)) (Bi rfl rfl (!1)) (x_set (evX_lf ?_ rfl) (x_set (s:=(.deep,.bl (decide (at'+1<=n)&&gs s (r.getD (at'-1) 0) (r.getD at' 0)))) (evX_lf ?_ rfl) (x_end ⟨at'+1,_,inK M' at',by omega,by omega,?_,a8,Bf a5,λb=>?_,rfl⟩)))
       ·simp only[sB,sC];rfl
       ·have le:leD (iN (at'+1)) (iN n)=some (.bl (decide (at'+1<=n))):=by
         rw[Hn];by_cases q:at'+1<=n
         ·rw[decide_eq_true q,decide_eq_true (!1)]
         ·rw[decide_eq_false q,decide_eq_false (!1)]
        simp only[sB,sC,Am,nl,le];by_cases q:at'+1<=n
        ·have i1:ixD (rowD r) (.int (((at'+1:Nat):Int)-2))=some (iN (r.getD (at'-1) 0)):=dH (!1) (!1);have i2:ixD (rowD r) (.int (((at'+1:Nat):Int)-1))=some (iN (r.getD at' 0)):=dH (!1) (!1);simp only[sB,decide_eq_true q,i1,i2,hgo _ _ _,Bool.true_and]
        ·rw[decide_eq_false q];rfl
       ·rw[and_eq_true,decide_eq_true_eq,a9]
       ·rw[vW,a6];constructor
        ·rintro((h|h)|h)
         ·exact .inl h
         ·exact .inr ⟨h.1,by omega⟩
         ·exact .inr ⟨by omega,by omega⟩
        ·rintro(h|h)
         ·exact .inl (.inl h)
         ·by_cases q:b=at'
          ·exact .inr q
          ·exact .inl (.inr ⟨h.1,by omega⟩)) 400 (n-x) (sC S r (sn _) (sn _) (dp (enD _)) _ (dp _) (dp (.bl (decide (x<n))))) (!1) ⟨x+1,_,inK M x,by omega,Nat.lt_succ_self _,by
      rw[decide_eq_true_eq]
      exact⟨λh=>⟨h,Bc (!1)⟩,λh=>h.1⟩,Bc (!1),Bf m1,λb=>by
      rw[vW]
      exact⟨λh=>h.imp id λh=>⟨by omega,by omega⟩,λh=>h.imp id λh=>by omega⟩,rfl⟩
     ·refine x_st e (x_end ?_);obtain⟨M',o6,o7,q1,q2,rfl⟩:=q;refine⟨M',_,o6,o7,q1,λb=>?_,rfl⟩;rw[q2,m2,List.take_add_one,hx];constructor
      ·rintro(⟨e,h1,h2⟩|h)
       ·exact⟨e,mem_append.mpr (.inl h1),h2⟩
       ·exact⟨x,mem_append.mpr (.inr N5),h⟩
      ·rintro⟨e,h1,h2⟩;rcases mem_append.mp h1 with h1|h1
       ·exact .inl ⟨e,h1,h2⟩
       ·cases Oe.mp h1;exact .inr h2
   ·rintro U ⟨M,o5,o6,o7,m1,m2,rfl⟩;refine x_set (s:=(.deep,enD M)) rfl (x_end ⟨M,_,o5,o6,o7,m1,λb=>?_,rfl⟩);rw[m2,List.take_length];show _↔∃e,Rc S r j e/\e<=b/\b<=r.length/\Mn (S.getD j 0) r e b;rw[es,hl];exact exists_congr λe=>and_congr_left λ_=>k2 e
  ·rintro U ⟨ks,o3,o5,o6,o7,k1,k2,rfl⟩;refine⟨(),q_ret (evX_lf ?_ rfl),trivial⟩;simp only[sB,sC,nl,K2];refine congrArg some (congrArg D.bl ?_);have e:=D0 nd h0;have e2:=k2 n;rw[List.length_take]at e2;rw[hl]at e;cases h:(strt S r).isSome with
   |true=>exact decide_eq_true (e2.mpr (e.mp h))
   |false=>exact decide_eq_false λz=>by rw[e.mpr (e2.mp z)]at h;cases h
 obtain⟨_,e,_⟩:=key;exact aq rfl (by rw[hs];exact e)
end K20
namespace K20
open PySem PySem.Spec PyProof.Rows L2
def j7 (fl:Str->Str->Bool) (jx:Fn) (mt_codes:MT) (kk:Nat) (ay aZ:Fn):Cl:=(ae (fB (clF aZ (x2 (va 0) (va 1)))) (ae (ifS (ci (trF (clF ay (x3 (va 2) (cI 0) (ab bE (meF (va 0) af mt_codes kk "codes") (cI 1)))))) (ae noO' nxE) nxE) (ae (aw 3 evE) (ae (aw 4 (evV (meF (va 0) af mt_codes kk "codes"))) (ae (aw 5 (evM 2 (evV (va 2)))) (ae (frF (jX (vtF (x1 (slF (!8) (aH (va 1)) noP))) (biF noD (x1 (slF (!8) (aH (va 1)) noP)))) (eNm 6) (ae (aw 4 (evV (ab eZ (va 4) (lnF (va 6))))) (ae (aw 7 (evV (ab eZ (va 5) (va 4)))) (ae (aw 5 (evC jx (x3 (ab ixD (ab ixD (va 6) (va 7)) (cI 0)) (va 4) (ab bE (va 5) (ab aQ (va 7) (va 4)))))) (ae (pP 3 7 (evV (va 7)) (va 7)) nxE))))) (ae (ifS (av (ab (aK true) (va 5) (ab bE (va 4) (cI 1)))) (rtF (evV cN)) nxE) (rtF (evX (tvF (x1 (va 3))) noV (fNo (x1 (biF noD (x1 (va 3))))))))))))))
def sCM (mt:MT) (k:Nat):Prop:=∀ps:NF,Valid ps->nY mt k "codes" (ah ps) []=some (.deep,.int (prod ps:Nat))
theorem M9 (hfl:fl "Mill" "passes"=true) (hc:gU co) (hv:Valid ps):aL 1 1 (iK fl co) [ah ps]=some (.deep,.int (prod ps:Nat)):=by
 have fm:ki fl "passes" (ah ps)=some (aS ps):=by simp[ki,ah,hfl]
 have hp:co [aS ps]=some (.deep,.int (prod ps:Nat)):=xq hc ps λp hp=>by have:=(hv.p hp).2.1;omega
 refine aq rfl ?_;show iK fl co [some (.sh,ah ps)]=_;refine q_ret (evX_lf ?_ rfl);simp_all
theorem K4 (h:(xs U).bind rvT=some ds):jX (vtF xs) R U=some ds:=by
 unfold jX orO vtF;simp[h]
noncomputable def mE (q:Bool) (a c:Nat):Nat:=if q=true then c else a-1-c
theorem D1 (q:Bool) (h:c<a):mE q a c<a:=by unfold mE;split<;>omega
theorem Bk (q:Bool) {a c:Nat} (h:c<a):lay q (a:Int) (c:Int)=((mE q a c:Nat):Int):=by
 unfold lay mE;split<;>omega
theorem D2 (q:Bool) {a c:Nat} (h:c<a):lay q (a:Int) ((mE q a c:Nat):Int)=(c:Int):=by
 unfold lay mE;split<;>omega
def bk1 (s:Nat×Nat×List Nat) (p:List Pk):Nat×Nat×List Nat:=(s.1/p.length,mE (pkAt (s.2.1/(!26),p)).1 (!26) (s.2.1%(!26)),s.2.2++[s.2.1/(!26)])
def bks (s:Nat×Nat×List Nat) (rs:NF):Nat×Nat×List Nat:=rs.foldl bk1 s
theorem rT (s) (rs:NF) (i:Nat) (p) (h:rs[i]?=some p):bks s (rs.take (i+1))=bk1 (bks s (rs.take i)) p:=by
 unfold bks;rw[List.take_succ,h];simp
theorem ql:∀ {ps:NF},(∀p∈ps,1<=p.length)->1<=prod ps
 |[],_=>Om 1
 |p::r,h=>Nat.mul_le_mul (h p (N5 ..)) (ql λq hq=>h q (N6 _ hq))
theorem D3 (hv:Valid ps) (k:Nat):1<=prod (ps.take k)/\prod (ps.take k)<=1000/\prod ps=prod (ps.take k)*prod (ps.drop k):=by
 have h1:1<=prod (ps.take k):=ql λp hp=>(hv.p (List.mem_of_mem_take hp)).1;have h2:1<=prod (ps.drop k):=ql λp hp=>(hv.p (List.mem_of_mem_drop hp)).1;have h3:prod ps=prod (ps.take k)*prod (ps.drop k):=by rw[<-cJ,List.take_append_drop]
 have h4:=hv.codes;have h5:prod (ps.take k)*1<=prod (ps.take k)*prod (ps.drop k):=Nat.mul_le_mul_left _ h2;grind
theorem uE {ps:NF} (h:(!20).reverse[i]?=some p):i+t<ps.length/\ps[ps.length-1-i]?=some p:=by grind
structure BkOk (ps:NF) (c i:Nat) (s:Nat×Nat×List Nat):Prop where
 a:s.1=prod (ps.take (ps.length-i))
 l:s.2.1<s.1
 n:s.2.2.length=i
 w:∀q∈s.2.2.reverse.zip (ps.drop (ps.length-i)),q.1<q.2.length
 c:j5 ((s.1:Nat),(s.2.1:Nat)) (s.2.2.reverse.zip (ps.drop (ps.length-i)))=(((prod ps:Nat):Int),(c:Int))
theorem vX (hv:Valid ps) (ok:BkOk ps c i s) (hp:(!20).reverse[i]?=some p):
  s.1/p.length=prod (ps.take (ps.length-(i+1)))/\s.1=s.1/p.length*p.length/\0<s.1/p.length/\s.1/p.length<=1000/\s.2.1/(!26)<p.length/\s.2.1%(!26)<s.1/p.length:=by
 obtain⟨hi,hp⟩:=uE hp
 have hq:=hv.p (Ol hp)
 have e1:ps.length-i=(ps.length-1-i)+1:=by omega
 have e2:ps.length-(i+1)=ps.length-1-i:=by omega
 have eP:s.1=prod (ps.take (ps.length-1-i))*p.length:=by rw[ok.a,e1,List.take_succ,hp,Option.toList_some,bi]
 have ht:=D3 hv (ps.length-1-i)
 have eA:s.1/p.length=prod (ps.take (ps.length-1-i)):=by rw[eP];exact Nat.mul_div_cancel _ (!1)
 rw[eA,e2]
 refine⟨rfl,eP,by omega,by omega,?_,Nat.mod_lt _ (!1)⟩
 have:=ok.l
 rw[eP]at this
 exact Nat.div_lt_of_lt_mul this
theorem D4 (hv:Valid ps) (ok:BkOk ps c i s) (hp:(!20).reverse[i]?=some p):BkOk ps c (i+1) (bk1 s p):=by
 obtain⟨h1,h2,h3,h4,h5,h6⟩:=vX hv ok hp;obtain⟨hi,hp'⟩:=uE hp;have e2:ps.length-(i+1)=ps.length-1-i:=by omega
 have e1:ps.length-i=(ps.length-1-i)+1:=by omega
 have ed:ps.drop (ps.length-(i+1))=p::ps.drop (ps.length-i):=by
  rw[e2,e1];have hl:ps.length-1-i<ps.length:=by omega
  rw[List.drop_eq_getElem_cons];rw[getElem?_eq_getElem hl]at hp';cases hp';rfl
 have er:(s.2.2++[s.2.1/(!26)]).reverse=(s.2.1/(!26))::s.2.2.reverse:=by rw[List.reverse_append];rfl
 have ez:(bk1 s p).2.2.reverse.zip (ps.drop (ps.length-(i+1)))=(s.2.1/(!26),p)::s.2.2.reverse.zip (ps.drop (ps.length-i)):=by
  show(s.2.2++[s.2.1/(!26)]).reverse.zip _=_;rw[er,ed,List.zip_cons_cons]
 refine⟨h1,D1 _ h6,?_,?_,?_⟩
 ·show(s.2.2++[s.2.1/(!26)]).length=i+1;rw[length_append,ok.n];rfl
 ·rw[ez];intro q hq;rcases mem_cons.mp hq with rfl|hq
  ·exact h5
  ·exact ok.w q hq
 ·rw[ez,<-ok.c];show j5 (stp (((s.1/p.length:Nat):Int),((mE (pkAt (s.2.1/(!26),p)).1 (!26) (s.2.1%(!26)):Nat):Int)) (s.2.1/(!26),p)) _=_;have es:stp (((s.1/p.length:Nat):Int),((mE (pkAt (s.2.1/(!26),p)).1 (!26) (s.2.1%(!26)):Nat):Int)) (s.2.1/(!26),p)=(((s.1:Nat):Int),((s.2.1:Nat):Int)):=by
   unfold stp;rw[D2 _ h6];refine Prod.ext ?_ ?_
   ·show(((s.1/p.length:Nat):Int))*((p.length:Nat):Int)=_;rw[<-Int.natCast_mul,<-h2]
   ·show(((s.2.1/(!26):Nat):Int))*((s.1/p.length:Nat):Int)+((s.2.1%(!26):Nat):Int)=((s.2.1:Nat):Int);rw[<-Int.natCast_mul,<-Int.natCast_add,Nat.div_add_mod']
  rw[es]
theorem Na (hc:c<prod ps):BkOk ps c 0 (prod ps,c,[]):=by
 refine⟨by rw[Nat.sub_zero,List.take_length],hc,rfl,λq hq=>?_,rfl⟩;simp_all
theorem uF (hv:Valid ps) (hc:c<prod ps) (t:Nat):∀i,i<=ps.length-t->BkOk ps c i (bks (prod ps,c,[]) ((!20).reverse.take i))
 |0,_=>Na hc
 |i+1,h=>by
  have hi:i<(!20).reverse.length:=by rw[List.length_reverse,List.length_drop];omega
  rw[rT _ _ _ _ (getElem?_eq_getElem hi)];exact D4 hv (uF hv hc t i (!1)) (getElem?_eq_getElem hi)
end K20
namespace K20
open PySem PySem.Spec PyProof.Rows L2
abbrev sW (ps:NF) (c:Nat) (ws:NO) (A L:Nat) (o6 o7:NH):Ev:=[sn (ah ps),sn (iN 0),sn (iN c),dp (rowD ws),dp (iN A),dp (iN L),o6,o7]
abbrev FB (la:Fn):Cl:=ae (aw 4 (evV (ab eZ (va 4) (lnF (va 6))))) (ae (aw 7 (evV (ab eZ (va 5) (va 4)))) (ae (aw 5 (evC la (x3 (ab ixD (ab ixD (va 6) (va 7)) (cI 0)) (va 4) (ab bE (va 5) (ab aQ (va 7) (va 4)))))) (ae (pP 3 7 (evV (va 7)) (va 7)) nxE)))
theorem cw_step {la} (hl:oq la) (hv:Valid ps) (ok:BkOk ps c i s) (hp:(ps.drop 0).reverse[i]?=some p) (o6 o7:NH):
  ∃q6 q7,(eNm 6 (tpD p) (sW ps c s.2.2 s.1 s.2.1 o6 o7)).bind (FB la)=some (.nx (sW ps c (bk1 s p).2.2 (bk1 s p).1 (bk1 s p).2.1 q6 q7)):=by
 obtain⟨h1,h2,h3,h4,h5,h6⟩:=vX hv ok hp
 obtain⟨hi,hp'⟩:=uE hp
 have h66:=hv.len
 have hq:=hv.p (Ol hp')
 obtain⟨A,L,ws⟩:=s
 have hn:=ok.n
 have eA:(A:Int)/(p.length:Int)=((A/p.length:Nat):Int):=rfl
 have eK:(L:Int)/((A/p.length:Nat):Int)=((L/(A/p.length):Nat):Int):=rfl
 show∃q6 q7,_=some (Out.nx (sW ps c (ws++[L/(A/p.length)]) (A/p.length) (mE (pkAt (L/(A/p.length),p)).1 (A/p.length) (L%(A/p.length))) q6 q7))
 have eM:(L:Int)-((L/(A/p.length):Nat):Int)*((A/p.length:Nat):Int)=((L%(A/p.length):Nat):Int):=by
  have:=Nat.div_add_mod' L (A/p.length);have e:((L/(A/p.length):Nat):Int)*((A/p.length:Nat):Int)=((L/(A/p.length)*(A/p.length):Nat):Int):=(Int.natCast_mul _ _).symm;rw[e];omega
 generalize hB:A/p.length=B at*
 generalize hk:L/B=k at*
 have e0:∀q:Pk,ixD (pkD q) (.int 0)=some (.str _):=λq=>rD _ _
 have e6:ixD (tpD p) (iN k)=some (pkD _):=EY (q:=(k,p)) h5
 have e7:seqD (tpD p)=some _:=rfl
 have el:=hl (pkAt (k,p)).1 (B:Int) ((L%B:Nat):Int)
 rw[Bk _ h6]at el
 have ec:∀U:Vv,cf U 6=some (tpD p)->cf U 7=some (iN k)->cf U 4=some (iN B)->cf U 5=some (iN L)->x3 (ab ixD (ab ixD (va 6) (va 7)) (cI 0)) (va 4) (ab bE (va 5) (ab aQ (va 7) (va 4))) U=some [.str (kd (pkAt (k,p)).1),.int (B:Int),.int ((L%B:Nat):Int)]:=λU g6 g7 g4 g5=>by
  simp only[bin2_a,consX_a,nilX_a,va_a,cI_a,Option.bind_some,g4,g5,g6,g7,HM (show k<1000000 by omega),subD_ii,eM,e6,e0]
 refine⟨sn (tpD p),dp (iN k),?_⟩
 show ae _ _ (sW ps c ws A L (sn (tpD p)) o7)=_
 refine q_set (evX_lf (d:=iN B) ?_ rfl) ?_
 ·simp only[vw_o,vw_nil,map_some,Option.map_none,bin2_a,biF_a,consX_a,nilX_a,va_a,shAt_s,shAt_0,shAt_1,Option.bind_some,dP,e7,length_map];rw[eN (!1) (!1),eA]
 show ae _ _ (sW ps c ws B L (sn (tpD p)) o7)=_;refine q_set (evX_lf (d:=iN k) ?_ rfl) ?_
 ·simp only[vw_o,vw_nil,map_some,Option.map_none,bin2_a,va_a,shAt_s,shAt_0,shAt_1,Option.bind_some];rw[eN (!1) (!1),eK]
 refine q_set (evX_lf (d:=iN (mE (pkAt (k,p)).1 B (L%B))) ?_ rfl) ?_
 ·rw[clF_a,ec _ rfl rfl rfl rfl,Option.bind_some,el];rfl
 refine q_st (xj rfl (evX_lf rfl rfl) rfl ?_) ?_
 ·rw[length_map,hn];exact N9 (show i+1<=6 by omega) (!4)
 have em:rowD (ws++[k])=.lst ((ws.map λ(k:Nat)=>D.int (k:Int))++[iN k]):=by unfold rowD;rw[List.map_append];rfl
 simp only[sW,em];rfl
theorem cw_loop {la fl} (hf:fl "Mill" "passes"=true) (hl:oq la) (hv:Valid ps) (hc:c<prod ps):
  ∃o6 o7,frF (jX (vtF (x1 (slF (!8) (aH (va 1)) noP))) (biF noD (x1 (slF (!8) (aH (va 1)) noP)))) (eNm 6) (FB la) (sW ps c [] (prod ps) c none none)=some (.nx (sW ps c (!22).2.2 (!22).1 (!22).2.1 o6 o7)):=by
 obtain⟨U',e,o6,o7,rfl⟩:=cW
  (J:=jX (vtF (x1 (slF _ _ noP))) (biF noD (x1 (slF _ _ noP))))
  (ds:=(ps.reverse).map tpD) (U:=sW ps c [] (prod ps) c none none)
  (λi U=>∃o6 o7,U=sW ps c (bks (prod ps,c,[]) (ps.reverse.take i)).2.2 (bks (prod ps,c,[]) (ps.reverse.take i)).1 (bks (prod ps,c,[]) (ps.reverse.take i)).2.1 o6 o7)
  (K4 (by
   have e:slF (!8) (aH (va 1)) noP (shv (sW ps c [] (prod ps) c none none))=some (.tup _):=pX hf (t:=0) rfl rfl;rw[ux,consX_a,e];show some (ps.map tpD).reverse=_;rw[List.map_reverse]))
  ⟨none,none,rfl⟩ (by
   rintro i d U hd ⟨o6,o7,rfl⟩;rw[getElem?_map]at hd;cases hp:ps.reverse[i]? with
   |none=>rw[hp]at hd;cases hd
   |some p=>
    rw[hp]at hd;cases hd;have hi:=(N4.mp hp).1;rw[List.length_reverse]at hi;obtain⟨q6,q7,e⟩:=cw_step hl hv (uF hv hc 0 i (!1)) hp o6 o7;refine⟨_,e,q6,q7,?_⟩;rw[rT _ _ _ _ hp];rfl)
 rw[length_map,List.take_length]at e
 exact⟨o6,o7,e⟩
noncomputable def bt (ps:NF) (c:Nat):NO:=(!22).2.2.reverse
theorem uG (hv:Valid ps) (hc:c<prod ps):BkOk ps c ps.length (!22):=by
 have:=uF hv hc 0 ps.length (Om _);rw[List.take_of_length_le (by rw[List.length_reverse];exact Om _)]at this;exact this
theorem Bl (hv:Valid ps) (hc:c<prod ps):(!22).1=1/\(!22).2.1=0:=by
 have b:=uG hv hc;have h1:=b.a;have h2:=b.l;rw[Nat.sub_self]at h1;have h1:(!22).1=1:=h1;exact⟨h1,by omega⟩
theorem vY (hv:Valid ps) (hc:c<prod ps):WordOk ps 0 (bt ps c):=by
 have b:=uG hv hc;refine⟨?_,λq hq=>?_⟩
 ·unfold bt;rw[List.length_reverse,b.n];rfl
 ·have:=b.w;rw[Nat.sub_self]at this;exact this q hq
theorem oE (hv:Valid ps) (hc:c<prod ps):pZ ps 0 (bt ps c)=(c:Int):=by
 have hcc:=(uG hv hc).c;obtain⟨h1,h2⟩:=Bl hv hc;rw[Nat.sub_self,h1,h2]at hcc;exact congrArg Prod.snd hcc
def sCW (f:Fn):Prop:=∀ (ps:NF) (c:Nat),Valid ps->c<prod ps->f [ah ps,.int 0,iN c]=dp (wD (bt ps c))
theorem D5 {fl la mt kk wi lo} (hf:fl "Mill" "passes"=true) (hl:oq la) (hm:sCM mt kk) (hw:dG wi) (hlo:pY lo):sCW (aL 3 8 (j7 fl la mt kk wi lo)):=λps c hv hc=>by
 obtain⟨o6,o7,e⟩:=cw_loop hf hl hv hc;have em:∀U:Vv,cf U 0=some (ah ps)->meF (va 0) af mt kk "codes" U=some (.int (prod ps:Nat)):=λU h=>by
  show fD (qU (va 0) af mt kk "codes" U)=_;unfold qU;rw[va_a,h,Option.bind_some];show fD (nY mt kk "codes" (ah ps) [])=_;rw[hm ps hv];rfl
 obtain⟨hA,hL⟩:=Bl hv hc;rw[hA,hL]at e;have hW:(!22).2.2.reverse=bt ps c:=rfl;generalize (!22).2.2=ws at e hW;have e2:(decide ((c:Int)<=((prod ps:Nat):Int)-1))=true:=decide_eq_true (!1);refine aq rfl ?_;show j7 fl la mt kk wi lo [sn (ah ps),sn (iN 0),sn (iN c),none,none,none,none,none]=_;refine AM (d:=.non) ?_ (q_if0 ?_ (q_set (evX_lfs rfl rfl rfl rfl) (q_set (evX_lf (em _ rfl) rfl) (q_set (evM_lf rfl rfl rfl) (q_st e (q_if0 rfl (q_ret (evX_lf ?_ (lf_w _)))))))))
 ·simp only[vw_some,vw_none,vw_nil,clF_a,consX_a,nilX_a,va_a,shAt_s,shAt_0,shAt_1,Option.bind_some,hlo ps 0 (Nat.zero_le _),valO_some]
 ·rw[notQ_a,trF_a,clF_a,KP,consX_a,DL,consX_a,ux,consX_a,bin2_a,em _ rfl];simp only[vw_some,vw_none,vw_nil,nilX_a,va_a,shAt_s,shAt_0,shAt_1,cI_a,Option.bind_some,subD_ii,hw (c:Int) 0 (((prod ps:Nat):Int)-1),valO_some,e2];rfl
 ·show some (D.tup (ws.map λ(k:Nat)=>D.int (k:Int)).reverse)=_;rw[<-hW,<-List.map_reverse];rfl
end K20
namespace K20
open PySem PySem.Spec PyProof.Rows L2
def gC:Cl:=(ae (aw 2 evE) (ae (aw 3 (evX (slF (va 0) (aH (cI 1)) noP) (kg (va 0) (aH (cI 1)) noP) noV)) (ae (ifS (mX (av (ab gtD (lnF (va 3)) (cI 0))) (av (ab (!29) (ab bd (ab ixD (va 0) (cI 0)) (cI 2)) (cI 1)))) (ae (frF (jR (x1 (va 1))) (eNm 6) (ae (aw 7 (evV (ab bd (va 6) (lnF (va 3))))) (ae (gi 2 (evV (ab bd (ab ixD (va 3) (va 7)) (cI 1000)))) (ae (iG 3 (va 7) (evV (ab eZ (ab ixD (va 3) (va 7)) (cI 1000))) (ab eZ (ab ixD (va 3) (va 7)) (cI 1000))) nxE)))) (ae (rtN 2) nxE)) nxE) (ae (aw 4 (evX (ab aG (cI 7) (lnF (va 0))) (iw (cI 7) (lnF (va 0))) noV)) (ae (frF (jX noV (va 0)) (eNm 5) (ae (aw 4 (evV (ab bd (ab aG (ab aG (ab aQ (va 4) (va 4)) (ab aQ (va 5) (cI 131))) (cI 17)) (cI 1000000000039)))) nxE)) (ae (frF (jR (x1 (va 1))) (eNm 6) (ae (aw 4 (evV (ab bd (ab aG (ab aG (ab aQ (va 4) (va 4)) (ab aQ (cI 48271) (va 6))) (cI 11)) (cI 1000000000039)))) (ae (gi 2 (evV (ab bd (ab eZ (va 4) (cI 7)) (cI 1000)))) nxE))) (ae (frF (jR (x1 (lnF (va 0)))) (eNm 6) (ae (iG 2 (ab bd (va 6) (va 1)) (evV (ab bd (ab aG (ab aQ (ab ixD (va 2) (ab bd (va 6) (va 1))) (cI 131)) (ab ixD (va 0) (va 6))) (cI 1000))) (ab bd (ab aG (ab aQ (ab ixD (va 2) (ab bd (va 6) (va 1))) (cI 131)) (ab ixD (va 0) (va 6))) (cI 1000))) nxE)) (ae (rtN 2) nxE))))))))
def ng:Cl:=(rtF (evX (tpF (x2 (ab ixD (lsF (dpF (x2 (cS "queue") (cS "pile")))) (ab bd (va 0) (cI 2))) (ab ixD (lsF (dpF (aa (cI 9) (aa (cI 9) (x6 (cI 9) (cI 9) (cI 9) (cI 2) (cI 3) (cI 1)))))) (ab bd (ab eZ (va 0) (cI 2)) (cI 8))))) noV (fTp (x2 (frX (ab ixD (lsF (dpF (x2 (cS "queue") (cS "pile")))) (ab bd (va 0) (cI 2))) noV noV) (frX (ab ixD (lsF (dpF (aa (cI 9) (aa (cI 9) (x6 (cI 9) (cI 9) (cI 9) (cI 2) (cI 3) (cI 1)))))) (ab bd (ab eZ (va 0) (cI 2)) (cI 8))) noV noV)))))
def gD (bH:Fn):Cl:=(ae (aw 1 evE) (ae (aw 2 (evV (cI 1))) (ae (frF (jR (x1 (ab ixD (lsF (dpF (aa (cI 1) (aa (cI 2) (x6 (cI 3) (cI 6) (cI 0) (cI 3) (cI 4) (cI 2)))))) (ab bd (ab ixD (va 0) (cI 0)) (cI 8))))) (eNm 3) (ae (aw 4 (evV (ab ixD (lsF (dpF (aa (cI 1) (aa (cI 2) (x6 (cI 3) (cI 1) (cI 2) (cI 3) (cI 2) (cI 6)))))) (ab bd (ab ixD (va 0) (ab aG (cI 1) (va 3))) (cI 8))))) (ae (ifS (av (ab gtD (ab aQ (va 2) (va 4)) (cI 200))) (ae (aw 4 (evV (cI 1))) nxE) nxE) (ae (aw 2 (evV (ab aQ (va 2) (va 4)))) (ae (gi 1 (evX (biF bK (x1 (lsF (aj [5] (jR (x1 (va 4))) (gNm 5) tQ (clF bH (x1 (ab ixD (va 0) (ab aG (ab aG (cI 7) (ab aQ (cI 6) (va 3))) (va 5))))))))) noV (fNo (x1 (lsF (aj [5] (jR (x1 (va 4))) (gNm 5) tQ (clF bH (x1 (ab ixD (va 0) (ab aG (ab aG (cI 7) (ab aQ (cI 6) (va 3))) (va 5))))))))))) nxE))))) (rtF (evX (biF bK (x1 (va 1))) noV (fNo (x1 (va 1))))))))
theorem mF (h:n<=1000):n<big:=N9 h (!4)
theorem fg (v:Int) (j:Int) (h:0<j):bd (.int v) (.int j)=some (.int (v%j)):=vI h
theorem Io {A B:Fv} (h0:A U=some (.lst xs)) (h1:B U=some (iN k)):kg A (aH B) noP U=some (xs.drop k):=by
 have e:=fI xs id k;rw[List.map_id,List.map_id]at e;unfold kg;simp[h0,h1,e]
theorem Fa {k R:Fv} (hN:iB U i=none) (h:g U=some ((.deep,d),U)) (ho:ownL U i=some (.deep,ds)) (hk:k (vw U)=some (.int z)) (h0:0<=z) (hl:z<ds.length):iG i k g R U=some (.nx (U.set i (dp (.lst (ds.set z.toNat d))))):=by
 unfold iG orO;rw[show qX i k R U=none by unfold qX;rw[hN];rfl];exact rE h ho hk h0 hl
theorem Fb {α:Type} {g:α->Sl} {P:α->Prop} (h:c (vw U)=some true) (k:∃a,F U=some (.rt (g a))/\P a):∃a,ae (ifS c F nxE) G U=some (.rt (g a))/\P a:=k.imp λ_ q=>⟨aA ((om h).trans q.1),q.2⟩
abbrev sG (ns cs ls:NQ) (o4 o5 o6 o7:NH):Ev:=[sn (scD ns),sn (.int 93),dp (scD cs),dp (scD ls),o4,o5,o6,o7]
def Ip (f:Fn):Prop:=∀ns:NQ,ns.length<=63->∃cs:NQ,cs.length=93/\f [scD ns,.int 93]=dp (scD cs)
theorem ap_int (h0:ownL U i=some (.deep,cs.map D.int)) (h:g U=some ((.deep,.int v),U)) (hl:cs.length<93):gi i g U=some (.nx (U.set i (dp (scD (cs++[v]))))):=by
 rw[appF_deep h0 h h0 (by rw[length_map];exact mF (!1))];unfold scD;grind
theorem st_int {k R:Fv} {cs:NQ} (hN:iB U i=none) (h0:ownL U i=some (.deep,cs.map D.int)) (h:g U=some ((.deep,.int v),U)) (hk:k (vw U)=some (iN z)) (hl:z<cs.length):iG i k g R U=some (.nx (U.set i (dp (scD (cs.set z v))))):=by
 rw[Fa hN h h0 hk (!1) (by rw[length_map];omega),Int.toNat_natCast];unfold scD;rw[List.map_set]
theorem K5:Ip (aL 2 8 gC):=λns hn=>by
 have fin:∃cs:NQ,gC [sn (scD ns),sn (.int 93),none,none,none,none,none,none]=some (.rt (.deep,scD cs))/\cs.length=93:=by
  have hr:∀U:Vv,cf U 1=some _->jR (x1 (va 1)) U=some ((List.range 93).map λ(k:Nat)=>D.int (k:Int)):=λU h=>gw (by
   simp only[sB,h];exact bF (!4))
  refine x_set (evX_lfs rfl rfl rfl rfl) (x_set (s:=(.deep,scD (ns.drop 1))) (evX_lfs (d:=scD (ns.drop 1)) ?_ rfl ?_ (Ay _)) ?_)
  ·rw[Ij rfl rfl,<-List.map_drop];rfl
  ·rw[Io rfl rfl,<-List.map_drop]
  have hc:mX (av (ab gtD (lnF (va 3)) (cI 0))) (av (ab (!29) (ab bd (ab ixD (va 0) (cI 0)) (cI 2)) (cI 1))) (vw (sG ns [] (ns.drop 1) none none none none))=some (decide (0<(ns.drop 1).length)&&decide (ns.getD 0 0%2=1)):=by
   have l1:bn [scD (ns.drop 1)]=some (iN (ns.drop 1).length):=dq _;rw[andQ_a,show av (ab gtD (lnF (va 3)) (cI 0)) (vw (sG ns [] (ns.drop 1) none none none none))=some (decide (0<(ns.drop 1).length))by simp only[sB,sG,l1,Ie]];by_cases h:0<(ns.drop 1).length
   ·have i0:ixD (scD ns) (.int 0)=some (.int (ns.getD 0 0)):=dH (by rw[List.length_drop]at h;omega) rfl;rw[decide_eq_true h];simp only[sB,sG,i0,fg _ 2 (!4),j3];cases decide (ns.getD 0 0%2=1)<;>rfl
   ·rw[decide_eq_false h];rfl
  cases hb:(decide (0<(ns.drop 1).length)&&decide (ns.getD 0 0%2=1))with
  |true=>
   rw[hb]at hc;rw[and_eq_true]at hb;have hm:=N7 hb.1;generalize ns.drop 1=ls0 at*;refine Fb hc (x_rng (λi U=>∃ (cs ls:NQ) (o6 o7:NH),cs.length=i/\ls.length=ls0.length/\U=sG ns cs ls none none o6 o7) (hr _ rfl) ⟨[],ls0,none,none,rfl,rfl,rfl⟩ ?_ ?_)
   ·rintro i U hi ⟨cs,ls,o6,o7,hl,hl2,rfl⟩;have hk:i%ls.length<ls.length:=Nat.mod_lt _ (!1);have l1:bn [scD ls]=some _:=dq _;have ix:ixD (scD ls) (iN (i%ls.length))=some (.int (ls.getD _ 0)):=dH hk rfl;refine x_set (evX_lf ?_ rfl) (x_st (ap_int rfl (evX_lf ?_ rfl) (!1)) (x_one (U':=sG ns (cs++[ls.getD (i%ls.length) 0%1000]) (ls.set _ (ls.getD (i%ls.length) 0/1000)) none none _ (dp (iN _))) (st_int rfl rfl (evX_lf ?_ rfl) rfl hk) ⟨_,_,_,_,by rw[length_append,hl];rfl,by rw[List.length_set];exact hl2,rfl⟩))
    ·simp only[sB,sG,l1,fg _ _ (show(0:Int)<(ls.length:Int)by omega)];rfl
    ·simp only[sB,sG,ix,fg _ 1000 (!4)]
    ·simp only[sB,sG,ix,eN (show(0:Int)<1000 by decide) (!4)]
   ·rintro U ⟨cs,ls,o6,o7,hl,_,rfl⟩;exact⟨cs,rfl,hl⟩
  |false=>
   rw[hb]at hc;generalize ns.drop 1=ls0 at*;have l1:bn [scD ns]=some _:=dq _;refine x_if0 hc (x_set (s:=(.deep,.int (7+ns.length))) (evX_lf ?_ rfl) (x_for (λi U=>∃ (v:Int) (o5:NH),0<=v/\v<1000000000039/\U=sG ns [] ls0 (dp (.int v)) o5 none none) rfl ⟨_,none,by omega,by omega,rfl⟩ ?_ ?_))
   ·simp only[sB,sG,l1]
   ·rintro i x U hx ⟨v,o5,h1,h2,rfl⟩;refine x_one (bV (evX_lf (d:=.int ((v*v+x*131+17)%1000000000039)) ?_ rfl)) ⟨_,_,(md _ (!4)).1,(md _ (!4)).2,rfl⟩;simp only[sB,Az h1 h2,eQ (show(-1000000:Int)<131 by decide) (!4),fg _ 1000000000039 (!4)]
   rintro U ⟨v,o5,h1,h2,rfl⟩;refine x_rng (λi U=>∃ (v:Int) (cs:NQ) (o6:NH),0<=v/\v<1000000000039/\cs.length=i/\U=sG ns cs ls0 (dp (.int v)) o5 o6 none) (hr _ rfl) ⟨v,[],none,h1,h2,rfl,rfl⟩ ?_ ?_
   ·rintro i U hi ⟨v,cs,o6,h1,h2,hl,rfl⟩;refine x_set (evX_lf ?_ rfl) (x_one (U':=sG ns (cs++[(v*v+48271*i+11)%1000000000039/7%1000]) ls0 (dp (.int ((v*v+48271*i+11)%1000000000039))) o5 _ none) (ap_int rfl (evX_lf ?_ rfl) (!1)) ⟨_,_,_,(md _ (!4)).1,(md _ (!4)).2,by rw[length_append,hl];rfl,rfl⟩)
    ·simp only[sB,sG,Az h1 h2,eQ (show(-1000000:Int)<i by omega) (!1),fg _ 1000000000039 (!4)]
    ·simp only[sB,sG,eN (show(0:Int)<7 by decide) (!4),fg _ 1000 (!4)]
   rintro U ⟨v,cs,o6,_,_,hl,rfl⟩;refine x_rng (n:=ns.length) (v:=λi=>(i:Int)) (λi U=>∃ (cs:NQ) (o6:NH),cs.length=93/\U=sG ns cs ls0 (dp _) o5 o6 none) (gw ?_) ⟨cs,o6,hl,rfl⟩ ?_ ?_
   ·show(x1 (lnF (va 0)) (shv (sG ns cs ls0 (dp (.int v)) o5 o6 none))).bind lK=_;have l2:lnF (va 0) (shv (sG ns cs ls0 (dp (.int v)) o5 o6 none))=some _:=l1;rw[ux,consX_a,l2];exact bF (!1)
   ·rintro i U hi ⟨cs,o6,hl,rfl⟩;have hk:i%93<cs.length:=by have:=Nat.mod_lt i (show 0<93 by decide);omega
    have ek:bd (iN i) (.int 93)=some (iN (i%93)):=fg _ 93 (!4);have ix:ixD (scD cs) (iN (i%93))=some (.int (cs.getD _ 0)):=dH hk rfl;have iy:ixD (scD ns) (iN i)=some (.int (ns.getD i 0)):=dH hi rfl;refine x_one (U':=sG ns (cs.set _ ((cs.getD (i%93) 0*131+ns.getD i 0)%1000)) ls0 (dp _) o5 _ none) (st_int rfl rfl (evX_lf ?_ rfl) ?_ hk) ⟨_,_,by rw[List.length_set];exact hl,rfl⟩
    ·simp only[sB,sG,ek,ix,iy,eQ (show(-1000000:Int)<131 by decide) (!4),fg _ 1000 (!4)]
    ·exact ek
   ·rintro U ⟨cs,o6,hl,rfl⟩;exact⟨cs,rfl,hl⟩
 obtain⟨cs,e,l⟩:=fin;exact⟨cs,l,aq rfl e⟩
def sPk (f:Fn):Prop:=∀c:Int,∃p:Pk,okK p=true/\(1:Int)<=p.2/\f [.int c]=dp (pkD p)
theorem Nb:sPk (aL 1 1 ng):=λc=>by
 have g2:=md c (show(0:Int)<2 by decide);have g8:=md (c/2) (show(0:Int)<8 by decide);obtain⟨d,⟨q,rfl⟩,eq⟩:=Dx (ds:=[.str "queue",.str "pile"]) (λd=>∃q,d=.str (kd q)) g2.1 g2.2 (by
  intro d hd;simp only[mem_cons,List.not_mem_nil,or_false]at hd;rcases hd with rfl|rfl
  ·exact⟨true,rfl⟩
  ·exact⟨false,rfl⟩)
 obtain⟨d,⟨w,w0,w9,rfl⟩,ew⟩:=Dx (ds:=[.int 9,.int 9,.int 9,.int 9,.int 9,.int 2,.int 3,.int 1]) (λd=>∃w:Int,1<=w/\w<=9/\d=.int w) g8.1 g8.2 (by
  intro d hd;simp only[mem_cons,List.not_mem_nil,or_false]at hd;rcases hd with rfl|rfl|rfl|rfl|rfl|rfl|rfl|rfl;all_goals exact⟨_,by decide,by decide,rfl⟩)
 refine⟨(q,w),by simp[okK,w9];omega,w0,aq rfl ?_⟩;refine q_ret (evX_lf ?_ rfl);show tpF _ [some (.int c)]=_;simp only[sB,uj,fg _ 2 (!4),fg _ 8 (!4),eN (show(0:Int)<2 by decide) (!4),Dn,eq,ew,ER,pkD]
def Iq (f:Fn):Prop:=∀cs:NQ,cs.length=93->∃ps:NF,Valid ps/\Wide ps/\prod ps<=200/\f [scD cs]=dp (aS ps)
abbrev sQ (cs:NQ) (ps:NF) (o3 o4:NH):Ev:=[sn (scD cs),dp (.lst (ps.map tpD)),dp (iN (prod ps)),o3,o4,none]
theorem K6 (hp:sPk po):Iq (aL 1 6 (gD po)):=λcs hl=>by
 have ic:∀i:Nat,i<93->ixD (scD cs) (iN i)=some (.int (cs.getD i 0)):=λi h=>dH (!1) rfl;have i0:ixD (scD cs) (.int 0)=some (.int _):=ic 0 (!4);have h8:(0:Int)<8:=by decide
 obtain⟨d,⟨n,h6,rfl⟩,en⟩:=Dx (ds:=[.int 1,.int 2,.int 3,.int 6,.int 0,.int 3,.int 4,.int 2]) (i:=cs.getD 0 0%8) (λd=>∃n:Nat,n<=6/\d=iN n) (md _ h8).1 (md _ h8).2 (by
  intro d hd;simp only[mem_cons,List.not_mem_nil,or_false]at hd;rcases hd with rfl|rfl|rfl|rfl|rfl|rfl|rfl|rfl
  ·exact⟨1,by decide,rfl⟩
  ·exact⟨2,by decide,rfl⟩
  ·exact⟨3,by decide,rfl⟩
  ·exact⟨6,by decide,rfl⟩
  ·exact⟨0,by decide,rfl⟩
  ·exact⟨3,by decide,rfl⟩
  ·exact⟨4,by decide,rfl⟩
  ·exact⟨2,by decide,rfl⟩)
 have fin:∃ps:NF,gD po [sn (scD cs),none,none,none,none,none]=some (.rt (.deep,aS ps))/\Valid ps/\Wide ps/\prod ps<=200:=by
  refine x_set (evX_lfs rfl rfl rfl rfl) (x_set (evX_lf rfl rfl) (x_rng (n:=n) (v:=λi=>(i:Int)) (λi U=>∃ (ps:List _) (o3 o4:NH),ps.length=i/\(∀p∈ps,okP p=true/\∀k∈p,(1:Int)<=k.2)/\1<=prod ps/\prod ps<=200/\U=sQ cs ps o3 o4) (gw ?_) ⟨[],none,none,rfl,(λ_ h=>nomatch h),by decide,by decide,rfl⟩ ?_ ?_))
  ·show(x1 (ab ixD _ _) [some (scD cs),none,some (iN 1),none,none,none]).bind lK=_;simp only[sB,uj,i0,fg _ 8 h8,Dn,en];exact bF (!1)
  ·rintro i U hi ⟨ps,o3,o4,hln,hok,hp1,hp2,rfl⟩;obtain⟨d,⟨m0,m1,m6,rfl⟩,em⟩:=Dx (ds:=[.int 1,.int 2,.int 3,.int 1,.int 2,.int 3,.int 2,.int 6]) (i:=cs.getD (1+i) 0%8) (λd=>∃n:Nat,1<=n/\n<=6/\d=iN n) (md _ h8).1 (md _ h8).2 (by
    intro d hd;simp only[mem_cons,List.not_mem_nil,or_false]at hd;rcases hd with rfl|rfl|rfl|rfl|rfl|rfl|rfl|rfl
    ·exact⟨1,by decide,by decide,rfl⟩
    ·exact⟨2,by decide,by decide,rfl⟩
    ·exact⟨3,by decide,by decide,rfl⟩
    ·exact⟨1,by decide,by decide,rfl⟩
    ·exact⟨2,by decide,by decide,rfl⟩
    ·exact⟨3,by decide,by decide,rfl⟩
    ·exact⟨2,by decide,by decide,rfl⟩
    ·exact⟨6,by decide,by decide,rfl⟩)
   have i1:ixD (scD cs) (.int (1+(i:Int)))=some (.int _):=ic (1+i) (!1);have mm:∀a:Nat,aQ (iN (prod ps)) (iN a)=some (iN _):=λa=>vP (!1);obtain⟨m,n1,n6,n200,e1⟩:∃m:Nat,1<=m/\m<=6/\prod ps*m<=200/\(if decide (prod ps*m0>200)=true then ae (aw 4 (evV (cI 1))) nxE (sQ cs ps (sn (iN i)) (dp (iN m0)))else nxE (sQ cs ps (sn (iN i)) (dp (iN m0))))=some (.nx (sQ cs ps (sn (iN i)) (dp (iN m)))):=by
    by_cases h:prod ps*m0>200
    ·exact⟨1,by decide,by decide,by omega,by rw[if_pos (decide_eq_true h)];rfl⟩
    ·exact⟨m0,m1,m6,by omega,by rw[if_neg (by simpa using h)];rfl⟩
   obtain⟨p,lp,okp,ep⟩:=Ax (ks:=[5]) (J:=jR (x1 (va 4))) (g:=gNm 5) (ft:=tQ) (fe:=clF po (x1 (ab ixD (va 0) (ab aG (ab aG (cI 7) (ab aQ (cI 6) (va 3))) (va 5)))))
    (U:=vw ([sn (scD cs),dp (.lst _),dp (iN _),sn (iN i),dp (iN m),none])) (out:=pkD) (P:=λk=>okK k=true/\(1:Int)<=k.2) (gw (bF (!1))) (λk hk=>by
     have hk:=Oj.mp hk;have i2:ixD (scD cs) (.int (7+6*(i:Int)+(k:Int)))=some (.int (cs.getD (7+6*i+k) 0)):=dH (!1) (!1);obtain⟨q,h1,h2,e⟩:=hp (cs.getD (7+6*i+k) 0);refine⟨q,⟨h1,h2⟩,?_⟩;simp only[sB,eQ (show(-1000000:Int)<(i:Int)by omega) (!1),i2,e]) (by rw[length_range];exact mF (!1))
   rw[length_range]at lp;have et:biF bK (x1 (lsF (aj [5] (jR (x1 (va 4))) (gNm 5) tQ (clF po (x1 (ab ixD (va 0) (ab aG (ab aG (cI 7) (ab aQ (cI 6) (va 3))) (va 5)))))))) (vw ([sn (scD cs),dp (.lst (ps.map tpD)),dp (iN (prod ps*m)),sn (iN i),dp (iN m),none]))=some (tpD p):=by
    rw[biF_a,ux,consX_a,lsF_a,ep];rfl
   refine x_set (evX_lf ?_ rfl) (x_if ?_ ⟨_,e1,x_set (evX_lf ?_ rfl) (x_one (appF_deep rfl (evX_lf et (lf_tp p)) rfl ?_) ⟨ps++[p],sn (iN i),dp (iN m),by rw[length_append,hln];rfl,λq hq=>?_,?_,?_,?_⟩)⟩)
   ·simp only[sB,sQ,uj,i1,fg _ 8 h8,Dn,em]
   ·simp only[sB,sQ,mm];exact Ba _ 200▸rfl
   ·simp only[sB,sQ,mm]
   ·rw[length_map];exact mF (!1)
   ·rcases mem_append.mp hq with hq|hq
    ·exact hok q hq
    ·cases Oe.mp hq;exact⟨HK (!1) (!1) λk hk=>(okp k hk).1,λk hk=>(okp k hk).2⟩
   ·rw[bi,lp];exact Nat.mul_pos hp1 n1
   ·rw[bi,lp];exact n200
   ·unfold sQ;rw[bi,lp,List.map_append];rfl
  ·rintro U ⟨ps,o3,o4,hln,hok,hp1,hp2,rfl⟩;exact⟨ps,q_ret (evX_lf rfl (um ps)),⟨by omega,λp hp=>(hok p hp).1,by omega⟩,λp hp=>(hok p hp).2,hp2⟩
 obtain⟨ps,e,h1,h2,h3⟩:=fin;exact⟨ps,h1,h2,h3,aq rfl e⟩
end K20
namespace K20
open PySem PySem.Spec PyProof.Rows L2
theorem D6 (h0:ownL U i=some (.deep,ds)) (hk:fk (shv U)=some (.int (k:Int))) (hkl:k<=ds.length) (hd:R (shv U)=some d) (lf:lfD d=true) (hl:ds.length+1<big):
  zR i fk R U=some (.nx (U.set i (some (.deep,.lst (gj k ds d))))):=by
 have e:C3 ds.length (.int (k:Int))=some k:=by
  show(if 0<=(k:Int)/\(k:Int)<=(ds.length:Int)then some (k:Int).toNat else none)=_;rw[if_pos ⟨by omega,by omega⟩,Int.toNat_natCast]
 unfold zR
 simp only[h0,Option.bind_some,hk,e,hd,lfO,lf]
 show(if ds.length+1<big then _ else _)=_
 rw[if_pos hl]
 rfl
theorem D7 (f:α->β) (k:Nat) (l:List α) (x:α):gj k (l.map f) (f x)=(gj k l x).map f:=by simp[gj]
theorem Bm (k:Nat) (l:List α) (x:α):(gj k l x).Perm (l++[x]):=by
 refine List.perm_middle.trans ?_;rw[List.take_append_drop];exact(List.perm_append_singleton x l).symm
theorem D8 (h:ownL U i=some (.deep,ds)):xb i U=some (.nx (U.set i (some (.deep,.lst ds.reverse)))):=by
 unfold xb;rw[h];rfl
theorem rV {α:Type} {p q} (h:∀a,p a=true->q a=false):∀l:List α,(l.filter p++l.filter q).Perm (l.filter λa=>p a||q a)
 |[]=>.refl _
 |a::l=>by
  have ih:=rV h l;rw[List.filter_cons,List.filter_cons,List.filter_cons];cases hp:p a with
  |true=>
   rw[h a hp];exact ih.cons a
  |false=>
   cases hq:q a with
   |true=>exact List.perm_middle.trans (ih.cons a)
   |false=>exact ih
theorem ju {α:Type} (c:α->Nat) (l:List α):∀m:Nat,((List.range m).flatMap λa=>l.filter λk=>decide (c k=a)).Perm (l.filter λk=>decide (c k<m))
 |0=>by
  rw[List.filter_eq_nil_iff.mpr (λk _=>by simp)];exact .refl _
 |m+1=>by
  rw[List.range_succ,List.flatMap_append];refine((ju c l m).append (show(List.flatMap (λa=>l.filter λk=>decide (c k=a)) [m]).Perm (l.filter λk=>decide (c k=m))from by rw[List.flatMap_cons,List.flatMap_nil,List.append_nil])).trans ((rV (λa h=>?_) l).trans ?_)
  ·have:=N7 h;exact decide_eq_false (!1)
  ·refine List.Perm.of_eq (List.filter_congr λk _=>?_);by_cases h:c k<m+1
   ·rw[decide_eq_true h];by_cases g:c k<m
    ·rw[decide_eq_true g];rfl
    ·rw[decide_eq_true (show c k=m by omega),Bool.or_true]
   ·rw[decide_eq_false h,decide_eq_false (show¬c k<m by omega),decide_eq_false (show¬c k=m by omega)];rfl
theorem D9 (l:NO):cg (l.map λ(k:Nat)=>D.int (k:Int))=some (l.map λ(k:Nat)=>(k:Int)):=by
 induction l with
 |nil=>rfl
 |cons k l ih=>
  show(cg (l.map λ(k:Nat)=>D.int (k:Int))).bind _=_;rw[ih];rfl
theorem sort_row (h:l.length<64):∃q:NO,q.Perm l/\cb [rowD l]=some (q.map λ(k:Nat)=>D.int (k:Int)):=by
 obtain⟨q,p,e⟩:=lX (show(pF (l.map λ(k:Nat)=>(k:Int))).Perm (l.map λ(k:Nat)=>(k:Int))from List.mergeSort_perm _ _);refine⟨q,p,kQ ?_⟩;show(cg (l.map λ(k:Nat)=>D.int (k:Int))).bind _=_;rw[D9,Option.bind_some,if_pos (by rw[length_map];exact h),e,List.map_map];rfl
theorem cat_rows (h1:A U=some (rowD a)) (h2:B U=some (rowD b)) (h:a.length+b.length<1000):iw A B U=some ((a++b).map λ(k:Nat)=>D.int (k:Int)):=by
 have e:iw A B U=bC (some ((a.map λ(k:Nat)=>D.int (k:Int))++(b.map λ(k:Nat)=>D.int (k:Int)))):=by unfold iw;rw[h1,h2];rfl
 rw[e,<-List.map_append];exact cY (by rw[length_map,length_append];exact Nat.lt_trans h (!4))
theorem add_rows (h1:A U=some (rowD a)) (h2:B U=some (rowD b)):ab aG A B U=none:=by
 rw[bin2_a,h1,h2];rfl
theorem xF (h:k+1<r.length):(r.take k++[r.getD (k+1) 0,r.getD k 0]++r.drop (k+2)).Perm r:=by
 have h1:k<r.length:=by omega
 have e:r=r.take k++(r.getD k 0::r.getD (k+1) 0::r.drop (k+2)):=by
  have:=List.take_append_drop k r;rw[List.drop_eq_getElem_cons,List.drop_eq_getElem_cons]at this;rw[List.getD_eq_getElem?_getD,List.getD_eq_getElem?_getD,getElem?_eq_getElem h1,getElem?_eq_getElem h];exact this.symm
 grind
theorem Ir (h0:A U=some (rowD r)) (h1:B U=some (.int (k:Int))):slF A noP (aH B) U=some (rowD (r.take k)):=by
 unfold slF orO mZ kg;simp[h0,h1,rowD,mj]
theorem Iu (h0:A U=some (rowD r)) (h1:B U=some (.int (k:Int))):slF A (aH B) noP U=some (rowD (r.drop k)):=by
 unfold slF orO mZ kg;simp[h0,h1,rowD,fI]
end K20
namespace K20
open PySem PySem.Spec PyProof.Rows L2
def j8:Cl:=(ae (aw 2 evE) (ae (frF (jR (x1 (va 1))) (eNm 3) (ae (zR 2 (ab bd (ab ixD (va 0) (ab aG (cI 44) (va 3))) (ab aG (va 3) (cI 1))) (va 3)) nxE)) (ae (rtN 2) nxE)))
def eh (bO:Fn):Cl:=(ae (aw 3 (evX (biF Cq (x2 (cI 1) (biF yS (x2 (va 1) (lnF (va 2)))))) noV (fNo (x2 (cI 1) (biF yS (x2 (va 1) (lnF (va 2)))))))) (ae (aw 4 (evC bO (x2 (va 0) (va 1)))) (ae (aw 5 evE) (ae (frF (jR (x1 (lnF (va 2)))) (eNm 6) (ae (aw 7 (evX (liG (x1 (lsF (aj [8] (jR (x1 (va 1))) (gNm 8) (av (ab (!29) (ab bd (ab ixD (va 0) (ab aG (cI 68) (va 8))) (va 3)) (va 6))) (ab ixD (va 4) (va 8))))) (s1F (x1 (lsF (aj [8] (jR (x1 (va 1))) (gNm 8) (av (ab (!29) (ab bd (ab ixD (va 0) (ab aG (cI 68) (va 8))) (va 3)) (va 6))) (ab ixD (va 4) (va 8))))))) (s1F (x1 (lsF (aj [8] (jR (x1 (va 1))) (gNm 8) (av (ab (!29) (ab bd (ab ixD (va 0) (ab aG (cI 68) (va 8))) (va 3)) (va 6))) (ab ixD (va 4) (va 8)))))) (fNo (x1 (lsF (aj [8] (jR (x1 (va 1))) (gNm 8) (av (ab (!29) (ab bd (ab ixD (va 0) (ab aG (cI 68) (va 8))) (va 3)) (va 6))) (ab ixD (va 4) (va 8)))))))) (ae (ifS (av (ab (!29) (ab ixD (va 2) (va 6)) (ngF (cI 1)))) (ae (xb 7) nxE) nxE) (ae (aw 5 (evX (ab aG (va 5) (va 7)) (iw (va 5) (va 7)) noV)) nxE)))) (ae (rtN 5) nxE)))))
def eX (bA bO:Fn):Cl:=(ae (aw 2 (evV (ab ixD (va 0) (cI 43)))) (ae (aw 3 (evV (ab bd (ab eZ (va 2) (cI 3)) (cI 25)))) (ae (aw 4 (evC bO (x2 (va 0) (va 3)))) (ae (ifS (av (ab gtD (ab bd (va 2) (cI 3)) (cI 0))) (ae (aw 4 (evC bA (x3 (va 0) (va 3) (va 1)))) nxE) nxE) (ae (ifS (mX (av (ab (!29) (ab bd (va 2) (cI 3)) (cI 2))) (av (ab gtD (va 3) (cI 1)))) (ae (aw 5 (evV (ab bd (ab ixD (va 0) (cI 92)) (ab bE (va 3) (cI 1))))) (ae (aw 4 (evX (ab aG (ab aG (slF (va 4) noP (aH (va 5))) (lsF (dpF (x2 (ab ixD (va 4) (ab aG (va 5) (cI 1))) (ab ixD (va 4) (va 5)))))) (slF (va 4) (aH (ab aG (va 5) (cI 2))) noP)) (iw (orO (ab aG (slF (va 4) noP (aH (va 5))) (lsF (dpF (x2 (ab ixD (va 4) (ab aG (va 5) (cI 1))) (ab ixD (va 4) (va 5)))))) (lsF (iw (slF (va 4) noP (aH (va 5))) (lsF (dpF (x2 (ab ixD (va 4) (ab aG (va 5) (cI 1))) (ab ixD (va 4) (va 5)))))))) (slF (va 4) (aH (ab aG (va 5) (cI 2))) noP)) noV)) nxE)) nxE) (ae (rtN 4) nxE))))))
theorem ev_cl (h:xs (vw U)=some ds) (e:f ds=dp d) (nl:lfD d=false):evC f xs U=some ((.deep,d),U):=evX_call (by rw[clF_a,h,Option.bind_some,e];rfl) nl rfl (by rw[fCl_a,h,Option.bind_some,e];rfl)
theorem vZ (hl:cs.length=93) {k:Nat} (h:k<93) (hz:z=(k:Int)):ixD (scD cs) (.int z)=some (.int (cs.getD k 0)):=dH (!1) hz
def wa (f:Fn):Prop:=∀ (cs:NQ) (n:Nat),cs.length=93->n<=24->∃r:NO,r.Perm (!6)/\f [scD cs,iN n]=dp (rowD r)
theorem Iv:wa (aL 2 4 j8):=λcs n hl h24=>by
 have fin:∃r:NO,j8 [sn (scD cs),sn (iN n),none,none]=some (.rt (.deep,rowD r))/\r.Perm (!6):=by
  refine x_set (evX_lfs rfl rfl rfl rfl) (x_rng (λi U=>∃ (r:NO) (o3:NH),r.Perm (List.range i)/\U=[sn _,sn (iN n),dp (rowD r),o3]) (gw (bF (!1))) ⟨[],none,.refl _,rfl⟩ ?_ ?_)
  ·rintro i U hi ⟨r,o3,pr,rfl⟩;have hr:r.length=i:=by rw[pr.length_eq,length_range]
   have m:=md (cs.getD (44+i) 0) (show(0:Int)<(i:Int)+1 by omega);obtain⟨k,hk⟩:∃k:Nat,(k:Int)=cs.getD (44+i) 0%((i:Int)+1):=⟨(cs.getD (44+i) 0%((i:Int)+1)).toNat,by omega⟩;refine x_one (D6 (k:=k) rfl ?_ ?_ rfl rfl ?_) ⟨gj k r i,sn (iN i),?_,?_⟩
   ·show ab bd _ _ [some (scD cs),some (iN n),none,some (iN i)]=_;simp only[sB,vZ hl (!1) (show(44:Int)+(i:Int)=((44+i:Nat):Int)by omega),fg _ _ (show(0:Int)<(i:Int)+1 by omega)];exact congrArg (λz:Int=>some _) hk.symm
   ·rw[length_map];omega
   ·rw[length_map];exact mF (!1)
   ·rw[List.range_succ];exact(Bm k r i).trans (pr.append_right _)
   ·unfold rowD;rw[<-D7];rfl
  ·rintro U ⟨r,o3,pr,rfl⟩;exact⟨r,rfl,pr⟩
 obtain⟨r,e,p⟩:=fin;exact⟨r,p,aq rfl e⟩
abbrev sA (cs:NQ) (n:Nat) (S:NQ) (t:Nat) (r:NO) (o5 o6 o7:NH):Ev:=[sn (scD cs),sn (iN n),sn (itD S),dp (iN t),dp (rowD r),o5,o6,o7,none]
def Bn (f:Fn):Prop:=∀ (cs:NQ) (n:Nat) (S:NQ),cs.length=93->n<=24->0<S.length->S.length<256->∃r:NO,r.Perm (!6)/\f [scD cs,iN n,itD S]=dp (rowD r)
theorem Iw (hli:wa li):Bn (aL 3 9 (eh li)):=λcs n S hl h24 hS0 hS=>by
 obtain⟨r,pr,er⟩:=hli cs n hl h24;have hrl:r.length=n:=by rw[pr.length_eq,length_range]
 obtain⟨t,t1,t2,ht⟩:∃t:Nat,1<=t/\t<=S.length/\(t:Int)=(if(if(S.length:Int)<(n:Int)then(S.length:Int)else(n:Int))>1 then(if(S.length:Int)<(n:Int)then(S.length:Int)else(n:Int))else 1):=by
  by_cases a:(S.length:Int)<(n:Int)
  ·rw[if_pos a];by_cases b:(S.length:Int)>1
   ·rw[if_pos b];exact⟨S.length,by omega,by omega,rfl⟩
   ·rw[if_neg b];exact⟨1,by omega,by omega,rfl⟩
  ·rw[if_neg a];by_cases b:(n:Int)>1
   ·rw[if_pos b];exact⟨n,by omega,by omega,rfl⟩
   ·rw[if_neg b];exact⟨1,by omega,by omega,rfl⟩
 obtain⟨c,hc⟩:∃c:Nat->Nat,∀k,c k<t/\((c k:Nat):Int)=cs.getD (68+k) 0%(t:Int):=⟨λk=>(cs.getD (68+k) 0%(t:Int)).toNat,λk=>by
  have:=md (cs.getD (68+k) 0) (show(0:Int)<(t:Int)by omega);show(cs.getD (68+k) 0%(t:Int)).toNat<t/\(((cs.getD (68+k) 0%(t:Int)).toNat:Nat):Int)=_;omega⟩
 have hr1:∀U:Vv,cf U 1=some (iN n)->jR (x1 (va 1)) U=some ((!6).map λ(k:Nat)=>D.int (k:Int)):=λU h=>gw (by
  simp only[sB,h];exact bF (!1))
 have hpl:∀a:Nat,((!6).filter λk=>decide _).length<=n:=λa=>by
  have:=List.length_filter_le (λk=>decide (c k=a)) (!6);rwa [length_range]at this
 have hpart:∀ (a:Nat) (o5 o7:NH),aj [8] (jR (x1 (va 1))) (gNm 8) (av (ab (!29) (ab bd (ab ixD (va 0) (ab aG (cI 68) (va 8))) (va 3)) (va 6))) (ab ixD (va 4) (va 8)) (vw (sA cs n S t r o5 (sn (iN a)) o7))=some ((((!6).filter λk=>decide _).map λk=>r.getD k 0).map λ(k:Nat)=>D.int (k:Int)):=λa o5 o7=>by
  rw[List.map_map];refine gB (hr1 _ rfl) (λk hk=>?_) (by rw[length_range];exact mF (!1));have hk:=Oj.mp hk;have i2:ixD (rowD r) (iN k)=some (iN (r.getD k 0)):=dH (!1) rfl;simp only[sB,sA,vZ hl (!1) (show(68:Int)+(k:Int)=((68+k:Nat):Int)by omega),fg _ _ (show(0:Int)<(t:Int)by omega),<- (hc k).2,i2,j3];by_cases h:c k=a
  ·rw[decide_eq_true h];simp[h]
  ·rw[decide_eq_false h];have:¬ ((c k:Nat):Int)=(a:Int):=by omega
   simp[this]
 have fin:∃q:NO,eh li [sn (scD cs),sn (iN n),sn (itD S),none,none,none,none,none,none]=some (.rt (.deep,rowD q))/\q.Perm (!6):=by
  refine x_set (evX_lf ?_ rfl) (x_set (ev_cl rfl er rfl) (x_set (evX_lfs rfl rfl rfl rfl)
   (x_rng (n:=S.length) (v:=λi=>(i:Int)) (λa U=>∃ (ln:NO) (o6 o7:NH),ln.Perm (((List.range a).flatMap λb=>(!6).filter λk=>decide (c k=b)).map λk=>r.getD k 0)/\U=sA cs n S t r (dp (rowD ln)) o6 o7) ?_ ⟨[],none,none,.refl _,rfl⟩ ?_ ?_)))
  ·simp only[sB,DL,dq,Ht,Hs];exact congrArg (λz:Int=>some _) ht.symm
  ·refine gw ?_;show(x1 (lnF (va 2)) [some (scD cs),some (iN n),some (itD S),some (iN t),none,none,none,none,none]).bind lK=_;simp only[sB,dq];exact bF (!1)
  ·rintro a U ha ⟨ln,o6,o7,pl,rfl⟩;have hln:ln.length<=24:=by
    rw[pl.length_eq,length_map,(ju c _ a).length_eq];have:=List.length_filter_le (λk=>decide (c k<a)) (!6);rw[length_range]at this;omega
   have hpa:=hpl a;obtain⟨q,pq,eq⟩:=sort_row (l:=((!6).filter λk=>decide (c k=a)).map λk=>r.getD k 0) (by rw[length_map];omega);have hq:q.length<=24:=by rw[pq.length_eq,length_map];omega
   have s1:∀o7:NH,s1F (x1 (lsF (aj [8] (jR (x1 (va 1))) (gNm 8) (av (ab (!29) (ab bd (ab ixD (va 0) (ab aG (cI 68) (va 8))) (va 3)) (va 6))) (ab ixD (va 4) (va 8))))) (vw (sA cs n S t r (dp (rowD ln)) (sn (iN a)) o7))=some (q.map λ(k:Nat)=>D.int (k:Int)):=λo7=>by
    show(x1 _ _).bind cb=_;rw[ux,consX_a,lsF_a,hpart];exact eq
   have iS:ixD (itD S) (iN a)=some (.int (S.getD a 0)):=dH ha rfl;obtain⟨q2,pq2,e2⟩:∃q2:NO,q2.Perm q/\(if decide (S.getD a 0= -1)=true then ae (xb 7) nxE (sA cs n S t r (dp (rowD ln)) (sn (iN a)) (dp (rowD q)))else nxE (sA cs n S t r (dp (rowD ln)) (sn (iN a)) (dp (rowD q))))=some (.nx (sA cs n S t r (dp (rowD ln)) (sn (iN a)) (dp (rowD q2)))):=by
    cases decide (S.getD a 0= -1)with
    |true=>
     refine⟨q.reverse,List.reverse_perm _,?_⟩;refine(ak (D8 rfl)).trans ?_;unfold sA rowD;rw[List.map_reverse];rfl
    |false=>exact⟨q,.refl _,by rw[if_neg (!4)];rfl⟩
   have hq2:q2.length<=24:=by rw[pq2.length_eq];exact hq
   refine x_set (U':=sA cs n S t r (dp _) _ o7) (evX_lfs (vR (s1 _)) rfl (s1 _) (lf_row q)) (x_if ?_ ⟨_,e2,x_set (evX_cat (add_rows rfl rfl) (cat_rows rfl rfl (!1)) (lf_row _)) (x_end ⟨ln++q2,_,_,?_,rfl⟩)⟩)
   ·simp only[sB,vF,pQ,iS,j3];rfl
   ·rw[List.range_succ,List.flatMap_append,List.map_append];refine pl.append (pq2.trans (pq.trans ?_));rw[List.flatMap_cons,List.flatMap_nil,List.append_nil]
  ·rintro U ⟨ln,o6,o7,pl,rfl⟩;refine⟨ln,rfl,?_⟩;refine pl.trans (((ju c _ S.length).map _).trans ?_);rw[List.filter_eq_self.mpr (λk _=>decide_eq_true (by have:=(hc k).1;omega)),<-hrl,bT];rw[<-hrl]at pr;exact pr
 obtain⟨q,e,p⟩:=fin;exact⟨q,p,aq rfl e⟩
abbrev sY (cs S:NQ) (n:Nat) (r:NO) (o5:NH):Ev:=[sn (scD cs),sn (itD S),dp (.int (cs.getD 43 0)),dp (iN n),dp (rowD r),o5]
def Ix (f:Fn):Prop:=∀cs S:NQ,cs.length=93->0<S.length->S.length<256->∃ (r:NO) (n:Nat),n<=24/\r.Perm (!6)/\f [scD cs,itD S]=dp (rowD r)
theorem K7 (hne:Bn ne) (hli:wa li):Ix (aL 2 6 (eX ne li)):=λcs S hl hS0 hS=>by
 have ih:ixD (scD cs) (.int 43)=some (.int _):=vZ hl (!4) rfl;obtain⟨n,hnn⟩:∃n:Nat,(n:Int)=cs.getD 43 0/3%25:=⟨(cs.getD 43 0/3%25).toNat,by omega⟩;have h24:n<=24:=by omega
 obtain⟨r0,p0,e2⟩:=hli cs n hl h24;obtain⟨r1,p1,e3⟩:=hne cs n S hl h24 hS0 hS;have fin:∃r:NO,eX ne li [sn (scD cs),sn (itD S),none,none,none,none]=some (.rt (.deep,rowD r))/\r.Perm (!6):=by
  obtain⟨r2,p2,e4⟩:∃r2:NO,r2.Perm (!6)/\(if decide (cs.getD 43 0%3>0)=true then ae (aw 4 (evC ne (x3 (va 0) (va 3) (va 1)))) nxE (sY cs S n r0 none)else nxE (sY cs S n r0 none))=some (.nx (sY cs S n r2 none)):=by
   cases decide (cs.getD 43 0%3>0)with
   |true=>
    refine⟨r1,p1,?_⟩;exact q_set (ev_cl rfl e3 rfl) rfl
   |false=>exact⟨r0,p0,by rw[if_neg (!4)];rfl⟩
  have hl2:r2.length=n:=by rw[p2.length_eq,length_range]
  refine x_set (evX_lf ?_ rfl) (x_set (evX_lf ?_ rfl) (x_set (ev_cl rfl e2 rfl) (x_if ?_ ⟨_,e4,?_⟩)))
  ·simp only[sB,ih]
  ·simp only[sB,eN (show(0:Int)<3 by decide) (!4),fg _ 25 (!4)];exact congrArg (λz:Int=>some _) hnn.symm
  ·simp only[sB,fg _ 3 (!4)];rfl
  ·have hc2:mX (av (ab (!29) (ab bd (va 2) (cI 3)) (cI 2))) (av (ab gtD (va 3) (cI 1))) (vw (sY cs S n r2 none))=some (decide (cs.getD 43 0%3=2)&&decide (1<n)):=by
    have g1:gtD (iN n) (.int 1)=some (.bl _):=Ba n 1;simp only[sB,sY,andQ_a,fg _ 3 (!4),j3,g1];cases decide (cs.getD 43 0%3=2)<;>rfl
   cases hb:(decide (cs.getD 43 0%3=2)&&decide (1<n))with
   |false=>
    rw[hb]at hc2;exact x_if0 hc2 ⟨r2,rfl,p2⟩
   |true=>
    rw[hb]at hc2;rw[and_eq_true]at hb;have hn1:=N7 hb.2;have m2:=md (cs.getD 92 0) (show(0:Int)<(n:Int)-1 by omega);obtain⟨k,hk⟩:∃k:Nat,(k:Int)=cs.getD 92 0%((n:Int)-1):=⟨(cs.getD 92 0%((n:Int)-1)).toNat,by omega⟩;have hkl:k+1<r2.length:=by omega
    have i1:ixD (rowD r2) (.int ((k:Int)+1))=some (iN (r2.getD (k+1) 0)):=dH hkl (!1);have i0:ixD (rowD r2) (iN k)=some (iN (r2.getD k 0)):=dH (!1) rfl;have i9:ixD (scD cs) (.int 92)=some (.int _):=vZ hl (!4) rfl;have a0:va 4 (vw (sY cs S n r2 (dp (iN k))))=some _:=rfl;have s1:=Ir (B:=va 5) a0 rfl;have s2:=Iu (B:=ab aG (va 5) (cI 2)) (k:=k+2) a0 (by simp only[sB,sY];exact congrArg (λz:Int=>some _) (!1));have s3:lsF (dpF (x2 (ab ixD (va 4) (ab aG (va 5) (cI 1))) (ab ixD (va 4) (va 5)))) (vw (sY cs S n r2 (dp (iN k))))=some (rowD [r2.getD (k+1) 0,r2.getD k 0]):=by
     simp only[sB,sY,lsF_a,dpF_a,DL,i1,i0,capL_2];rfl
    have s4:=cat_rows s1 s3 (by rw[List.length_take];show min k r2.length+2<1000;omega);have s5:=add_rows s1 s3;have s6:orO (ab aG (slF (va 4) noP (aH (va 5))) (lsF (dpF (x2 (ab ixD (va 4) (ab aG (va 5) (cI 1))) (ab ixD (va 4) (va 5)))))) (lsF (iw (slF (va 4) noP (aH (va 5))) (lsF (dpF (x2 (ab ixD (va 4) (ab aG (va 5) (cI 1))) (ab ixD (va 4) (va 5))))))) (vw (sY cs S n r2 (dp (iN k))))=some (rowD (r2.take k++[r2.getD (k+1) 0,r2.getD k 0])):=by
     unfold orO;rw[s5];rw[lsF_a,s4];rfl
    have s7:=cat_rows s6 s2 (by rw[length_append,List.length_take,List.length_drop];show min k r2.length+2+_<1000;omega);refine x_if hc2 ⟨_,q_set (evX_lf ?_ rfl) (q_set (evX_cat ?_ s7 (lf_row _)) rfl),⟨_,rfl,(xF hkl).trans p2⟩⟩
    ·simp only[sB,sY,i9,subD_ii,fg _ _ (show(0:Int)<(n:Int)-1 by omega)];exact congrArg (λz:Int=>some _) hk.symm
    ·show ab aG _ _ (vw (sY cs S n r2 (dp (iN k))))=_;rw[bin2_a,s5];rfl
 obtain⟨r,e,p⟩:=fin;exact⟨r,n,h24,p,aq rfl e⟩
end K20
namespace K42
open PySem PySem.Spec PyProof.Rows L2
section
variable {ps:NF} {ls:List Lt}
theorem oF (hv:Valid ps) (h:∀l∈ls,LtOk ps l) (h0:∀l∈ls,l.t=0) (ha:ls[a]?=some la) (hb:ls[b]?=some lb):∀i,i<=ps.length->cd ps ls i a=cd ps ls i b->gm ps la i=gm ps lb i
 |0,_,_=>by
  have e:∀l:Lt,my ps l 0=[]:=λl=>by unfold my;rw[Nat.zero_sub];rfl
  unfold gm;rw[e,e]
 |i+1,hi,e=>by
  have ma:=Ol ha;have mb:=Ol hb;have ta:la.t<=i:=by rw[h0 _ ma];exact Nat.zero_le _
  have tb:lb.t<=i:=by rw[h0 _ mb];exact Nat.zero_le _
  have hi':i<ps.length:=by omega
  obtain⟨a1,a2,a3⟩:=cC hv h ha ta hi';obtain⟨b1,b2,b3⟩:=cC hv h hb tb hi';obtain⟨a4,a5⟩:=rL hv h ha ta (show i<=ps.length by omega);obtain⟨b4,b5⟩:=rL hv h hb tb (show i<=ps.length by omega);have lay_b:∀ (q:Bool) (A c:Int),0<=c->c<A->0<=lay q A c/\lay q A c<A:=λq A c h1 h2=>by unfold lay;split<;>omega
  obtain⟨x1,x2⟩:=lay_b (pkAt (pkOf ls i a,ps[i])).1 _ _ a4 a5;obtain⟨y1,y2⟩:=lay_b (pkAt (pkOf ls i b,ps[i])).1 _ _ b4 b5;have hp:=kT hv i;have ej:pkOf ls i a=pkOf ls i b:=by
   rw[a1,b1]at e;generalize lay (pkAt (pkOf ls i a,ps[i])).1 (ahd ps i) (cd ps ls i a)=u at*;generalize lay (pkAt (pkOf ls i b,ps[i])).1 (ahd ps i) (cd ps ls i b)=v at*;have h1:((pkOf ls i a:Int)*ahd ps i+u)/ahd ps i=(pkOf ls i a:Int):=by
    rw[Int.add_comm,Int.add_mul_ediv_right _ _ (!1),Int.ediv_eq_zero_of_lt x1 x2];omega
   have h2:((pkOf ls i b:Int)*ahd ps i+v)/ahd ps i=(pkOf ls i b:Int):=by
    rw[Int.add_comm,Int.add_mul_ediv_right _ _ (!1),Int.ediv_eq_zero_of_lt y1 y2];omega
   rw[e,h2]at h1;omega
  have ec:cd ps ls i a=cd ps ls i b:=by
   rw[a1,b1,ej]at e;have e2:lay (pkAt (pkOf ls i b,ps[i])).1 (ahd ps i) (cd ps ls i a)=lay (pkAt (pkOf ls i b,ps[i])).1 (ahd ps i) (cd ps ls i b):=by omega
   unfold lay at e2;split at e2<;>omega
  have ih:=oF hv h h0 ha hb i (!1) ec;obtain⟨ja,u1,u2,_⟩:=kS (h la ma) ta hi';obtain⟨jb,v1,v2,_⟩:=kS (h lb mb) tb hi';have ea:pkOf ls i a=ja:=by unfold pkOf;rw[ha,Option.bind_some,u1];rfl
  have eb:pkOf ls i b=jb:=by unfold pkOf;rw[hb,Option.bind_some,v1];rfl
  rw[qd ta u2,qd tb v2,ih,<-ea,<-eb,ej]
end
end K42
namespace K20
open PySem PySem.Spec PyProof.Rows L2 K42
theorem wb:∀ (rs:NF) (w:NO) (n:Nat) (c s:Int),w.length=rs.length->(pl n rs w (c,s)).1=(j5 ((n:Int),c) (w.zip rs)).2/\(pl n rs w (c,s)).2=s*(1-2*((mo (w.zip rs):Int)%2))
 |[],[],_,c,s,_=>⟨rfl,by show s=s*(1-2*((0:Int)%2));omega⟩
 |[],_::_,_,_,_,h=>by cases h
 |_::_,[],_,_,_,h=>by cases h
 |p::rs,k::w,n,c,s,h=>by
  have e:pkg p k=pkAt (k,p):=by unfold pkg pkAt;rw[List.getD_eq_getElem?_getD]
  obtain⟨h1,h2⟩:=wb rs w (n*p.length) ((k:Int)*(n:Int)+(if(pkAt (k,p)).1 then c else(n:Int)-1-c)) (if(pkAt (k,p)).1 then s else -s) (Nat.succ.inj h);show(pl (n*p.length) rs w (br n k (pkg p k) (c,s))).1=_/\(pl (n*p.length) rs w (br n k (pkg p k) (c,s))).2=_;rw[e];refine⟨?_,?_⟩
  ·refine h1.trans ?_;show _=(j5 (stp ((n:Int),c) (k,p)) (w.zip rs)).2;unfold stp lay;rw[Int.natCast_mul]
  ·refine h2.trans ?_;show _=s*(1-2*(((mo ((k,p)::w.zip rs):Nat):Int)%2));unfold mo;rw[List.filter_cons];cases(pkAt (k,p)).1 with
   |true=>rfl
   |false=>
    simp only[Bool.not_false,if_true,length_cons,Bool.false_eq_true,if_false];generalize ((w.zip rs).filter λq=>!(pkAt q).1).length=x;rcases Nat.mod_two_eq_zero_or_one x with hx|hx
    ·rw[show((x:Nat):Int)%2=0 by omega,show(((x+1:Nat)):Int)%2=1 by omega];omega
    ·rw[show((x:Nat):Int)%2=1 by omega,show(((x+1:Nat)):Int)%2=0 by omega];omega
theorem K8 (h:w.length=ps.length):p1 ps w=(pZ ps 0 w,p8 ps 0 w):=by
 obtain⟨h1,h2⟩:=wb ps w 1 0 1 h;rw[Int.one_mul]at h2;exact Prod.ext h1 h2
theorem Ea (hv:Valid ps) (hw:Wide ps) (hj:j<prod ps) (h:((j:Int),s)∈tol ps):p8 ps 0 (bt ps j)=s:=by
 obtain⟨m,hm,e⟩:=Oc.mp h;have hmem:dg ps m∈wds ps:=by rw[uy ps (iP hv)];exact Oc.mpr ⟨m,hm,rfl⟩
 obtain⟨l1,l2⟩:=eS ps _ hmem;rw[K8 l1]at e;have ec:=congrArg Prod.fst e;have ef:=congrArg Prod.snd e;have o1:One ps ⟨1,0,dg ps m⟩:=⟨rfl,rfl,⟨l1,l2⟩⟩;have o2:One ps ⟨1,0,bt ps j⟩:=⟨rfl,rfl,vY hv hj⟩;have ok:∀l∈([⟨1,0,dg ps m⟩,⟨1,0,bt ps j⟩]:List Lt),LtOk ps l/\l.t=0:=λl hl=>by
  rcases mem_cons.mp hl with rfl|hl
  ·exact⟨o1.ok hw,rfl⟩
  ·cases Oe.mp hl;exact⟨o2.ok hw,rfl⟩
 have q:=oF hv (λl hl=>(ok l hl).1) (λl hl=>(ok l hl).2) (a:=0) (b:=1) rfl rfl ps.length (Om _) (by
  show(stAt ps ⟨1,0,dg ps m⟩ ps.length).2=(stAt ps ⟨1,0,bt ps j⟩ ps.length).2;rw[(ends hv (o1.ok hw)).1,(ends hv (o2.ok hw)).1,oE hv hj];exact ec)
 rw[(ends hv (o1.ok hw)).2,(ends hv (o2.ok hw)).2]at q;rw[<-q];exact ef
theorem K9 (h:gs s a b=true) (k:gs s b c=true):gs s a c=true:=by grind [gs]
def Ok (S:NQ) (F:List (NO)):Prop:=∀j p,F[j]?=some p->p≠[]/\p.Pairwise λx y=>gs (S.getD j 0) x y=true
theorem wc {α:Type} {l:List α} (h:l≠[]):∃m a,l=m++[a]:=⟨l.dropLast,l.getLast h,(List.dropLast_concat_getLast h).symm⟩
theorem Eb (ok:Ok S F) (hx:x ∉ F.flatten) (h:grow S F x=some F'):Ok S F'/\F'.flatten=F.flatten++[x]:=by
 unfold grow at h;by_cases c:okG S F x=true
 ·rw[if_pos c]at h;cases h;have hp:=kX c;obtain⟨G,q,rfl⟩:=wc (l:=F) (by rintro rfl;cases hp);obtain⟨k1,k2⟩:=ok G.length q (by simp);obtain⟨u,z,rfl⟩:=wc k1;have el:(G++[u++[z]]).length-1=G.length:=by simp
  have ez:lx (G++[u++[z]])=z:=by unfold lx;rw[kW];exact jt u z
  have hz:x≠z:=λe=>hx (by rw[e];simp);have gz:=E9 (S:=S) hp (by rw[ez];exact hz);rw[c,ez,el]at gz;rw[kW,el];have es:(G++[u++[z]]).set G.length (u++[z]++[x])=G++[u++[z]++[x]]:=by rw[List.set_append_right _ _ (le_refl _),Nat.sub_self];rfl
  rw[es];refine⟨λj p hj=>?_,by simp⟩;by_cases hjl:j<G.length
  ·exact ok j p (by rw[getElem?_append_left hjl]at hj⊢;exact hj)
  ·have hj':=(N4.mp hj).1;rw[length_append]at hj';have:j=G.length:=by
    have:([u++[z]++[x]]:List (NO)).length=1:=rfl;omega
   subst this;have ep:p=u++[z]++[x]:=by simpa using hj.symm
   subst ep;refine⟨by simp,List.pairwise_append.mpr ⟨k2,List.pairwise_singleton _ _,λa ha b hb=>?_⟩⟩;cases Oe.mp hb;rcases mem_append.mp ha with ha|ha
   ·exact K9 ((List.pairwise_append.mp k2).2.2 a ha z N5) gz.symm
   ·cases Oe.mp ha;exact gz.symm
 ·rw[if_neg c]at h;by_cases d:F.length<S.length
  ·rw[if_pos d]at h;cases h;refine⟨λj p hj=>?_,by simp⟩;by_cases hjl:j<F.length
   ·exact ok j p (by rw[getElem?_append_left hjl]at hj;exact hj)
   ·rw[getElem?_append_right (!1)]at hj;have:p=[x]:=Oe.mp (Ol hj);subst this;exact⟨by simp,List.pairwise_singleton _ _⟩
  ·rw[if_neg d]at h;cases h
theorem wd:∀ {xs:NO} {F F':List (NO)},Ok S F->(F.flatten++xs).Nodup->xs.foldlM (grow S) F=some F'->Ok S F'/\F'.flatten=F.flatten++xs
 |[],F,F',ok,_,h=>by cases h;exact⟨ok,(List.append_nil _).symm⟩
 |x::xs,F,F',ok,nd,h=>by
  rw[List.foldlM_cons]at h;obtain⟨F1,h1,h2⟩:=Op (show(grow S F x).bind _=some F' from h);obtain⟨o1,e1⟩:=Eb ok (λhx=>(List.nodup_append.mp nd).2.2 x hx x N5 rfl) h1;have ea:F1.flatten++xs=F.flatten++x::xs:=by rw[e1,List.append_assoc];rfl
  obtain⟨o2,e2⟩:=wd o1 (by rw[ea];exact nd) h2;exact⟨o2,e2.trans ea⟩
theorem Ec (nd:r.Nodup) (h:strt S r=some F):Ok S F/\F.flatten=r:=wd (F:=[]) (λj p hj=>by simp at hj) nd h
theorem we:∀ {xs:NO} {k:Nat} {F0 F:List (NO)},Gd S k F0->xs.foldlM (grow S) F0=some F->Gd S (k+xs.length) F
 |[],k,F0,F,g,h=>by cases h;exact g
 |x::xs,k,F0,F,g,h=>by
  rw[List.foldlM_cons]at h;obtain⟨F1,h1,h2⟩:=Op (show(grow S F0 x).bind _=some F from h);have:=we (qj g h1).1 h2;rwa [show k+1+xs.length=k+(x::xs).length by rw[length_cons];omega]at this
theorem Bo:∀ {F:List (NO)},F.flatten.Nodup->∀ {i j k:Nat} {p q:NO},F[i]?=some p->F[j]?=some q->k∈p->k∈q->i=j
 |[],_,i,_,_,_,_,hp,_,_,_=>by simp at hp
 |a::F,nd,i,j,k,p,q,hp,hq,kp,kq=>by
  rw[List.flatten_cons]at nd;obtain⟨_,n2,n3⟩:=List.nodup_append.mp nd;cases i with
  |zero=>
   cases j with
   |zero=>rfl
   |succ j=>
    have hp:a=p:=Option.some.inj hp;subst hp;exact absurd rfl (n3 k kp k (List.mem_flatten.mpr ⟨q,Ol hq,kq⟩))
  |succ i=>
   cases j with
   |zero=>
    have hq:a=q:=Option.some.inj hq;subst hq;exact absurd rfl (n3 k kq k (List.mem_flatten.mpr ⟨p,Ol hp,kp⟩))
   |succ j=>rw[Bo (F:=F) n2 (i:=i) (j:=j) hp hq kp kq]
noncomputable abbrev lsOf (n:Nat) (wf:Nat->NO):List Lt:=(!6).map λk=>⟨1,0,wf k⟩
theorem Iy (hv:Valid ps) (hw:Wide ps) (hS:S.length=prod ps) (hSt:∀i,i<prod ps->((i:Int),S.getD i 0)∈tol ps) (hpm:∀i,i<S.length->S.getD i 0=1\/S.getD i 0= -1) (pr:r.Perm (!6)) (ok:Ok S F) (ef:F.flatten=r) (hF:F.length<=S.length) (hwf:∀j p,F[j]?=some p->∀k∈p,wf k=bt ps j):
  (∀l∈lsOf n wf,One ps l)/\rowAt ps (lsOf n wf) ps.length=r:=by
 have nd:=pr.nodup_iff.mpr (List.pairwise_lt_range.imp λh=>Ob h)
 have cl:∀k,k<n->∃j p,F[j]?=some p/\k∈p:=λk hk=>by
  have:k∈F.flatten:=by rw[ef];exact pr.mem_iff.mpr (Oj.mpr hk)
  obtain⟨p,hp,kp⟩:=List.mem_flatten.mp this;obtain⟨j,hj⟩:=List.getElem?_of_mem hp;exact⟨j,p,hj,kp⟩
 have hjF:∀ {j p},F[j]?=some p->j<F.length:=λh=>(N4.mp h).1
 have one:∀l∈lsOf n wf,One ps l:=λl hl=>by
  obtain⟨k,hk,rfl⟩:=Oc.mp hl;obtain⟨j,p,hj,kp⟩:=cl k (Oj.mp hk);have:=hjF hj;exact⟨rfl,rfl,by rw[hwf j p hj k kp];exact vY hv (!1)⟩
 have ll:(lsOf n wf).length=n:=by rw[length_map,length_range]
 have lok:∀l∈lsOf n wf,LtOk ps l:=λl hl=>(one l hl).ok hw
 have at_k:∀k,k<n->(lsOf n wf)[k]?=some ⟨1,0,wf k⟩:=λk hk=>by rw[getElem?_map,List.getElem?_range hk];rfl
 have cdk:∀ {k j:Nat} {p:NO},k<n->F[j]?=some p->k∈p->cd ps _ ps.length k=(j:Int)/\gm ps ⟨1,0,wf k⟩ ps.length=S.getD j 0:=λ{k j p} hk hj kp=>by
  have hjl:=hjF hj;have hjp:j<prod ps:=by omega
  have o:=lok _ (Ol (at_k k hk));obtain⟨e1,e2⟩:=ends hv o;refine⟨?_,?_⟩
  ·unfold cd;rw[at_k k hk];show(stAt ps ⟨1,0,wf k⟩ ps.length).2=_;rw[e1];rw[hwf j p hj k kp,oE hv hjp]
  ·rw[e2];rw[hwf j p hj k kp,Ea hv hw hjp (hSt j hjp)]
 have kyk:∀ {k j:Nat} {p:NO},k<n->F[j]?=some p->k∈p->ky ps _ ps.length k=S.getD j 0*(k:Int):=λ{k j p} hk hj kp=>by
  unfold ky;rw[at_k k hk];show gm ps ⟨1,0,wf k⟩ ps.length*((k:Int)+((lsOf n wf).length:Int)*0)=_;rw[(cdk hk hj kp).2,Int.mul_zero,Int.add_zero]
 have hkn:∀ {k j:Nat} {p:NO},F[j]?=some p->k∈p->k<n:=λhj kp=>Oj.mp (pr.mem_iff.mp (by rw[<-ef];exact List.mem_flatten.mpr ⟨_,Ol hj,kp⟩))
 refine⟨one,List.Perm.eq_of_pairwise (λa b _ _ h1 h2=>by unfold pLt at h1 h2;omega) (oz hv lok ps.length (Om _)) ?_ (fO (jn lok ps.length (Om _)) nd λk=>?_)⟩
 ·rw[<-ef];refine List.pairwise_flatten.mpr ⟨λp hp=>?_,List.pairwise_iff_getElem.mpr λi j hi hj hij x hx y hy=>?_⟩
  ·obtain⟨j,hj⟩:=List.getElem?_of_mem hp;refine(ok j p hj).2.imp_of_mem λ{x y} hx hy h=>.inr ?_;rw[(cdk (hkn hj hx) hj hx).1,(cdk (hkn hj hy) hj hy).1,kyk (hkn hj hx) hj hx,kyk (hkn hj hy) hj hy];refine⟨rfl,?_⟩;unfold gs at h;rcases hpm j (N8 (hjF hj) hF)with e|e
   ·rw[e,if_pos rfl,decide_eq_true_eq]at h;rw[e];omega
   ·rw[e,if_neg (!4),decide_eq_true_eq]at h;rw[e];omega
  ·have ei:=getElem?_eq_getElem hi;have ej:=getElem?_eq_getElem hj;refine .inl ?_;rw[(cdk (hkn ei hx) ei hx).1,(cdk (hkn ej hy) ej hy).1];omega
 ·rw[eR lok ps.length (le_refl _),pr.mem_iff,List.mem_range];exact⟨λ⟨l,hl,_⟩=>by rw[<-ll];exact(N4.mp hl).1,λhk=>⟨_,at_k k hk,Nat.zero_le _⟩⟩
end K20
namespace K20
open PySem PySem.Spec PyProof.Rows L2 K42
theorem Fc:∀ (rs:NF) (n:Nat) (w:NO) (c:Sd),(c.2=1\/c.2= -1)->((pl n rs w c).2=1\/(pl n rs w c).2= -1)
 |[],_,_,_,h=>h
 |_::_,_,[],_,h=>h
 |p::rs,n,k::w,c,h=>by
  refine Fc rs (n*p.length) w (br n k (pkg p k) c) ?_;show(if(pkg p k).1 then c.2 else -c.2)=1\/(if(pkg p k).1 then c.2 else -c.2)= -1;cases(pkg p k).1
  ·simp;omega
  ·simpa using h
theorem Iz (h:q∈tol ps):q.2=1\/q.2= -1:=by
 obtain⟨m,_,rfl⟩:=Oc.mp h;exact Fc ps 1 _ _ (.inl rfl)
theorem Bp (hmi:vM mi) (hv:Valid ps):mi [aS ps]=some [(("passes":Str),aS ps)]:=by
 have i1:(ps.map λp=>(false,p)).map (·.2)=ps:=by rw[List.map_map];exact List.map_id ps
 have i2:(ps.map λp=>(false,p)).map paD=ps.map tpD:=by rw[List.map_map];rfl
 have q:=hmi false (ps.map λp=>(false,p)) (by rw[i1];exact hv);rw[i1,i2]at q;exact q
theorem xH (hv:Valid ps) {T:List Sd} (h1:T.Perm (tol ps)) (h2:T.Pairwise λa b=>HT.lexLt [b.1,b.2] [a.1,a.2]=false):(T.map (·.2)).length=prod ps/\∀i,i<prod ps->((i:Int),(T.map (·.2)).getD i 0)∈tol ps:=by
 have hc:=uA (iP hv) h1 h2;have hl:T.length=prod ps:=by
  have:=congrArg List.length hc;rwa [length_map,length_map,length_range]at this
 refine⟨by rw[length_map,hl],λi hi=>?_⟩;have hi':i<T.length:=by omega
 have e1:(T.map (·.1))[i]?=some (T[i]).1:=by rw[getElem?_map,getElem?_eq_getElem hi'];rfl
 grind
theorem evX_mk {R Sp} (h:R (vw U)=some (ah ps)) (hs:Sp (vw U)=none) (h2:R (shv U)=some (ah ps)):evX R noV Sp U=some ((.sh,ah ps),U):=uh h rfl rfl hs rfl h2
theorem fNo_n:fNo xs U=none:=by
 unfold fNo;cases xs U<;>rfl
end K20
namespace K20
open PySem PySem.Spec PyProof.Rows L2 K42
def Bq (gc cM bu eV gh bJ:Fn) (qq:NS->Option (List (Str×D))) (cZ cG cF:Fn):Cl:=(ae (aw 1 (evC cF (x2 (va 0) (cI 93)))) (ae (aw 2 (evC cG (x1 (va 1)))) (ae (aw 3 (evC cZ (x1 (va 2)))) (ae (aw 4 (evX (mkF "Mill" qq (x1 (va 2))) noV (fNo (x1 (va 2))))) (ae (aw 5 (evC bJ (x2 (va 1) (va 3)))) (ae (aw 6 (evC gh (x2 (va 4) (va 5)))) (ae (ifS (orQ (ci (trF (biF ff (x2 (va 6) (cT "bool"))))) (av (ab (aK true) (va 6) (clF eV (x2 (va 3) (va 5)))))) (rtF (evV (cB false))) nxE) (ae (ifS (ci (trF (va 6))) (rtF (evV (ab (oY false) (clF bu (x2 (va 4) (va 5))) cN))) nxE) (ae (aw 7 (evC bu (x2 (va 4) (va 5)))) (ae (aw 8 (evX (lsF (aj [10] (jX noV (va 5)) (gNm 10) tQ (tpF af))) (aj [10] (jX noV (va 5)) (gNm 10) tQ (tpF af)) (fCo [10] (jX noV (va 5)) (gNm 10) tQ (frX (tpF af) noV (fTp af))))) (ae (frY 7 (jR (x1 (lnF (va 7)))) (eNm 9) (ae (frF (jX noV (ab ixD (va 7) (va 9))) (eNm 10) (ae (iG 8 (va 10) (evC cM (x3 (va 4) (cI 0) (va 9))) (clF cM (x3 (va 4) (cI 0) (va 9)))) nxE)) nxE)) (rtF (evV (ab (!29) (clF gc (x3 (va 4) (lsF (aj [10] (jX noV (va 5)) (gNm 10) tQ (tpF (x2 (cI 1) (cI 0))))) (va 8))) (va 5)))))))))))))))
theorem ev_any (h:xs (vw U)=some ds) (e:f ds=dp d):evC f xs U=some ((.deep,d),U):=by
 cases q:lfD d with
 |true=>exact evX_lf (by rw[clF_a,h,Option.bind_some,e];rfl) q
 |false=>exact ev_cl h e q
theorem IA {α:Type} {out:α->Option Out} {P:α->Prop} {J:Fx} (I:Nat->Ev->Prop) (hN:J (shv U)=none) (hJ:J (shv (frzS [j] U))=some ((!6).map λ(i:Nat)=>D.int (i:Int))) (h0:I 0 (frzS [j] U)) (hs:∀ (i:Nat) (U:Ev),i<n->I i U->∃U',F (U.set s (sn (iN i)))=some (.nx U')/\I (i+1) U') (k:∀U',I n U'->∃a,G U'=out a/\P a):∃a,ae (frY j J (eNm s) F) G U=out a/\P a:=by
 obtain⟨U',e,i⟩:=iH (step:=pj (eNm s) F) ((!6).map λ(i:Nat)=>D.int (i:Int)) I _ h0 (λi d U hd hi=>by
  rw[getElem?_map]at hd;cases hx:(!6)[i]? with
  |none=>rw[hx]at hd;cases hd
  |some x=>
   rw[hx]at hd;cases hd;have hi':i<n:=by have:=(N4.mp hx).1;rwa [length_range]at this
   rw[List.getElem?_range hi']at hx;cases hx;exact hs i U hi' hi)
 rw[length_map,length_range]at i;have e':gP J (eNm s) F (frzS [j] U)=some (.nx U'):=by unfold gP;rw[hJ];exact e
 exact x_st (HX hN e') (k _ i)
theorem Ed (f:Nat->D) (v:D):((!6).map f).set x v=(!6).map λk=>if k=x then v else f k:=by
 apply List.ext_getElem?;grind
abbrev pnD (n:Nat) (wf:Nat->NO):D:=.lst ((!6).map λk=>wD (wf k))
abbrev sM (ns cs:NQ) (ps:NF) (S:NQ) (r:NO) (o6 o7 o8 o9 o10:NH):Ev:=[sn (scD ns),dp (scD cs),dp (aS ps),dp (itD S),sn (ah ps),dp (rowD r),o6,o7,o8,o9,o10]
theorem lf_pn (n:Nat) (wf:Nat->NO):lfL ((!6).map λk=>wD (wf k))=true:=bI λd hd=>by
 obtain⟨k,_,rfl⟩:=Oc.mp hd;exact lf_w _
theorem wg {β:Type} {r:NO} (h:r.length=n) (b:β):r.map (λ_=>b)=(!6).map λ_=>b:=by
 rw[List.map_const',List.map_const',length_range,h]
theorem La {er cw st can co an mi lf pa di fa} (her:HV er) (hcw:sCW cw) (hst:DY fa st) (hcan:Im can) (hco:Bb fa co) (han:Ix an) (hmi:vM mi) (hlf:sLF lf) (hpa:Iq pa) (hdi:Ip di) (hfa:uC fa) (ns:NQ) (hn:ns.length<=63):
  fD (aL 1 11 (Bq er cw st can co an mi lf pa di) [scD ns])=some (.bl true):=by
 obtain⟨cs,hcl,e1⟩:=hdi ns hn
 obtain⟨ps,hv,hwd,h200,e2⟩:=hpa cs hcl
 have h256:prod ps<256:=by omega
 obtain⟨T,t1,t2,e5⟩:=hfa ps hv hwd h256
 obtain⟨hSl,hSt⟩:=xH hv t1 t2
 generalize T.map (·.2)=S at e5 hSl hSt
 have hp1:1<=prod ps:=by have:=mC hv 0 ps.length;rwa [List.drop_zero,List.take_length]at this
 have h0:0<S.length:=by omega
 have hS:S.length<256:=by omega
 have hg:∀i,i<S.length->S.getD i 0=1\/S.getD i 0= -1:=λi hi=>Iz (hSt i (!1))
 have e6:=hlf ps S hv h256 hSl hSt
 have e7:=Bp hmi hv
 obtain⟨r,n,h24,pr,e8⟩:=han cs S hcl h0 hS
 have hrl:r.length=n:=by rw[pr.length_eq,length_range]
 have nd:=pr.nodup_iff.mpr (List.pairwise_lt_range.imp λh=>Ob h)
 have e9:=hco ps S r n e5 pr h24
 have e10:=hcan S r n h0 pr h24
 have e11:=hst ps S r n e5 pr h24
 have key:∃s,Bq er cw st can co an mi lf pa di [sn (scD ns),none,none,none,none,none,none,none,none,none,none]=some (.rt s)/\s.2=.bl true:=by
  refine x_set (ev_any rfl e1) (x_set (ev_any rfl e2) (x_set (ev_any rfl e6) (x_set (evX_mk ?_ fNo_n ?_) (x_set (ev_any rfl e8) (x_set (ev_any rfl e9) (x_if0 ?_ ?_))))))
  ·simp only[sB,ET,e7];rfl
  ·simp only[sB,gS,fG,dk,eO,show lfD (aS ps)=true from um ps,Dm,ET,e7];rfl
  ·show orQ _ _ (vw (sM ns cs ps S r (dp (.bl (strt S r).isSome)) none none none none))=_;have ec:clF can (x2 (va 3) (va 5)) (vw (sM ns cs ps S r (dp (.bl (strt S r).isSome)) none none none none))=some (.bl (strt S r).isSome):=by
    rw[clF_a,show x2 (va 3) (va 5) (vw (sM ns cs ps S r (dp (.bl (strt S r).isSome)) none none none none))=some [itD S,rowD r]from rfl,Option.bind_some,e10];rfl
   show(some false).bind _=_;rw[Option.bind_some,if_neg (!4),testB_a,bin2_a,ec];cases(strt S r).isSome<;>rfl
  ·cases hF:strt S r with
   |none=>
    rw[hF]at e11;refine Fb (g:=id) rfl ⟨(.deep,.bl true),q_ret (evX_lf ?_ rfl),rfl⟩;show ab (oY false) (clF st (x2 (va 4) (va 5))) cN (vw (sM ns cs ps S r (dp (.bl (none:Option (List (NO))).isSome)) none none none none))=_;rw[bin2_a,clF_a,show x2 (va 4) (va 5) (vw (sM ns cs ps S r (dp (.bl (none:Option (List (NO))).isSome)) none none none none))=some [ah ps,rowD r]from rfl,Option.bind_some,e11];rfl
   |some F=>
    rw[hF]at e11;obtain⟨ok,ef⟩:=Ec nd hF;have gF:=we (gd0 S) hF;have hFl:=gF.le;have nF:F.flatten.Nodup:=by rw[ef];exact nd
    have hc8:aj [10] (jX noV (va 5)) (gNm 10) tQ (tpF af) (vw (sM ns cs ps S r (dp (.bl true)) (dp (!30)) none none none))=some ((!6).map λk=>wD []):=by
     rw[<-wg hrl (wD [])];exact aC rfl (λk hk=>rfl) (by rw[hrl];exact mF (!1))
    refine x_if0 rfl (x_set (U':=sM ns cs ps S r (dp (.bl true)) none none none none) (ev_any rfl e11) (x_set (evX_lfs (by rw[lsF_a];exact congrArg _ hc8) rfl hc8 (lf_pn n _))
     (IA (n:=F.length) (λj U=>∃ (wf:Nat->NO) (o9 o10:NH),(∀i p,i<j->F[i]?=some p->∀k∈p,wf k=bt ps i)/\U=sM ns cs ps S r (dp _) (sn (.lst _)) (dp (pnD n wf)) o9 o10) ?_ ?_ ⟨λ_=>[],none,none,λi p h=>absurd h (Nat.not_lt_zero _),rfl⟩ ?_ ?_)))
    ·rfl
    ·refine gw ?_;show(x1 (lnF (va 7)) (shv (frzS [7] (sM ns cs ps S r (dp (.bl true)) (dp (!30)) (dp (pnD n λ_=>[])) none none)))).bind lK=_;rw[ux,consX_a,show lnF (va 7) (shv (frzS [7] (sM ns cs ps S r (dp (.bl true)) (dp (!30)) (dp (pnD n λ_=>[])) none none)))=some _ from fM F];exact bF (!1)
    ·rintro j U hj ⟨wf,o9,o10,hwf,rfl⟩;have ej:=getElem?_eq_getElem hj;have ix:ixD (!30) (iN j)=some _:=atI_mapN ej;have ew:=hcw ps j hv (!1);refine x_for (xs:=F[j]) (mk:=λ(k:Nat)=>D.int (k:Int)) (λt U=>∃ (wf:Nat->NO) (o10:NH),(∀i p,i<j->F[i]?=some p->∀k∈p,wf k=bt ps i)/\(∀k∈F[j].take t,wf k=bt ps j)/\U=sM ns cs ps S r (dp _) (sn (.lst _)) (dp (pnD n wf)) _ o10) ?_ ⟨wf,o10,hwf,(λk hk=>by simp at hk),rfl⟩ ?_ ?_
     ·show(orO noV _) _=_;show((ixD (!30) (iN j))).bind seqD=_;rw[ix];rfl
     ·rintro t x U hx ⟨wf,o10,h1,h2,rfl⟩;have hxF:=Ol hx;have hxn:=Oj.mp (pr.mem_iff.mp (by rw[<-ef];exact List.mem_flatten.mpr ⟨_,List.getElem_mem hj,hxF⟩));refine x_one (U:=sM ns cs ps S r (dp _) (sn (.lst _)) (dp _) _ _) (Fa (d:=wD (bt ps j)) rfl (evX_lf ?_ (lf_w _)) rfl rfl (!1) (by rw[length_map,length_range];omega)) ⟨λk=>if k=x then bt ps j else wf k,sn (iN x),λi p hi hp k hk=>?_,λk hk=>?_,?_⟩
      ·rw[clF_a,show x3 (va 4) (cI 0) (va 9) (vw (sM ns cs ps S r (dp (.bl true)) (sn (!30)) (dp (pnD n wf)) (sn (iN j)) (sn (iN x))))=some [ah ps,.int 0,iN j]from rfl,Option.bind_some,ew];rfl
      ·have:k≠x:=λe=>by
        subst e;have:=Bo nF hp ej hk hxF;omega
       show(if k=x then _ else _)=_;rw[if_neg this];exact h1 i p hi hp k hk
      ·show(if k=x then _ else _)=_;by_cases e:k=x
       ·rw[if_pos e]
       ·rw[if_neg e];rw[List.take_succ,hx]at hk;rcases mem_append.mp hk with hk|hk
        ·exact h2 k hk
        ·exact absurd (by simpa using hk) e
      ·rw[Int.toNat_natCast,Ed];have:(λk=>if k=x then wD (bt ps j)else wD (wf k))=λk=>wD (if k=x then bt ps j else wf k):=by
        funext k;by_cases e:k=x
        ·rw[if_pos e,if_pos e]
        ·rw[if_neg e,if_neg e]
       rw[this];rfl
     ·rintro U ⟨wf,o10,h1,h2,rfl⟩;refine x_end ⟨wf,_,_,λi p hi hp k hk=>?_,rfl⟩;by_cases e:i=j
      ·subst e;rw[ej]at hp;cases hp;exact h2 k (by rw[List.take_length];exact hk)
      ·exact h1 i p (!1) hp k hk
    ·rintro U ⟨wf,o9,o10,hwf,rfl⟩;obtain⟨one,er1⟩:=Iy hv hwd hSl hSt hg pr ok ef hFl λj p hp k hk=>hwf j p (N4.mp hp).1 hp k hk;have ll:(lsOf n wf).length=n:=by rw[length_map,length_range]
     have e12:=her true true ps _ hv (!1) λl hl=>(one l hl).ok hwd;rw[er1]at e12;have q1:lsD true (lsOf n wf)=.lst ((!6).map λ_=>.tup [.int 1,.int 0]):=by
      show D.lst ((lsOf n wf).map kj)=_;rw[List.map_map];rfl
     have q2:plD true (lsOf n wf)=pnD n wf:=by
      show D.lst ((lsOf n wf).map λl=>wD l.w)=_;rw[List.map_map];rfl
     rw[q1,q2]at e12;have hc:aj [10] (jX noV (va 5)) (gNm 10) tQ (tpF (x2 (cI 1) (cI 0))) (vw (sM ns cs ps S r (dp (.bl true)) (sn (!30)) (dp (pnD n wf)) o9 o10))=some ((!6).map λ_=>.tup [.int 1,.int 0]):=by
      rw[<-wg hrl _];exact aC rfl (λk hk=>rfl) (by rw[hrl];exact mF (!1))
     refine⟨(.deep,.bl true),q_ret (evX_lf ?_ rfl),rfl⟩;have ea:x3 (va 4) (lsF (aj [10] (jX noV (va 5)) (gNm 10) tQ (tpF (x2 (cI 1) (cI 0))))) (va 8) (vw (sM ns cs ps S r (dp (.bl true)) (sn (!30)) (dp (pnD n wf)) o9 o10))=some [ah ps,.lst ((!6).map λ_=>.tup [.int 1,.int 0]),pnD n wf]:=by
      rw[KP,consX_a,DL,consX_a,ux,consX_a,lsF_a,hc];rfl
     rw[bin2_a,clF_a,ea,Option.bind_some,e12];exact AO false r
 obtain⟨s,e,h⟩:=key
 have e':aL 1 11 (Bq er cw st can co an mi lf pa di) [scD ns]=some s:=aq rfl e
 rw[e']
 exact congrArg some h
end K20
namespace K20
open PySem PySem.Spec PyProof.Rows L2
noncomputable def scK (N P:NP) (sc:Scope):Bool:=decide (sc.kind=.function)&&(!sc.isCoroutine&&(!sc.isGenerator&&(decide N.Nodup&&(decide (N.take P.length=P)&&((P.all λx=>decide (sc.names.lookup x=some .local)||decide (sc.names.lookup x=some .cell))&&sc.names.all λy=>!decide (y.2=.free))))))
theorem scB (h:scK N P sc=true:=by kernel_rfl):FnScope N P sc:=by
 simp only[scK,and_eq_true,decide_eq_true_eq,Bool.not_eq_true',List.all_eq_true,Bool.or_eq_true,decide_eq_false_iff_not]at h;exact⟨h.1,h.2.1,h.2.2.1,h.2.2.2.1,h.2.2.2.2.1,h.2.2.2.2.2.1,h.2.2.2.2.2.2⟩
noncomputable def top (i:Nat):Stmt:=PySem.Challenge.pw_pocketmill_k37_whole_rows_come_to.main.body.getD i (.Pass ⟨0,0,0,0⟩)
def G0:Gb where
 fn:=λ_=>none
 cn:=λx=>if x=("KINDS":Str)then some (.tup [(.str "queue"),(.str "pile")])else if x=("MOST_PASSES":Str)then some (.int 6)else if x=("MOST_POCKETS":Str)then some (.int 6)else if x=("MOST_WIDTH":Str)then some (.int 9)else if x=("MOST_CODES":Str)then some (.int 1000)else if x=("MOST_SIZE":Str)then some (.int 9)else if x=("MOST_LETTERS":Str)then some (.int 24)else none
 no:=λx=>if x=("all":Str)then true else if x=("any":Str)then true else if x=("bool":Str)then true else if x=("enumerate":Str)then true else if x=("int":Str)then true else if x=("isinstance":Str)then true else if x=("len":Str)then true else if x=("list":Str)then true else if x=("max":Str)then true else if x=("min":Str)then true else if x=("range":Str)then true else if x=("reversed":Str)then true else if x=("sorted":Str)then true else if x=("tuple":Str)then true else if x=("zip":Str)then true else false
 fl:=λC m=>if C=("Mill":Str)/\m=("passes":Str)then true else false
 mt:=λ_ _=>none
 ini:=λ_=>none
abbrev dR:Stmt:=top 18
noncomputable abbrev ni:NP:=["value","least","most"]
noncomputable abbrev nk:NP:=["value","least","most"]
def mG (x:Str) (st:Stmt) (ps:NP) (us:NK):Prop:=∀ (qual:Str) (kV doc pm:Value) (an:Option Addr) (cdv ct:Value),bindArgs (PySem.W.fnOf x qual (bv st) (aN st) (am st) .none kV doc pm an cdv ct) ⟨us,[]⟩=pure (ps.zip us)
theorem bd1 {st} (e:ps.length=1) (h:∀u0,mG x st ps [u0]):bU x st ps:=λq k d p a c t us hl=>match us,hl.trans e with|[u0],_=>h u0 q k d p a c t
theorem bd2 {st} (e:ps.length=2) (h:∀u0 u1,mG x st ps [u0,u1]):bU x st ps:=λq k d p a c t us hl=>match us,hl.trans e with|[u0,u1],_=>h u0 u1 q k d p a c t
theorem bd3 {st} (e:ps.length=3) (h:∀u0 u1 u2,mG x st ps [u0,u1,u2]):bU x st ps:=λq k d p a c t us hl=>match us,hl.trans e with|[u0,u1,u2],_=>h u0 u1 u2 q k d p a c t
theorem bd4 {st} (e:ps.length=4) (h:∀u0 u1 u2 u3,mG x st ps [u0,u1,u2,u3]):bU x st ps:=λq k d p a c t us hl=>match us,hl.trans e with|[u0,u1,u2,u3],_=>h u0 u1 u2 u3 q k d p a c t
theorem bd5 {st} (e:ps.length=5) (h:∀u0 u1 u2 u3 u4,mG x st ps [u0,u1,u2,u3,u4]):bU x st ps:=λq k d p a c t us hl=>match us,hl.trans e with|[u0,u1,u2,u3,u4],_=>h u0 u1 u2 u3 u4 q k d p a c t
def ay:ad:=dfn 60 0 ni nk dR G0
def G1:Gb:=addF G0 "is_within" 1 ay
abbrev dS:Stmt:=top 20
noncomputable abbrev nn:NP:=["pocket"]
noncomputable abbrev np:NP:=["pocket"]
def cL:ad:=dfn 60 1 nn np dS G1
def G2:Gb:=addF G1 "is_pocket" 2 cL
abbrev fP:Stmt:=top 21
noncomputable abbrev rW:NP:=["pockets","pocket"]
noncomputable abbrev rX:NP:=["pockets"]
def f9:ad:=dfn 60 2 rW rX fP G2
def G3:Gb:=addF G2 "is_pass" 3 f9
abbrev eT:Stmt:=top 23
noncomputable abbrev qo:NP:=["passes","product","pockets"]
noncomputable abbrev qp:NP:=["passes"]
def bg:ad:=dfn 60 3 qo qp eT G3
def G4:Gb:=addF G3 "codes_of" 4 bg
abbrev dt:Stmt:=top 22
noncomputable abbrev mH:NP:=["passes","pockets"]
noncomputable abbrev mI:NP:=["passes"]
def bX:ad:=dfn 60 4 mH mI dt G4
def G5:Gb:=addF G4 "are_passes" 5 bX
abbrev aT:Stmt:=oP (top 24) 0
noncomputable abbrev iQ:NP:=["self","passes","pockets"]
noncomputable abbrev dI:NP:=["self","passes"]
theorem gW:FnScope iQ dI (am aT):=scB
theorem iR:bU "__init__" aT dI:=bd2 rfl λ_ _ _ _ _ _ _ _ _=>rfl
def qq:NS->Option (List (Str×D)):=gM bX
def G6:Gb:=addI G5 "Mill" 6 qq
abbrev aY:Stmt:=oP (top 24) 1
noncomputable abbrev fQ:NP:=["self"]
noncomputable abbrev du:NP:=["self"]
theorem kl:FnScope fQ du (am aY):=scB
theorem mJ:bU "codes" aY du:=bd1 rfl λ_ _ _ _ _ _ _ _=>rfl
def qt:ad:=dfn 60 6 fQ du aY G6
def G7:Gb:=addM G6 "codes" "Mill" 7 qt
abbrev bj:Stmt:=oP (top 24) 2
noncomputable abbrev gE:NP:=["self"]
noncomputable abbrev dU:NP:=["self"]
theorem mK:FnScope gE dU (am bj):=scB
theorem nq:bU "many" bj dU:=bd1 rfl λ_ _ _ _ _ _ _ _=>rfl
def rY:ad:=dfn 60 7 gE dU bj G7
def G8:Gb:=addM G7 "many" "Mill" 8 rY
abbrev fR:Stmt:=top 25
noncomputable abbrev rZ:NP:=["mill","late"]
noncomputable abbrev r6:NP:=["mill","late"]
def c8:ad:=dfn 60 8 rZ r6 fR G8
def G9:Gb:=addF G8 "is_late" 9 c8
abbrev cq:Stmt:=top 27
noncomputable abbrev jv:NP:=["mill","late"]
noncomputable abbrev jw:NP:=["mill","late"]
def aZ:ad:=dfn 60 9 jv jw cq G9
def G10:Gb:=addF G9 "look_at_late" 10 aZ
abbrev mL:Stmt:=top 30
noncomputable abbrev Br:NP:=["kind","ahead","code"]
noncomputable abbrev Bt:NP:=["kind","ahead","code"]
def jx:ad:=dfn 60 10 Br Bt mL G10
def G11:Gb:=addF G10 "laid" 11 jx
abbrev dW:Stmt:=top 31
noncomputable abbrev nr:NP:=["mill","late","code","numbers","ahead","left","pockets","number"]
noncomputable abbrev nt:NP:=["mill","late","code"]
def cM:ad:=dfn 60 11 nr nt dW G11
def G12:Gb:=addF G11 "code_word" 12 cM
abbrev fS:Stmt:=top 19
noncomputable abbrev r9:NP:=["size"]
noncomputable abbrev se:NP:=["size"]
def c9:ad:=dfn 60 12 r9 se fS G12
def G13:Gb:=addF G12 "is_size" 13 c9
abbrev dX:Stmt:=top 35
noncomputable abbrev nu:NP:=["mill","letter"]
noncomputable abbrev nw:NP:=["mill","letter"]
def dJ:ad:=dfn 60 13 nu nw dX G13
def G14:Gb:=addF G13 "is_letter" 14 dJ
abbrev bD:Stmt:=top 36
noncomputable abbrev gp:NP:=["mill","letters","letter"]
noncomputable abbrev gq:NP:=["mill","letters"]
def bm:ad:=dfn 60 14 gp gq bD G14
def G15:Gb:=addF G14 "look_at_letters" 15 bm
abbrev fT:Stmt:=top 26
noncomputable abbrev sf:NP:=["mill","late","word","passes","number","pockets"]
noncomputable abbrev sj:NP:=["mill","late","word"]
def db:ad:=dfn 60 15 sf sj fT G15
def G16:Gb:=addF G15 "is_word" 16 db
abbrev cu:Stmt:=top 28
noncomputable abbrev jy:NP:=["mill","late","word"]
noncomputable abbrev jz:NP:=["mill","late","word"]
def bY:ad:=dfn 60 16 jy jz cu G16
def G17:Gb:=addF G16 "look_at_word" 17 bY
abbrev dA:Stmt:=top 29
noncomputable abbrev mM:NP:=["mill","late","word","number","pockets"]
noncomputable abbrev mN:NP:=["mill","late","word"]
def bZ:ad:=dfn 60 17 mM mN dA G17
def G18:Gb:=addF G17 "pockets_of" 18 bZ
abbrev mO:Stmt:=top 32
noncomputable abbrev Bu:NP:=["mill","late","word","size","kind","width"]
noncomputable abbrev Bv:NP:=["mill","late","word","size"]
def qu:ad:=dfn 60 18 Bu Bv mO G18
def G19:Gb:=addF G18 "fits" 19 qu
abbrev cQ:Stmt:=top 37
noncomputable abbrev km:NP:=["mill","letter","word"]
noncomputable abbrev kn:NP:=["mill","letter","word"]
def cE:ad:=dfn 60 19 km kn cQ G19
def G20:Gb:=addF G19 "is_word_for" 20 cE
abbrev cv:Stmt:=top 38
noncomputable abbrev jA:NP:=["mill","letters","plan","letter","word"]
noncomputable abbrev jB:NP:=["mill","letters","plan"]
def b7:ad:=dfn 60 20 jA jB cv G20
def G21:Gb:=addF G20 "look_at_plan" 21 b7
abbrev fU:Stmt:=top 39
noncomputable abbrev sm:NP:=["letters","late","number","letter"]
noncomputable abbrev ss:NP:=["letters","late"]
def cx:ad:=dfn 60 21 sm ss fU G21
def G22:Gb:=addF G21 "joining" 22 cx
abbrev gX:Stmt:=top 40
noncomputable abbrev uH:NP:=["letters","plan","step","pockets","row","heaps","letter","pocket"]
noncomputable abbrev uI:NP:=["letters","plan","step","pockets","row"]
def fV:ad:=dfn 60 22 uH uI gX G22
def G23:Gb:=addF G22 "filled" 23 fV
abbrev fW:Stmt:=top 41
noncomputable abbrev su:NP:=["pockets","heaps","row","pocket","heap"]
noncomputable abbrev sv:NP:=["pockets","heaps"]
def eu:ad:=dfn 60 23 su sv fW G23
def G24:Gb:=addF G23 "emptied" 24 eu
abbrev jC:Stmt:=top 42
noncomputable abbrev xI:NP:=["mill","letters","plan","row","rows","step","pockets"]
noncomputable abbrev xJ:NP:=["mill","letters","plan"]
def kY:ad:=dfn 60 24 xI xJ jC G24
def G25:Gb:=addF G24 "trays" 25 kY
abbrev fX:Stmt:=top 43
noncomputable abbrev sw:NP:=["mill","letters","plan"]
noncomputable abbrev sD:NP:=["mill","letters","plan"]
def gc:ad:=dfn 60 25 sw sD fX G25
def G26:Gb:=addF G25 "end_row" 26 gc
abbrev gY:Stmt:=top 49
noncomputable abbrev uJ:NP:=["row","letter"]
noncomputable abbrev uK:NP:=["row"]
def iT:ad:=dfn 60 26 uJ uK gY G26
def G27:Gb:=addF G26 "is_row" 27 iT
abbrev cy:Stmt:=top 45
noncomputable abbrev jD:NP:=["pockets","size","ahead","sides","found","number","pocket","turn","code","side"]
noncomputable abbrev jE:NP:=["pockets","size","ahead","sides"]
def b8:ad:=dfn 60 27 jD jE cy G27
def G28:Gb:=addF G27 "sides_behind" 28 b8
abbrev dB:Stmt:=top 46
noncomputable abbrev mP:NP:=["mill","size","late","ahead","sides","pockets"]
noncomputable abbrev mQ:NP:=["mill","size","late"]
def bx:ad:=dfn 60 28 mP mQ dB G28
def G29:Gb:=addF G28 "open_sides" 29 bx
abbrev bL:Stmt:=top 48
noncomputable abbrev gZ:NP:=["mill","pockets","kind","width"]
noncomputable abbrev hG:NP:=["mill"]
def bz:ad:=dfn 60 29 gZ hG bL G29
def G30:Gb:=addF G29 "look_at_widths" 30 bz
abbrev jF:Stmt:=top 50
noncomputable abbrev xK:NP:=["mill","code","side"]
noncomputable abbrev xL:NP:=["mill"]
def gd:ad:=dfn 60 30 xK xL jF G30
def G31:Gb:=addF G30 "faces" 31 gd
abbrev fY:Stmt:=top 51
noncomputable abbrev sE:NP:=["side","rising"]
noncomputable abbrev sF:NP:=["side","rising"]
def gf:ad:=dfn 60 31 sE sF fY G31
def G32:Gb:=addF G31 "goes_on" 32 gf
abbrev dY:Stmt:=top 52
noncomputable abbrev ny:NP:=["mill","row","sides","found","letter"]
noncomputable abbrev nz:NP:=["mill","row"]
def bu:ad:=dfn 60 32 ny nz dY G32
def G33:Gb:=addF G32 "stretches" 33 bu
abbrev fZ:Stmt:=top 53
noncomputable abbrev sH:NP:=["mill","row"]
noncomputable abbrev sI:NP:=["mill","row"]
def gh:ad:=dfn 60 33 sH sI fZ G33
def G34:Gb:=addF G33 "come_to" 34 gh
abbrev cR:Stmt:=top 55
noncomputable abbrev ko:NP:=["script","many","found","left","stir","cell","k","at"]
noncomputable abbrev kr:NP:=["script","many"]
def cF:ad:=dfn 60 34 ko kr cR G34
def G35:Gb:=addF G34 "_law_digits" 35 cF
abbrev cU:Stmt:=top 56
noncomputable abbrev kt:NP:=["digit"]
noncomputable abbrev ku:NP:=["digit"]
def bH:ad:=dfn 60 35 kt ku cU G35
def G36:Gb:=addF G35 "_law_pocket" 36 bH
abbrev cV:Stmt:=top 57
noncomputable abbrev kz:NP:=["digits","passes","codes","at","many","k"]
noncomputable abbrev kA:NP:=["digits"]
def cG:ad:=dfn 60 36 kz kA cV G36
def G37:Gb:=addF G36 "_law_passes" 37 cG
abbrev dC:Stmt:=top 58
noncomputable abbrev mR:NP:=["passes","signs","codes","pockets","number","left","code","ahead","sign","pocket"]
noncomputable abbrev mS:NP:=["passes"]
def cZ:ad:=dfn 60 37 mR mS dC G37
def G38:Gb:=addF G37 "_law_faces" 38 cZ
abbrev dZ:Stmt:=top 59
noncomputable abbrev nB:NP:=["digits","many","line","k"]
noncomputable abbrev nC:NP:=["digits","many"]
def bO:ad:=dfn 60 38 nB nC dZ G38
def G39:Gb:=addF G38 "_law_line" 39 bO
abbrev bM:Stmt:=top 60
abbrev hU:NP:=["digits","many","signs","top","letters","line","at","part","k"]
noncomputable abbrev hV:NP:=["digits","many","signs"]
def bA:ad:=dfn 60 39 hU hV bM G39
def G40:Gb:=addF G39 "_law_near_line" 40 bA
abbrev b9:Stmt:=top 61
noncomputable abbrev iU:NP:=["digits","signs","head","many","line","at"]
noncomputable abbrev iV:NP:=["digits","signs"]
def bJ:ad:=dfn 60 40 iU iV b9 G40
def G41:Gb:=addF G40 "_law_any_line" 41 bJ
abbrev cz:Stmt:=top 62
noncomputable abbrev jG:NP:=["sign","one","other"]
noncomputable abbrev jH:NP:=["sign","one","other"]
def ca:ad:=dfn 60 41 jG jH cz G41
def G42:Gb:=addF G41 "_law_goes_on" 42 ca
abbrev eU:Stmt:=top 63
noncomputable abbrev qv:NP:=["signs","line","ends","sign","more","end","at","going"]
noncomputable abbrev qw:NP:=["signs","line"]
def eV:ad:=dfn 60 42 qv qw eU G42
def G43:Gb:=addF G42 "_law_can" 43 eV
abbrev iW:Stmt:=top 64
noncomputable abbrev wj:NP:=["script","digits","passes","signs","mill","line","found","parts","plan","code","letter"]
noncomputable abbrev qx:NP:=["script"]
theorem Bw:FnScope wj qx (am iW):=scB
theorem Ee:bU "law" iW qx:=bd1 rfl λ_ _ _ _ _ _ _ _=>rfl
def Lb:ad:=dfn 60 43 wj qx iW G43
structure Tx (K:Frag):Prop where
 v0:aO K "is_within" dR
 v1:aO K "is_pocket" dS
 v2:aO K "is_pass" fP
 v3:aO K "codes_of" eT
 v4:aO K "are_passes" dt
 v5:aO K "is_late" fR
 v6:aO K "look_at_late" cq
 v7:aO K "laid" mL
 v8:aO K "code_word" dW
 v9:aO K "is_size" fS
 v10:aO K "is_letter" dX
 v11:aO K "look_at_letters" bD
 v12:aO K "is_word" fT
 v13:aO K "look_at_word" cu
 v14:aO K "pockets_of" dA
 v15:aO K "fits" mO
 v16:aO K "is_word_for" cQ
 v17:aO K "look_at_plan" cv
 v18:aO K "joining" fU
 v19:aO K "filled" gX
 v20:aO K "emptied" fW
 v21:aO K "trays" jC
 v22:aO K "end_row" fX
 v23:aO K "is_row" gY
 v24:aO K "sides_behind" cy
 v25:aO K "open_sides" dB
 v26:aO K "look_at_widths" bL
 v27:aO K "faces" jF
 v28:aO K "goes_on" fY
 v29:aO K "stretches" dY
 v30:aO K "come_to" fZ
 v31:aO K "_law_digits" cR
 v32:aO K "_law_pocket" cU
 v33:aO K "_law_passes" cV
 v34:aO K "_law_faces" dC
 v35:aO K "_law_line" dZ
 v36:aO K "_law_near_line" bM
 v37:aO K "_law_any_line" b9
 v38:aO K "_law_goes_on" cz
 v39:aO K "_law_can" eU
 v40:aO K "law" iW
 v41:m8 K "Mill" "__init__" "Mill.__init__" aT
 v42:m8 K "Mill" "codes" "Mill.codes" aY
 v43:m8 K "Mill" "many" "Mill.many" bj
 v44:TCls K "Mill"
 v45:∃Ca,nsIn K mainGlobals "Mill"=some (!24)/\findIn K (.ref Ca) "passes"=some none
 v46:∃ (a:Addr) (od:Option Addr) (n:Nat) (sl:Array (NM)) (t0:Tok) (t1:Tok),nsIn K mainGlobals "KINDS"=some (some (.ref a))/\K.lookup a=some ⟨.type "tuple",od,.seq #[.str "queue" t0,.str "pile" t1] n,sl⟩
 v47:∃t,nsIn K mainGlobals "MOST_PASSES"=some (some (.int 6 t))
 v48:∃t,nsIn K mainGlobals "MOST_POCKETS"=some (some (.int 6 t))
 v49:∃t,nsIn K mainGlobals "MOST_WIDTH"=some (some (.int 9 t))
 v50:∃t,nsIn K mainGlobals "MOST_CODES"=some (some (.int 1000 t))
 v51:∃t,nsIn K mainGlobals "MOST_SIZE"=some (some (.int 9 t))
 v52:∃t,nsIn K mainGlobals "MOST_LETTERS"=some (some (.int 24 t))
 v53:nsIn K mainGlobals "all"=some none
 v54:nsIn K mainGlobals "any"=some none
 v55:nsIn K mainGlobals "bool"=some none
 v56:nsIn K mainGlobals "enumerate"=some none
 v57:nsIn K mainGlobals "int"=some none
 v58:nsIn K mainGlobals "isinstance"=some none
 v59:nsIn K mainGlobals "len"=some none
 v60:nsIn K mainGlobals "list"=some none
 v61:nsIn K mainGlobals "max"=some none
 v62:nsIn K mainGlobals "min"=some none
 v63:nsIn K mainGlobals "range"=some none
 v64:nsIn K mainGlobals "reversed"=some none
 v65:nsIn K mainGlobals "sorted"=some none
 v66:nsIn K mainGlobals "tuple"=some none
 v67:nsIn K mainGlobals "zip"=some none
theorem eC:dG ay:=tr (As)
theorem Bx:vL c9:=tr (HB eC)
theorem By:pV cL:=tr (At eC)
theorem IB:Au f9:=tr (HC By)
theorem qy:gU bg:=tr (Dr)
theorem Lc:HE bX:=tr (KI IB qy)
theorem IC:vM qq:=HF Lc
theorem j9:G0.fl "Mill" "passes"=true:=by kernel_rfl
theorem ID:EW (G8.mt "many") 8:=λps=>by
 exact HG j9 ps
theorem Nc:sCM (G11.mt "codes") 11:=λps hv=>by
 exact M9 j9 qy hv
theorem Bz:vN c8:=tr (HH ID eC)
theorem BA:vO db:=tr (HI eC j9)
theorem wk:pY aZ:=tr (Dt Bz)
theorem Ef:ur bY:=tr (Du BA wk)
theorem Eg:ut bZ:=tr (Dv j9)
theorem IE:Aw qu:=tr (HJ Eg Bx Ef)
theorem BB:p9 dJ:=tr (AA Bz Bx)
theorem BC:qa bm:=tr (AB BB)
theorem Ld:HR cE:=tr (KL IE BA)
theorem BD:qb b7:=tr (AC Ld BC)
theorem IF:AF cx:=tr (HS)
theorem IG:AG fV:=tr (HU)
theorem Eh:uu eu:=tr (DE)
theorem Ei:uv kY:=tr (DH j9 IG Eh IF BD)
theorem Lf:HV gc:=tr (KM Ei)
theorem BE:oq jx:=tr (HL)
theorem Nd:sCW cM:=tr (D5 j9 BE Nc eC wk)
theorem BF:qh b8:=tr (A5 BE)
theorem Ej:uB bx:=tr (DR j9 BF qy)
theorem Lg:HZ bz:=tr (KO j9)
theorem Ek:uC gd:=tr (DT Ej Lg)
theorem Nf:sLF cZ:=tr (M6)
theorem Ng:sGo gf:=tr (M7)
theorem Nh:uw iT:=tr (DK eC)
theorem Fd:DY gd bu:=tr (K1 Ng Nh)
theorem IH:Bb gd gh:=tr (Ih Fd)
theorem Ni:sLg ca:=tr (M8)
theorem Lh:Im eV:=tr (K3 Ni)
theorem Li:Ip cF:=tr (K5)
theorem Nj:sPk bH:=tr (Nb)
theorem Lj:Iq cG:=tr (K6 Nj)
theorem BG:wa bO:=tr (Iv)
theorem II:Bn bA:=tr (Iw BG)
theorem Lk:Ix bJ:=tr (K7 II BG)
theorem Ll:∀ns:NQ,ns.length<=63->fD (Lb [.lst (ns.map D.int)])=some (.bl true):=λns hn=>by
 exact tr (La Lf Nd Fd Lh IH Lk IC Nf Lj Li Ek ns hn) (!5)
def Q:Program:={PySem.Challenge.pw_pocketmill_k37_whole_rows_come_to with main:={PySem.Challenge.pw_pocketmill_k37_whole_rows_come_to.main with body:=[top 1,top 2,top 3,top 4,top 5,top 6,top 7,top 8,top 9,top 10,top 12,top 13,top 14,top 15,top 16,top 17,top 18,top 19,top 20,top 21,top 22,top 23,top 24,top 25,top 26,top 27,top 28,top 29,top 30,top 31,top 32,top 34,top 35,top 36,top 37,top 38,top 39,top 40,top 41,top 42,top 43,top 45,top 46,top 48,top 49,top 50,top 51,top 52,top 53,top 55,top 56,top 57,top 58,top 59,top 60,top 61,top 62,top 63,top 64]}}
noncomputable abbrev kH (P:Params) (x:Str) (n:Nat) (v:Value):DictEntry:=⟨PyData.keyHash P x,(.str x n),v⟩
noncomputable abbrev kC (x:Str) (a:Nat) (y:Str) (b c:Nat) (i j k l m:Int) (r:Nat) (n:Int) (p:Nat) (v q s t:Value) (u w:Int) (d:Nat):Obj:=⟨(.type "code"),none,(.fields #[(.str x a),(.str y b),(.str "/claim/cut.py" c),(.int i 0),(.int j 0),(.int k 0),(.int l 0),(.int m 0),(.ref r),(.bool true),(.int n 0),(.ref p),v,q,s,t,(.int u 0),(.int w 0),(.str "/claim/cut.py" d)]),#[]⟩
noncomputable abbrev kF (x y:Str) (st:Stmt) (z:Str) (n r:Nat):Obj:=⟨(.type "function"),none,(.func (PySem.W.fnOf x y (bv st) (aN st) (am st) .none .none .none (.str z n) none (.ref r) .none)),#[]⟩
theorem tdG {K} {st} (f:Addr) (z:Str) (n c:Nat) (a:(nsIn K mainGlobals x,K.lookup f,PySem.W.codeIn K (.ref c) x,PySem.W.keepIn K (.ref f))=(some (some (.ref f)),some ⟨.type "function",none,.func (PySem.W.fnOf x x (bv st) (aN st) (am st) .none .none .none (.str z n) none (.ref c) .none),#[]⟩,true,true):=by kernel_rfl):aO K x st:=by
 simp only[Prod.mk.injEq]at a;exact MU a.1 a.2.1 a.2.2.1 a.2.2.2
noncomputable abbrev mN0:Str:="law_pocketmill_k37_whole_rows_come_to"
noncomputable abbrev mN1:Str:="pocketmill.counting"
noncomputable abbrev mN2:Str:="pocketmill.least"
noncomputable abbrev mN3:Str:="pocketmill.mills"
noncomputable abbrev mN4:Str:="pocketmill.trays"
abbrev kD (x:Str) (a:Nat) (i j:Int) (r:Nat) (e:Int):Obj:=kC x a x (a+1) (a+2) i j 0 0 3 r 181 (r+1) .none (.ref (r+2)) (.ref (r+3)) (.ref (r+4)) e i (e+1).toNat
abbrev kE (x:Str) (a:Nat) (i j:Int) (r:Nat) (e:Int):Obj:=kC x a x (a+1) (a+2) i j 0 0 3 r 181 (r+1) .none .none .none (.ref (r+2)) e i (e+1).toNat
abbrev kG (x:Str) (st:Stmt) (z:Str) (n r:Nat):Obj:=kF x x st z n r
def KK (P:Params):Frag:=[(2,⟨.none,none,(.dict #[] 0),#[]⟩),
 (3,⟨(.type "dict"),none,(.dict #[(kH P "__name__" 165 (.str "law_pocketmill_k37_whole_rows_come_to" 662)),(kH P "__doc__" 166 .none),(kH P "__package__" 167 .none),(kH P "__loader__" 168 (.builtin "__main__.__loader__#opaque")),(kH P "__spec__" 169 .none),(kH P "__annotations__" 170 (.ref 6)),(kH P "__builtins__" 171 (.ref 4)),(kH P "__file__" 173 (.str "/claim/cut.py" 172)),(kH P "__cached__" 174 .none),(kH P "MillError" 206 (.ref 24)),(kH P "BadMill" 222 (.ref 37)),(kH P "BadLate" 238 (.ref 49)),(kH P "BadWord" 254 (.ref 61)),(kH P "BadCode" 270 (.ref 73)),(kH P "BadSize" 286 (.ref 85)),(kH P "BadLetters" 302 (.ref 97)),(kH P "BadPlan" 318 (.ref 109)),(kH P "BadRow" 334 (.ref 121)),(kH P "Shut" 350 (.ref 133)),(kH P "KINDS" 355 (.ref 136)),(kH P "MOST_PASSES" 357 (.int 6 356)),(kH P "MOST_POCKETS" 359 (.int 6 358)),(kH P "MOST_WIDTH" 361 (.int 9 360)),(kH P "MOST_CODES" 363 (.int 1000 362)),(kH P "MOST_SIZE" 365 (.int 9 364)),(kH P "is_within" 374 (.ref 143)),(kH P "is_size" 381 (.ref 150)),(kH P "is_pocket" 388 (.ref 157)),(kH P "is_pass" 394 (.ref 162)),(kH P "are_passes" 400 (.ref 167)),(kH P "codes_of" 409 (.ref 174)),(kH P "Mill" 450 (.ref 203)),(kH P "is_late" 458 (.ref 214)),(kH P "is_word" 464 (.ref 219)),(kH P "look_at_late" 472 (.ref 226)),(kH P "look_at_word" 481 (.ref 233)),(kH P "pockets_of" 487 (.ref 238)),(kH P "laid" 496 (.ref 245)),(kH P "code_word" 510 (.ref 252)),(kH P "fits" 516 (.ref 257)),(kH P "MOST_LETTERS" 520 (.int 24 519)),(kH P "is_letter" 528 (.ref 264)),(kH P "look_at_letters" 534 (.ref 269)),(kH P "is_word_for" 543 (.ref 276)),(kH P "look_at_plan" 549 (.ref 281)),(kH P "joining" 555 (.ref 286)),(kH P "filled" 561 (.ref 291)),(kH P "emptied" 572 (.ref 298)),(kH P "trays" 585 (.ref 305)),(kH P "end_row" 594 (.ref 312)),(kH P "sides_behind" 602 (.ref 317)),(kH P "open_sides" 614 (.ref 324)),(kH P "look_at_widths" 622 (.ref 329)),(kH P "is_row" 628 (.ref 334)),(kH P "faces" 634 (.ref 339)),(kH P "goes_on" 642 (.ref 346)),(kH P "stretches" 653 (.ref 353)),(kH P "come_to" 661 (.ref 360)),(kH P "_law_digits" 677 (.ref 367)),(kH P "_law_pocket" 684 (.ref 374)),(kH P "_law_passes" 690 (.ref 379)),(kH P "_law_faces" 696 (.ref 384)),(kH P "_law_line" 706 (.ref 391)),(kH P "_law_near_line" 712 (.ref 396)),(kH P "_law_any_line" 724 (.ref 403)),(kH P "_law_goes_on" 733 (.ref 410)),(kH P "_law_can" 747 (.ref 417)),(kH P "law" 753 (.ref 422))] 68),#[]⟩),
 (136,⟨(.type "tuple"),none,(.seq #[(.str "queue" 353),(.str "pile" 354)] 0),#[]⟩),
 (142,(kD "is_within" 366 29 3 137 372)),
 (143,(kG "is_within" dR mN3 351 142)),
 (149,(kD "is_size" 375 31 1 144 379)),
 (150,(kG "is_size" fS mN3 351 149)),
 (156,(kD "is_pocket" 382 33 1 151 386)),
 (157,(kG "is_pocket" dS mN3 351 156)),
 (161,(kE "is_pass" 389 37 1 158 392)),
 (162,(kG "is_pass" fP mN3 351 161)),
 (166,(kE "are_passes" 395 41 1 163 398)),
 (167,(kG "are_passes" dt mN3 351 166)),
 (173,(kD "codes_of" 401 45 1 168 407)),
 (174,(kG "codes_of" eT mN3 351 173)),
 (185,(kC "__init__" 422 "Mill.__init__" 423 424 52 2 0 0 3 182 181 183 .none .none .none (.ref 184) 425 52 426)),
 (186,(kF "__init__" "Mill.__init__" aT mN3 351 185)),
 (192,(kC "codes" 428 "Mill.codes" 429 430 57 1 0 0 3 187 181 188 .none (.ref 189) (.ref 190) (.ref 191) 432 57 433)),
 (193,(kF "codes" "Mill.codes" aY mN3 351 192)),
 (199,(kC "many" 435 "Mill.many" 436 437 60 1 0 0 3 194 181 195 .none (.ref 196) (.ref 197) (.ref 198) 439 60 440)),
 (200,(kF "many" "Mill.many" bj mN3 351 199)),
 (201,⟨(.type "tuple"),none,(.seq #[(.str "passes" 442)] 0),#[]⟩),
 (202,⟨(.type "dict"),none,(.dict #[(kH P "__module__" 417 (.str "pocketmill.mills" 351)),(kH P "__firstlineno__" 421 (.int 50 420)),(kH P "__init__" 427 (.ref 186)),(kH P "codes" 434 (.ref 193)),(kH P "many" 441 (.ref 200)),(kH P "__static_attributes__" 443 (.ref 201)),(kH P "__dict__" 445 (.ref 204)),(kH P "__weakref__" 447 (.ref 205)),(kH P "__doc__" 448 .none)] 4),#[]⟩),
 (203,⟨(.type "type"),none,(.cls ⟨"Mill",[(.type "object")],[(.ref 203),(.type "object")],202,"Mill",true,[],[],false,none,false⟩),#[none,none,(some (.str "Mill" 410)),(some (.str "Mill" 418)),(some (.builtin "object.__new__")),(some (.bool true))]⟩),
 (204,⟨(.type "getset_descriptor"),none,(.fields #[(.str "__dict__" 444),(.ref 203),(.builtin "function.__dict__"),(.builtin "function.__dict__#set")]),#[]⟩),
 (205,⟨(.type "getset_descriptor"),none,(.fields #[(.str "__weakref__" 446),(.ref 203),(.builtin "ExceptionGroup.__weakref__"),.none]),#[]⟩),
 (213,(kD "is_late" 451 62 2 208 456)),
 (214,(kG "is_late" fR mN3 351 213)),
 (218,(kE "is_word" 459 64 3 215 462)),
 (219,(kG "is_word" fT mN3 351 218)),
 (225,(kD "look_at_late" 465 69 2 220 470)),
 (226,(kG "look_at_late" cq mN3 351 225)),
 (232,(kD "look_at_word" 473 72 3 227 479)),
 (233,(kG "look_at_word" cu mN3 351 232)),
 (237,(kE "pockets_of" 482 76 3 234 485)),
 (238,(kG "pockets_of" dA mN3 351 237)),
 (244,(kD "laid" 488 78 3 239 494)),
 (245,(kG "laid" mL mN3 351 244)),
 (251,(kD "code_word" 497 80 3 246 508)),
 (252,(kG "code_word" dW mN3 351 251)),
 (256,(kE "fits" 511 95 4 253 514)),
 (257,(kG "fits" mO mN3 351 256)),
 (263,(kD "is_letter" 521 102 2 258 526)),
 (264,(kG "is_letter" dX mN4 517 263)),
 (268,(kE "look_at_letters" 529 106 2 265 532)),
 (269,(kG "look_at_letters" bD mN4 517 268)),
 (275,(kD "is_word_for" 535 111 3 270 541)),
 (276,(kG "is_word_for" cQ mN4 517 275)),
 (280,(kE "look_at_plan" 544 113 3 277 547)),
 (281,(kG "look_at_plan" cv mN4 517 280)),
 (285,(kE "joining" 550 119 2 282 553)),
 (286,(kG "joining" fU mN4 517 285)),
 (290,(kE "filled" 556 121 5 287 559)),
 (291,(kG "filled" gX mN4 517 290)),
 (297,(kD "emptied" 562 126 2 292 570)),
 (298,(kG "emptied" fW mN4 517 297)),
 (304,(kD "trays" 573 131 3 299 583)),
 (305,(kG "trays" jC mN4 517 304)),
 (311,(kD "end_row" 586 139 3 306 592)),
 (312,(kG "end_row" fX mN4 517 311)),
 (316,(kE "sides_behind" 597 142 4 313 600)),
 (317,(kG "sides_behind" cy mN2 595 316)),
 (323,(kD "open_sides" 603 149 3 318 612)),
 (324,(kG "open_sides" dB mN2 595 323)),
 (328,(kE "look_at_widths" 617 157 1 325 620)),
 (329,(kG "look_at_widths" bL mN1 615 328)),
 (333,(kE "is_row" 623 161 1 330 626)),
 (334,(kG "is_row" gY mN1 615 333)),
 (338,(kE "faces" 629 165 1 335 632)),
 (339,(kG "faces" jF mN1 615 338)),
 (345,(kD "goes_on" 635 168 2 340 640)),
 (346,(kG "goes_on" fY mN1 615 345)),
 (352,(kD "stretches" 643 170 2 347 651)),
 (353,(kG "stretches" dY mN1 615 352)),
 (359,(kD "come_to" 654 183 2 354 659)),
 (360,(kG "come_to" fZ mN1 615 359)),
 (366,(kD "_law_digits" 664 186 2 361 675)),
 (367,(kG "_law_digits" cR mN0 662 366)),
 (373,(kD "_law_pocket" 678 204 1 368 682)),
 (374,(kG "_law_pocket" cU mN0 662 373)),
 (378,(kE "_law_passes" 685 206 1 375 688)),
 (379,(kG "_law_passes" cV mN0 662 378)),
 (383,(kE "_law_faces" 691 216 1 380 694)),
 (384,(kG "_law_faces" dC mN0 662 383)),
 (390,(kD "_law_line" 697 236 2 385 704)),
 (391,(kG "_law_line" dZ mN0 662 390)),
 (395,(kE "_law_near_line" 707 241 3 392 710)),
 (396,(kG "_law_near_line" bM mN0 662 395)),
 (402,(kD "_law_any_line" 713 251 2 397 722)),
 (403,(kG "_law_any_line" b9 mN0 662 402)),
 (409,(kD "_law_goes_on" 725 261 3 404 731)),
 (410,(kG "_law_goes_on" cz mN0 662 409)),
 (416,(kD "_law_can" 734 265 2 411 745)),
 (417,(kG "_law_can" eU mN0 662 416)),
 (421,(kE "law" 748 279 1 418 751)),
 (422,(kG "law" iW mN0 662 421))]
noncomputable def adr:List Addr:=[2,3,136,142,143,149,150,156,157,161,162,166,167,173,174,185,186,192,193,199,200,201,202,203,204,205,213,214,218,219,225,226,232,233,237,238,244,245,251,252,256,257,263,264,268,269,275,276,280,281,285,286,290,291,297,298,304,305,311,312,316,317,323,324,328,329,333,334,338,339,345,346,352,353,359,360,366,367,373,374,378,379,383,384,390,391,395,396,402,403,409,410,416,417,421,422]
theorem adr_ok (P:Params):adr=(KK P).map (·.1):=by kernel_rfl
noncomputable abbrev NN:Nat:=7542
noncomputable def env0:Env:={scope:=PySem.Challenge.pw_pocketmill_k37_whole_rows_come_to.main.scope,locals:=mainNs,globals:=mainNs,cells:=[],code:=(.ref 13),frame:=some 14}
theorem IJ:∀w:World,(PySem.W.fencedOpening treeTable PySem.Challenge.pw_pocketmill_k37_whole_rows_come_to w NN).map (λs=>(s.heap,s.gens,s.drawn,s.toks))=some (PySem.W.boot_heap w.params,Array.mk [],PySem.W.boot_drawn,PySem.W.boot_toks):=PySem.W.boot_open (!5) (!4) (λs=>by kernel_rfl)
theorem IK (w:World):(PySem.W.boot_heap w.params).isNs mainGlobals=true/\(PySem.W.boot_heap w.params).objs.size=11/\(PySem.W.boot_heap w.params).nsMap mainGlobals "__annotations__"=(some (.ref 6)):=⟨by kernel_rfl,by kernel_rfl,by kernel_rfl⟩
theorem t_A (w:World) (os:OsState):(HD.A PySem.Challenge.pw_pocketmill_k37_whole_rows_come_to 11 (some (.ref 6)) 12 w os).map (·.2)=some ⟨denote treeTable (HD.cd PySem.Challenge.pw_pocketmill_k37_whole_rows_come_to env0),HD.cd PySem.Challenge.pw_pocketmill_k37_whole_rows_come_to env0,⟨0,0,0,0⟩,[PySem.W.topFrame ⟨0,0,0,0⟩]⟩:=by kernel_rfl
theorem t_B (w:World) (os:OsState):(HD.B PySem.Challenge.pw_pocketmill_k37_whole_rows_come_to 11 ((some (.ref 6))) env0 ⟨0,0,0,0⟩ ⟨0,0,0,0⟩ 12 1 w os).map (λr=>(r.1,r.2.2))=some (.next,HD.cd PySem.Challenge.pw_pocketmill_k37_whole_rows_come_to env0,⟨0,0,0,0⟩):=by kernel_rfl
theorem t_T (w:World) (os:OsState):(HD.toT (HD.SB PySem.Challenge.pw_pocketmill_k37_whole_rows_come_to 11 ((some (.ref 6))) env0 ⟨0,0,0,0⟩ ⟨0,0,0,0⟩ 12 1 w os)).abs=HD.SB PySem.Challenge.pw_pocketmill_k37_whole_rows_come_to 11 ((some (.ref 6))) env0 ⟨0,0,0,0⟩ ⟨0,0,0,0⟩ 12 1 w os:=by kernel_rfl
theorem t_C (w:World) (os:OsState):(HD.C PySem.Challenge.pw_pocketmill_k37_whole_rows_come_to 11 ((some (.ref 6))) env0 ⟨0,0,0,0⟩ ⟨0,0,0,0⟩ ⟨0,0,0,0⟩ 12 1 3709 w os).map (λr=>(r.1,r.2.2))=some (.next,HD.cd PySem.Challenge.pw_pocketmill_k37_whole_rows_come_to env0,⟨279,0,295,67⟩):=by kernel_rfl
theorem t_F (w:World) (s:Shared):PySem.W.topRun treeTable PySem.Challenge.pw_pocketmill_k37_whole_rows_come_to w 11 (some (.ref 6)) 2 s ⟨PySem.W.doneF .next,HD.cd PySem.Challenge.pw_pocketmill_k37_whole_rows_come_to env0,⟨279,0,295,67⟩,[PySem.W.topFrame ⟨0,0,0,0⟩]⟩=some s:=by kernel_rfl
noncomputable abbrev FF (w:World) (os:OsState):Shared:=(HD.SC PySem.Challenge.pw_pocketmill_k37_whole_rows_come_to 11 ((some (.ref 6))) env0 ⟨0,0,0,0⟩ ⟨0,0,0,0⟩ ⟨0,0,0,0⟩ 12 1 3709 w os).abs
abbrev XT (s:Shared):Bool:=PySem.W.xlAt Q [] s&&PySem.W.recOk PySem.Challenge.rw_pocketmill_k37_whole_rows_come_to.row.records s
theorem Nk (w:World) (os:OsState):(PySem.W.staticsOk (importedModules PySem.Challenge.pw_pocketmill_k37_whole_rows_come_to.main.body) (PySem.W.boot_heap w.params) (FF w os).heap&&PySem.W.namesBound PySem.Challenge.pw_pocketmill_k37_whole_rows_come_to (FF w os).heap&&PySem.W.gensDone (FF w os)&&PySem.W.laidKept (PySem.W.boot_heap w.params) (FF w os).heap)=true:=by
 rw[PySem.W.Fast.te5923862056798008813];kernel_rfl
theorem Nl (w:World) (os:OsState):PySem.W.openSeen Q [] (importedModules PySem.Challenge.pw_pocketmill_k37_whole_rows_come_to.main.body) XT true (FF w os)=PySem.W.openGood Q []:=by
 rw[PySem.W.Fast.te5923862056798008813,PySem.W.Fast.te4187177175401517315];kernel_rfl
theorem Nm (w:World) (os:OsState):adr.map (FF w os).heap.get?=(KK w.params).map λp=>some p.2:=by kernel_rfl
theorem t_left:PySem.W.LeftO PySem.Challenge.pw_pocketmill_k37_whole_rows_come_to Q [] XT (PySem.W.Hook.obs (PySem.W.kHook KK adr adr_ok)) (PySem.W.Hook.val (PySem.W.kHook KK adr adr_ok)) NN:=
 HD.left_of IJ IK (HD.run_of t_A t_B t_T t_C t_F) (!4) λw os=>by rw[Nk,Nl];exact congrArg (λz=>(true,PySem.W.openGood Q [],z)) (Nm w os)
theorem iX (P:Params):m8 (KK P) "Mill" "__init__" "Mill.__init__" aT:=HQ (Ca:=203) (f:=186) (oc:=(.type "function")) (od:=none) (an:=none) (osl:=#[]) (kV:=.none) (doc:=.none) (pm:=(.str "pocketmill.mills" 351)) (cdv:=(.ref 185)) (ct:=.none) (!5) (!5) (!5) (!5) (!5) (!5)
theorem mT (P:Params):m8 (KK P) "Mill" "codes" "Mill.codes" aY:=HQ (Ca:=203) (f:=193) (oc:=(.type "function")) (od:=none) (an:=none) (osl:=#[]) (kV:=.none) (doc:=.none) (pm:=(.str "pocketmill.mills" 351)) (cdv:=(.ref 192)) (ct:=.none) (!5) (!5) (!5) (!5) (!5) (!5)
theorem nD (P:Params):m8 (KK P) "Mill" "many" "Mill.many" bj:=HQ (Ca:=203) (f:=200) (oc:=(.type "function")) (od:=none) (an:=none) (osl:=#[]) (kV:=.none) (doc:=.none) (pm:=(.str "pocketmill.mills" 351)) (cdv:=(.ref 199)) (ct:=.none) (!5) (!5) (!5) (!5) (!5) (!5)
theorem tx (P:Params):Tx (KK P):=⟨tdG 143 mN3 351 142,tdG 157 mN3 351 156,tdG 162 mN3 351 161,tdG 174 mN3 351 173,tdG 167 mN3 351 166,tdG 214 mN3 351 213,tdG 226 mN3 351 225,tdG 245 mN3 351 244,tdG 252 mN3 351 251,tdG 150 mN3 351 149,tdG 264 mN4 517 263,tdG 269 mN4 517 268,tdG 219 mN3 351 218,tdG 233 mN3 351 232,tdG 238 mN3 351 237,tdG 257 mN3 351 256,tdG 276 mN4 517 275,tdG 281 mN4 517 280,tdG 286 mN4 517 285,tdG 291 mN4 517 290,tdG 298 mN4 517 297,tdG 305 mN4 517 304,tdG 312 mN4 517 311,tdG 334 mN1 615 333,tdG 317 mN2 595 316,tdG 324 mN2 595 323,tdG 329 mN1 615 328,tdG 339 mN1 615 338,tdG 346 mN1 615 345,tdG 353 mN1 615 352,tdG 360 mN1 615 359,tdG 367 mN0 662 366,tdG 374 mN0 662 373,tdG 379 mN0 662 378,tdG 384 mN0 662 383,tdG 391 mN0 662 390,tdG 396 mN0 662 395,tdG 403 mN0 662 402,tdG 410 mN0 662 409,tdG 417 mN0 662 416,tdG 422 mN0 662 421,iX P,mT P,nD P,MV (Ca:=203) (!5) (!5) (!5) (!5) (!5) (!5) (!5),tno (Ca:=203) (!5) (!5),KJ (a:=136) (od:=none) (n:=0) (sl:=#[]) (t0:=353) (t1:=354) (!5) (!5),xt (t:=356) (!5),xt (t:=358) (!5),xt (t:=360) (!5),xt (t:=362) (!5),xt (t:=364) (!5),xt (t:=519) (!5),(!5),(!5),(!5),(!5),(!5),(!5),(!5),(!5),(!5),(!5),(!5),(!5),(!5),(!5),(!5)⟩
section
variable {P:Program} {w:World} {K:Frag} {mg:Str->NM} {base h:Heap}
theorem gF {st} (z:K.In h/\h.Ns mainGlobals mg/\Tx K) (g:GbOk P w K mg base G) (k:Nat) (t:aO K x st) (S:FnScope N ps (am st):=by exact scB) (b:bU x st ps:=by first|exact bd1 rfl λ_ _ _ _ _ _ _ _=>rfl|exact bd2 rfl λ_ _ _ _ _ _ _ _ _=>rfl|exact bd3 rfl λ_ _ _ _ _ _ _ _ _ _=>rfl|exact bd4 rfl λ_ _ _ _ _ _ _ _ _ _ _=>rfl|exact bd5 rfl λ_ _ _ _ _ _ _ _ _ _ _ _=>rfl):GbOk P w K mg base (addF G x (k+1) (dfn 60 k N ps st G)):=g.addF (Kx g z.1 z.2.1 60 k S b t)
variable (z:K.In h/\h.Ns mainGlobals mg/\Tx K)
include z
theorem g0:GbOk P w K mg base G0 where
 fn:=λx k f e=>nomatch e
 cn:=λx d e=>by
  simp only[G0]at e;split at e
  ·rename_i q;cases e;rw[q];exact cn_2str z.1 z.2.1 z.2.2.v46
  split at e
  ·rename_i q;cases e;rw[q];exact cn_int z.1 z.2.1 z.2.2.v47
  split at e
  ·rename_i q;cases e;rw[q];exact cn_int z.1 z.2.1 z.2.2.v48
  split at e
  ·rename_i q;cases e;rw[q];exact cn_int z.1 z.2.1 z.2.2.v49
  split at e
  ·rename_i q;cases e;rw[q];exact cn_int z.1 z.2.1 z.2.2.v50
  split at e
  ·rename_i q;cases e;rw[q];exact cn_int z.1 z.2.1 z.2.2.v51
  split at e
  ·rename_i q;cases e;rw[q];exact cn_int z.1 z.2.1 z.2.2.v52
  cases e
 no:=λx e=>by
  dsimp only[G0]at e;by_cases q:x=("all":Str)
  ·rw[q];exact PySem.W.mg_none_of z.1 z.2.1 z.2.2.v53
  rw[if_neg q]at e;clear q;by_cases q:x=("any":Str)
  ·rw[q];exact PySem.W.mg_none_of z.1 z.2.1 z.2.2.v54
  rw[if_neg q]at e;clear q;by_cases q:x=("bool":Str)
  ·rw[q];exact PySem.W.mg_none_of z.1 z.2.1 z.2.2.v55
  rw[if_neg q]at e;clear q;by_cases q:x=("enumerate":Str)
  ·rw[q];exact PySem.W.mg_none_of z.1 z.2.1 z.2.2.v56
  rw[if_neg q]at e;clear q;by_cases q:x=("int":Str)
  ·rw[q];exact PySem.W.mg_none_of z.1 z.2.1 z.2.2.v57
  rw[if_neg q]at e;clear q;by_cases q:x=("isinstance":Str)
  ·rw[q];exact PySem.W.mg_none_of z.1 z.2.1 z.2.2.v58
  rw[if_neg q]at e;clear q;by_cases q:x=("len":Str)
  ·rw[q];exact PySem.W.mg_none_of z.1 z.2.1 z.2.2.v59
  rw[if_neg q]at e;clear q;by_cases q:x=("list":Str)
  ·rw[q];exact PySem.W.mg_none_of z.1 z.2.1 z.2.2.v60
  rw[if_neg q]at e;clear q;by_cases q:x=("max":Str)
  ·rw[q];exact PySem.W.mg_none_of z.1 z.2.1 z.2.2.v61
  rw[if_neg q]at e;clear q;by_cases q:x=("min":Str)
  ·rw[q];exact PySem.W.mg_none_of z.1 z.2.1 z.2.2.v62
  rw[if_neg q]at e;clear q;by_cases q:x=("range":Str)
  ·rw[q];exact PySem.W.mg_none_of z.1 z.2.1 z.2.2.v63
  rw[if_neg q]at e;clear q;by_cases q:x=("reversed":Str)
  ·rw[q];exact PySem.W.mg_none_of z.1 z.2.1 z.2.2.v64
  rw[if_neg q]at e;clear q;by_cases q:x=("sorted":Str)
  ·rw[q];exact PySem.W.mg_none_of z.1 z.2.1 z.2.2.v65
  rw[if_neg q]at e;clear q;by_cases q:x=("tuple":Str)
  ·rw[q];exact PySem.W.mg_none_of z.1 z.2.1 z.2.2.v66
  rw[if_neg q]at e;clear q;by_cases q:x=("zip":Str)
  ·rw[q];exact PySem.W.mg_none_of z.1 z.2.1 z.2.2.v67
  rw[if_neg q]at e;clear q;cases e
 fl:=λC m Ca e hc=>by
  simp only[G0]at e;split at e
  ·rename_i q;rw[q.1]at hc;exact⟨Dy z.2.2.v44 hc,fl_one z.2.2.v45 q.2 Ca hc⟩
  cases e
 mt:=λm C k f e=>nomatch e
 ini:=λC k g e=>nomatch e
theorem g1:GbOk P w K mg base G1:=gF z (g0 z) 0 z.2.2.v0
theorem g2:GbOk P w K mg base G2:=gF z (g1 z) 1 z.2.2.v1
theorem g3:GbOk P w K mg base G3:=gF z (g2 z) 2 z.2.2.v2
theorem g4:GbOk P w K mg base G4:=gF z (g3 z) 3 z.2.2.v3
theorem g5:GbOk P w K mg base G5:=gF z (g4 z) 4 z.2.2.v4
theorem g6:GbOk P w K mg base G6:=by
 have g:GbOk P w K mg base G5:=g5 z;exact g.addI (Ky g z.1 z.2.1 60 5 (G0.fl "Mill") gW iR z.2.2.v44 z.2.2.v41 (λf e=>by
  simp only[G0]at e;split at e
  ·rename_i q;exact fl_one z.2.2.v45 q.2
  cases e) (λds r hr y=>by
  exact uq ds r hr y))
theorem g7:GbOk P w K mg base G7:=by
 have g:GbOk P w K mg base G6:=g6 z;exact g.addM (EQ g 60 6 kl mJ z.2.2.v44 z.2.2.v42)
theorem g8:GbOk P w K mg base G8:=by
 have g:GbOk P w K mg base G7:=g7 z;exact g.addM (EQ g 60 7 mK nq z.2.2.v44 z.2.2.v43)
theorem g9:GbOk P w K mg base G9:=gF z (g8 z) 8 z.2.2.v5
theorem g10:GbOk P w K mg base G10:=gF z (g9 z) 9 z.2.2.v6
theorem g11:GbOk P w K mg base G11:=gF z (g10 z) 10 z.2.2.v7
theorem g12:GbOk P w K mg base G12:=gF z (g11 z) 11 z.2.2.v8
theorem g13:GbOk P w K mg base G13:=gF z (g12 z) 12 z.2.2.v9
theorem g14:GbOk P w K mg base G14:=gF z (g13 z) 13 z.2.2.v10
theorem g15:GbOk P w K mg base G15:=gF z (g14 z) 14 z.2.2.v11
theorem g16:GbOk P w K mg base G16:=gF z (g15 z) 15 z.2.2.v12
theorem g17:GbOk P w K mg base G17:=gF z (g16 z) 16 z.2.2.v13
theorem g18:GbOk P w K mg base G18:=gF z (g17 z) 17 z.2.2.v14
theorem g19:GbOk P w K mg base G19:=gF z (g18 z) 18 z.2.2.v15
theorem g20:GbOk P w K mg base G20:=gF z (g19 z) 19 z.2.2.v16
theorem g21:GbOk P w K mg base G21:=gF z (g20 z) 20 z.2.2.v17
theorem g22:GbOk P w K mg base G22:=gF z (g21 z) 21 z.2.2.v18
theorem g23:GbOk P w K mg base G23:=gF z (g22 z) 22 z.2.2.v19
theorem g24:GbOk P w K mg base G24:=gF z (g23 z) 23 z.2.2.v20
theorem g25:GbOk P w K mg base G25:=gF z (g24 z) 24 z.2.2.v21
theorem g26:GbOk P w K mg base G26:=gF z (g25 z) 25 z.2.2.v22
theorem g27:GbOk P w K mg base G27:=gF z (g26 z) 26 z.2.2.v23
theorem g28:GbOk P w K mg base G28:=gF z (g27 z) 27 z.2.2.v24
theorem g29:GbOk P w K mg base G29:=gF z (g28 z) 28 z.2.2.v25
theorem g30:GbOk P w K mg base G30:=gF z (g29 z) 29 z.2.2.v26
theorem g31:GbOk P w K mg base G31:=gF z (g30 z) 30 z.2.2.v27
theorem g32:GbOk P w K mg base G32:=gF z (g31 z) 31 z.2.2.v28
theorem g33:GbOk P w K mg base G33:=gF z (g32 z) 32 z.2.2.v29
theorem g34:GbOk P w K mg base G34:=gF z (g33 z) 33 z.2.2.v30
theorem g35:GbOk P w K mg base G35:=gF z (g34 z) 34 z.2.2.v31
theorem g36:GbOk P w K mg base G36:=gF z (g35 z) 35 z.2.2.v32
theorem g37:GbOk P w K mg base G37:=gF z (g36 z) 36 z.2.2.v33
theorem g38:GbOk P w K mg base G38:=gF z (g37 z) 37 z.2.2.v34
theorem g39:GbOk P w K mg base G39:=gF z (g38 z) 38 z.2.2.v35
theorem g40:GbOk P w K mg base G40:=gF z (g39 z) 39 z.2.2.v36
theorem g41:GbOk P w K mg base G41:=gF z (g40 z) 40 z.2.2.v37
theorem g42:GbOk P w K mg base G42:=gF z (g41 z) 41 z.2.2.v38
theorem g43:GbOk P w K mg base G43:=gF z (g42 z) 42 z.2.2.v39
end
theorem fin {K} (X:K.In h) (hN:h.Ns mainGlobals mg) (hfa:mg "law"=some (.ref fa)) (T:Tx K):
  ∃fd:FuncData,(∀ (s:Shared) (v:Value),BindsTo s fd ⟨[v],[]⟩ [("script",v)])/\∀base:Heap,K.In base->base.Ns mainGlobals mg->FnOk P w K mg base CX0 44 fa fd ["script"] (spL K):=
 HP 60 43 X hN hfa Bw Ee T.v40 (λbase KB hB=>g43 ⟨KB,hB,T⟩) Ll
end K20
open PySem PySem.W PyProof.Rows
set_option maxRecDepth 100000 in
set_option maxHeartbeats 0 in
theorem PySem.Challenge.cw_pocketmill_k37_whole_rows_come_to_holds : PySem.Challenge.rw_pocketmill_k37_whole_rows_come_to.Holds := by
  refine holds_law (!5) fun said=>?_
  refine holds_open (q:=K20.Q) (loose:=[]) (Xt:=K20.XT) (XP:=XL K20.Q []) (Yf:=Hook.obs (kHook K20.KK K20.adr K20.adr_ok)) (Ya:=Hook.val (kHook K20.KK K20.adr K20.adr_ok)) (YP:=Hook.says (kHook K20.KK K20.adr K20.adr_ok)) (N:=K20.NN) K20.t_left (Hook.of _) (Hook.keeps _) (fun s e=>xl_of s (Bool.and_eq_true_iff.mp e).1) XL.keeps (by rfl) (by rfl) (by rfl) (fun s e=>recFacts_of (Bool.and_eq_true_iff.mp e).2) (by rfl) (by first | assumption | decide +kernel) (by decide +kernel) ⟨rfl,rfl,rfl,rfl,rfl,by decide +kernel⟩ ?hw ?hc
  case hw=>w_witness2
  case hc =>
  refine L2.walkL (l:=PySem.Challenge.rw_pocketmill_k37_whole_rows_come_to) (k:=44) rfl rfl ⟨rfl,by decide,by decide⟩ (fun w h σ=>PySem.W.kIn_of σ) ?F
  case F =>
  intro w mg fa h KX G hmg
  exact K20.fin KX G hmg (K20.tx w.params)
#print axioms PySem.Challenge.cw_pocketmill_k37_whole_rows_come_to_holds
