import PyProof.Rows.All
import Wide.All
import OpenK.AllK
import Wide.FinOn
import Lean
import PyProof.EqAt
import PyProof.EqKinds
import PyProof.TupleCall
import PySem.Challenge.RW_pocketmill_k46_whole_put_into_queues
set_option compiler.extract_closed false
set_option genSizeOf false
set_option bootstrap.genMatcherCode false
set_option Elab.async false
set_option linter.all false
set_option maxRecDepth 100000
open List (length_map set_cons_succ set_cons_zero size_toArray getElem?_map getElem?_eq_getElem mem_cons_self mem_cons_of_mem mem_append_right length_append mem_of_getElem? length_range getElem?_append_left mem_singleton length_cons mem_append getElem?_append_right mem_cons mem_append_left)
open Option (map_some)
open PySem.W (nsIn findIn Frag)
open Bool (and_eq_true)
open Nat (lt_of_lt_of_le le_refl lt_of_le_of_lt)
namespace L2
open PySem PySem.Spec PyProof.Rows
abbrev Key:=Sum Int Str
def keyIs:Key->Value->Bool
 |.inl k,v=>Value.isInt k v
 |.inr x,v=>Value.isStrOf x v
def K6 (w:World):Key->Int
 |.inl k=>hashInt k
 |.inr x=>hashStr w x
theorem keyIs_shape:∀ {k:Key} {v:Value},keyIs k v=true->(∃i t,k=Sum.inl i/\v=Value.int i t)\/(∃x t,k=Sum.inr x/\v=Value.str x t)
 |.inl i,v,h=>by
  obtain⟨t,e⟩:=Value.isInt_shape (k:=i) (v:=v) h;exact .inl ⟨i,t,rfl,e⟩
 |.inr x,v,h=>by
  obtain⟨t,e⟩:=Value.isStrOf_shape (x:=x) (v:=v) h;exact .inr ⟨x,t,rfl,e⟩
theorem wG (i:Int) (t:Tok):keyIs (.inl i) (.int i t)=true:=by simp[keyIs,Value.isInt]
theorem wH (x:Str) (t:Tok):keyIs (.inr x) (.str x t)=true:=by simp[keyIs,Value.isStrOf]
theorem Ek (a b:Int):decide ((Sum.inl a:Key)=Sum.inl b)=(a==b):=by
 by_cases e:a=b
 ·subst e;simp
 ·have h:¬ (Sum.inl a:Key)=Sum.inl b:=λq=>e (Sum.inl.inj q);rw[decide_eq_false h];exact(beq_eq_false_iff_ne.mpr e).symm
theorem El (a b:Str):decide ((Sum.inr a:Key)=Sum.inr b)=decide (a=b):=by
 by_cases e:a=b
 ·subst e;simp
 ·have h:¬ (Sum.inr a:Key)=Sum.inr b:=λq=>e (Sum.inr.inj q);rw[decide_eq_false h,decide_eq_false e]
theorem Em (a:Int) (b:Str):decide ((Sum.inl a:Key)=Sum.inr b)=false:=decide_eq_false (λq=>nomatch q)
theorem Eo (a:Str) (b:Int):decide ((Sum.inr a:Key)=Sum.inl b)=false:=decide_eq_false (λq=>nomatch q)
def cR (prog:Program) (w:World):PySem.KeyKind prog w Key where
 is:=keyIs
 hash:=K6 w
 inj:=λv a b ha hb=>by
  rcases keyIs_shape ha with⟨i,t,rfl,rfl⟩|⟨x,t,rfl,rfl⟩
  ·rcases keyIs_shape hb with⟨j,u,rfl,e⟩|⟨y,u,rfl,e⟩
   ·injection e with e1 _;rw[e1]
   ·exact nomatch e
  ·rcases keyIs_shape hb with⟨j,u,rfl,e⟩|⟨y,u,rfl,e⟩
   ·exact nomatch e
   ·injection e with e1 _;rw[e1]
 byValue:=λk v h=>by
  rcases keyIs_shape h with⟨i,t,rfl,rfl⟩|⟨x,t,rfl,rfl⟩<;>rfl
 pyHash:=λhv h=>by
  rcases keyIs_shape hv with⟨i,t,rfl,rfl⟩|⟨x,t,rfl,rfl⟩
  ·exact wpAny_pyHash_int h
  ·exact wpAny_pyHash_str h
 eqBool:=λhu hv h=>by
  rcases keyIs_shape hu with⟨i,t,rfl,rfl⟩|⟨x,t,rfl,rfl⟩
  ·rcases keyIs_shape hv with⟨j,u,rfl,rfl⟩|⟨y,u,rfl,rfl⟩
   ·rw[Ek]at h;exact wpAny_eqBool_int h
   ·rw[Em]at h;exact SeqAt.EqAt.int_str i t y u _ _ _ _ h
  ·rcases keyIs_shape hv with⟨j,u,rfl,rfl⟩|⟨y,u,rfl,rfl⟩
   ·rw[Eo]at h;exact SeqAt.EqAt.str_int x t j u _ _ _ _ h
   ·rw[El]at h;exact wpAny_eqBool_str h
 «strs»:=λk x t v h=>by
  rcases keyIs_shape h with⟨i,u,rfl,e⟩|⟨y,u,rfl,e⟩
  ·exact nomatch e
  ·injection e with e1 _;subst e1;cases v<;>rfl
theorem qV (prog:Program) (w:World) (i:Int) (t:Tok):(cR prog w).is (.inl i) (.int i t)=true:=wG i t
theorem qW (prog:Program) (w:World) (x:Str) (t:Tok):(cR prog w).is (.inr x) (.str x t)=true:=wH x t
inductive V where
 |non|bl (b:Bool)|int (i:Int)|str (x:Str)|byt (b:Array UInt8)|flt (b:UInt64)|ref (a:Addr)|ty (n:String)
 deriving DecidableEq
def RelV:V->Value->Prop
 |.non,u=>u=Value.none
 |.bl b,u=>u=Value.bool b
 |.int i,u=>∃t,u=Value.int i t
 |.str x,u=>∃t,u=Value.str x t
 |.byt b,u=>∃t,u=Value.bytes b t
 |.flt b,u=>∃t,u=Value.float b t
 |.ref a,u=>u=Value.ref a
 |.ty n,u=>u=Value.type n
abbrev Vals:List V->List Value->Prop:=Paired RelV
theorem Vals.length (r:Vals xs us):xs.length=us.length:=Paired.length r
theorem Vals.get:∀ {xs:List V} {us:List Value} {i:Nat} {x:V},Vals xs us->xs[i]?=some x->∃u,us[i]?=some u/\RelV x u
 |_,_,_,_,.nil,e=>by simp at e
 |_,_,0,_,.cons r _,e=>by simp at e;subst e;exact⟨_,rfl,r⟩
 |_,_,i+1,x,.cons _ t,e=>by
  obtain⟨u,h1,h2⟩:=Vals.get (i:=i) (x:=x) t (by simpa using e);exact⟨u,by simpa using h1,h2⟩
theorem Vals.set (r:RelV x u):∀ {xs:List V} {us:List Value} (i:Nat),Vals xs us->Vals (xs.set i x) (us.set i u)
 |_,_,_,.nil=>.nil
 |_,_,0,.cons _ t=>.cons r t
 |_,_,i+1,.cons q t=>.cons q (Vals.set r i t)
theorem Vals.append:∀ {xs ys:List V} {us ws:List Value},Vals xs us->Vals ys ws->Vals (xs++ys) (us++ws)
 |_,_,_,_,.nil,s=>s
 |_,_,_,_,.cons r t,s=>.cons r (Vals.append t s)
theorem Vals.take:∀ {xs:List V} {us:List Value} (n:Nat),Vals xs us->Vals (xs.take n) (us.take n)
 |_,_,0,_=>.nil
 |_,_,_+1,.nil=>.nil
 |_,_,n+1,.cons r t=>.cons r (Vals.take n t)
theorem Vals.drop:∀ {xs:List V} {us:List Value} (n:Nat),Vals xs us->Vals (xs.drop n) (us.drop n)
 |_,_,0,r=>r
 |_,_,_+1,.nil=>.nil
 |_,_,n+1,.cons _ t=>Vals.drop n t
def RelO:Option V->Option Value->Prop
 |some v,some u=>RelV v u
 |none,none=>True
 |_,_=>False
def KV {κ:Type}:List (κ×V)->List (κ×Value)->Prop:=Paired λ(p:κ×V) (q:κ×Value)=>p.1=q.1/\RelV p.2 q.2
def kV:Key->V
 |.inl i=>.int i
 |.inr x=>.str x
inductive HO where
 |lst (xs:List V)
 |tup (xs:List V)
 |dK (kvs:List (Key×V))|dT (kvs:List (List Key×V))
 |set (S:Int->Bool) (n:Nat)
 |ins (C dx:Addr) (fs:List (Str×V))
 |own (x:Addr)
 |xd (fs:List (Str×V))
 |met (f x:Addr)
 |rng (lo hi:Int)
 |frz (o:Obj) (u:HO)
 |tbl (ps:Array Value)
 |ext (φ:Heap->Prop)
abbrev Hp:=Addr->Option HO
def upd (H:Hp) (a:Addr) (o:HO):Hp:=λb=>if b=a then some o else H b
theorem ar:upd H a o a=some o:=by unfold upd;rw[if_pos rfl]
theorem au (h:b≠a):upd H a o b=H b:=by unfold upd;rw[if_neg h]
theorem Bq:upd (upd H a o) a u=upd H a u:=by
 funext b;unfold upd;split<;>rfl
theorem aH {H:Hp} (h:H a=some o) (h':H b=none):a≠b:=by
 intro e;subst e;rw[h]at h';cases h'
section
variable (P:Program) (w:World)
def ObjOk (H:Hp) (h:Heap) (a:Addr):HO->Prop
 |.lst xs=>xs.length<=sizeLine/\∃ (its:List Value) (n:Nat),Vals xs its/\h.get? a=some {cls:=.type "list",data:=.seq its.toArray n}
 |.tup xs=>xs.length<=sizeLine/\∃its:List Value,Vals xs its/\IsTup h a its.toArray
 |.dK kvs=>kvs.length<=sizeLine/\(a==sysModules)=false/\∃vs,KV kvs vs/\h.DictOf (cR P w) a vs
 |.dT kvs=>kvs.length<=sizeLine/\(a==sysModules)=false/\∃xs:List (List Key×Addr×Value),
  Paired (λ(p:List Key×V) (q:List Key×Addr×Value)=>p.1=q.1/\H q.2.1=some (.tup (p.1.map kV))/\RelV p.2 q.2.2) kvs xs/\
  ∃o es ep,h.get? a=some o/\o.ExactDict/\o.data=.dict es ep/\es.toList=xs.map (entryOfKey (tupleKind (cR P w)))/\(xs.map (·.1)).Nodup
 |.set S n=>h.SetOf (intKind P w) a S n
 |.ins C dx fs=>H dx=some (.own a)/\fs.length<=1000/\dx≠a/\h.get? a=some (PySem.W.instObj C dx)/\
  ∃mA,h.Ns1 dx mA/\(∀f,RelO (fs.lookup f) (mA f))/\PySem.Within mA (fs.map (·.1))
 |.own _=>∃o,h.get? a=some o
 |.xd fs=>∃mA,h.Ns1 a mA/\∀f,RelO (fs.lookup f) (mA f)
 |.rng lo hi=>∃t u v,h.get? a=some {cls:=.type "range",data:=.fields #[.int lo t,.int hi u,.int 1 v]}
 |.frz o u=>h.get? a=some o/\ObjOk H h a u
 |.tbl ps=>h.get? a=some {cls:=.none,data:=.fields ps}
 |.met f x=>h.get? a=some (PySem.W.methodObj (.ref f) (.ref x))
 |.ext φ=>φ h/\(∃o,h.get? a=some o)/\∀h1 h2:Heap,φ h1->(∀o,h1.get? a=some o->h2.get? a=some o)->φ h2
def HOk (H:Hp) (h:Heap):Prop:=∀a o,H a=some o->ObjOk P w H h a o
end
section
variable {P:Program} {w:World} {H H':Hp} {h h':Heap} {a:Addr} {o:HO}
theorem ObjOk.lt (x:ObjOk P w H h a o):a<h.objs.size:=by
 cases o with
 |lst xs=>obtain⟨_,_,_,_,e⟩:=x;exact Heap.lt_size e
 |tup xs=>obtain⟨_,_,_,p⟩:=x;exact p.lt
 |dK kvs=>obtain⟨_,_,_,_,o,_,_,e,_⟩:=x;exact Heap.lt_size e
 |dT kvs=>obtain⟨_,_,_,_,o,_,_,e,_⟩:=x;exact Heap.lt_size e
 |set S n=>obtain⟨o,_,_,_,e,_⟩:=x;exact Heap.lt_size e
 |ins C dx fs=>obtain⟨_,_,_,e,_⟩:=x;exact Heap.lt_size e
 |own y=>obtain⟨_,e⟩:=x;exact Heap.lt_size e
 |xd fs=>obtain⟨_,⟨_,_,_,e,_⟩,_⟩:=x;exact Heap.lt_size e
 |rng lo hi=>obtain⟨_,_,_,e⟩:=x;exact Heap.lt_size e
 |frz ob u=>obtain⟨e,_⟩:=x;exact Heap.lt_size e
 |tbl ps=>exact Heap.lt_size (show h.get? a=some _ from x)
 |met f y=>exact Heap.lt_size (show h.get? a=some _ from x)
 |ext φ=>obtain⟨_,⟨_,e⟩,_⟩:=x;exact Heap.lt_size e
theorem Paired.mapP:∀ {l₁:List α} {l₂:List β},Paired F l₁ l₂->(∀a b,F a b->G a b)->Paired G l₁ l₂
 |_,_,.nil,_=>.nil
 |_,_,.cons r t,f=>.cons (f _ _ r) (Paired.mapP t f)
theorem ObjOk.stay (x:ObjOk P w H h a o) (k:∀b u,(b=a\/H b=some (.own a))->h.get? b=some u->h'.get? b=some u)
  (ho:∀b,H b=some (.own a)->H' b=some (.own a)) (ht:∀b xs,H b=some (.tup xs)->H' b=some (.tup xs)):ObjOk P w H' h' a o:=by
 induction o with
 |lst xs=>obtain⟨z,its,n,r,e⟩:=x;exact⟨z,its,n,r,k _ _ (.inl rfl) e⟩
 |tup xs=>obtain⟨z,its,r,ob,e,c⟩:=x;exact⟨z,its,r,ob,k _ _ (.inl rfl) e,c⟩
 |dK kvs=>obtain⟨z,y,vs,r,ob,es,ep,e,c⟩:=x;exact⟨z,y,vs,r,ob,es,ep,k _ _ (.inl rfl) e,c⟩
 |dT kvs=>
  obtain⟨z,y,xs,r,ob,es,ep,e,c⟩:=x;exact⟨z,y,xs,Paired.mapP r λp q z=>⟨z.1,ht _ _ z.2.1,z.2.2⟩,ob,es,ep,k _ _ (.inl rfl) e,c⟩
 |set S n=>obtain⟨ob,es,ep,t,e,c⟩:=x;exact⟨ob,es,ep,t,k _ _ (.inl rfl) e,c⟩
 |ins C dx fs=>
  obtain⟨d,z,ne,e,mA,⟨od,es,ep,e2,c⟩,r⟩:=x;exact⟨ho _ d,z,ne,k _ _ (.inl rfl) e,mA,⟨od,es,ep,k _ _ (.inr d) e2,c⟩,r⟩
 |own y=>obtain⟨ob,e⟩:=x;exact⟨ob,k _ _ (.inl rfl) e⟩
 |xd fs=>obtain⟨mA,⟨od,es,ep,e,c⟩,r⟩:=x;exact⟨mA,⟨od,es,ep,k _ _ (.inl rfl) e,c⟩,r⟩
 |rng lo hi=>obtain⟨t,u,v,e⟩:=x;exact⟨t,u,v,k _ _ (.inl rfl) e⟩
 |frz ob u ih=>obtain⟨e,q⟩:=x;exact⟨k _ _ (.inl rfl) e,ih q⟩
 |tbl ps=>
  have e:h.get? a=some {cls:=.none,data:=.fields ps}:=x;show h'.get? a=some {cls:=.none,data:=.fields ps};exact k a _ (.inl rfl) e
 |met f y=>
  have e:h.get? a=some (PySem.W.methodObj (.ref f) (.ref y)):=x;show h'.get? a=some (PySem.W.methodObj (.ref f) (.ref y));exact k a _ (.inl rfl) e
 |ext φ=>obtain⟨p,⟨o,e⟩,st⟩:=x;exact⟨st _ _ p λo q=>k _ _ (.inl rfl) q,⟨o,k _ _ (.inl rfl) e⟩,st⟩
theorem HOk.lt (x:HOk P w H h) (e:H a=some o):a<h.objs.size:=(x a o e).lt
theorem HOk.fresh (x:HOk P w H h) (e:h.objs.size<=a):H a=none:=by
 cases q:H a with
 |none=>rfl
 |some u=>exact absurd (lt_of_lt_of_le (x.lt q) e) (Nat.lt_irrefl _)
theorem HOk.kept (x:HOk P w H h) (k:∀b u,h.get? b=some u->h'.get? b=some u):HOk P w H h':=λa o e=>
 (x a o e).stay (λb u _ q=>k b u q) (λ_ q=>q) λ_ _ q=>q
theorem HOk.laid (x:HOk P w H h) (k:∀b u,h.get? b=some u->h'.get? b=some u) (hp:h.objs.size<=a) (new:ObjOk P w (upd H a o) h' a o):HOk P w (upd H a o) h':=λb u e=>by
 have hn:=x.fresh hp;by_cases hb:b=a
 ·subst hb;rw[ar]at e;cases e;exact new
 ·rw[au hb]at e;exact(x b u e).stay (λc v _ q=>k c v q) (λc q=>by rw[au (aH q hn)];exact q) λc xs q=>by rw[au (aH q hn)];exact q
end
def Rd (H:Hp) (a:Addr) (u:HO):Prop:=H a=some u\/∃o,H a=some (.frz o u)
theorem Rd.of (h:H a=some u):Rd H a u:=.inl h
theorem Rd.ok (r:Rd H a u) (x:HOk P w H h):ObjOk P w H h a u:=by
 rcases r with r|⟨o,r⟩
 ·exact x a u r
 ·obtain⟨_,q⟩:=x a _ r;exact q
def Mut:Option HO->Prop
 |some (.lst _)=>True
 |some (.dK _)=>True
 |some (.dT _)=>True
 |some (.set _ _)=>True
 |some (.ins _ _ _)=>True
 |some (.ext _)=>True
 |_=>False
section
variable {P:Program} {w:World} {H:Hp} {h h':Heap} {x e:Addr} {o':HO}
theorem HOk.write (ok:HOk P w H h) (mu:Mut (H x)) (he:e=x\/H e=some (.own x)) (k:∀b u,b≠e->h.get? b=some u->h'.get? b=some u) (heo:∃u,h'.get? e=some u)
  (new:ObjOk P w (upd H x o') h' x o'):HOk P w (upd H x o') h':=λb u q=>by
 have nown:∀c y,H c=some (.own y)->c≠x:=λc y r z=>by subst z;rw[r]at mu;exact mu
 have ntup:∀c xs,H c=some (.tup xs)->c≠x:=λc xs r z=>by subst z;rw[r]at mu;exact mu
 by_cases hb:b=x
 ·subst hb;rw[ar]at q;cases q;exact new
 ·rw[au hb]at q;by_cases hbe:b=e
  ·have q':H b=some (.own x):=by
    rcases he with z|z
    ·exact absurd (hbe.trans z) hb
    ·rw[hbe];exact z
   rw[q]at q';cases q';obtain⟨v,hv⟩:=heo;exact⟨v,by rw[hbe];exact hv⟩
  ·refine(ok b u q).stay (λc v hc r=>k c v ?_ r) (λc r=>by rw[au (nown c b r)];exact r) λc xs r=>by rw[au (ntup c xs r)];exact r
   rcases hc with rfl|hc
   ·exact hbe
   ·rintro rfl;rcases he with z|z
    ·exact nown c b hc z
    ·rw[hc]at z;cases z;exact hb rfl
end
structure Un (fs ex:List Addr) (H H':Hp) (h h':Heap):Prop where
 keep:∀b o,h.get? b=some o->H b=none->b ∉ fs->b ∉ ex->h'.get? b=some o
 slot:∀b o,h.get? b=some o->H b=none->b∈fs->b ∉ ex->∃sl,h'.get? b=some {o with slots:=sl}
 free:∀b o,h.get? b=some o->H b=none->b ∉ ex->H' b=none
 there:∀b o,h.get? b=some o->b ∉ ex->∃o',h'.get? b=some o'
 tups:∀b xs,H b=some (.tup xs)->H' b=some (.tup xs)
 frzs:∀b o u,H b=some (.frz o u)->H' b=some (.frz o u)
 tbls:∀b ps,H b=some (.tbl ps)->∃more,H' b=some (.tbl (ps++more))
section
variable {fs fs' ex ex':List Addr} {H H1 H2:Hp} {h h1 h2 h':Heap} {a x e:Addr} {o:HO}
theorem Un.any (u:Un fs ex H H1 h h1) (q:h.get? b=some ob) (n:H b=none) (hx:b ∉ ex):∃sl,h1.get? b=some {ob with slots:=sl}:=by
 by_cases hb:b∈fs
 ·exact u.slot b ob q n hb hx
 ·exact⟨ob.slots,u.keep b ob q n hb hx⟩
theorem Un.kept (k:∀b u,h.get? b=some u->h'.get? b=some u):Un fs ex H H h h':=
 ⟨λb ob q _ _ _=>k b ob q,λb ob q _ _ _=>⟨ob.slots,k b ob q⟩,λ_ _ _ n _=>n,λb ob q _=>⟨ob,k b ob q⟩,λ_ _ q=>q,λ_ _ _ q=>q,λ_ ps q=>⟨#[],by rw[q];simp⟩⟩
theorem Un.refl:Un fs ex H H h h:=Un.kept λ_ _ q=>q
theorem Un.laid (k:∀b u,h.get? b=some u->h'.get? b=some u) (hp:h.objs.size<=a) (hn:H a=none):Un fs ex H (upd H a o) h h' where
 keep:=λb u q _ _ _=>k b u q
 slot:=λb u q _ _ _=>⟨u.slots,k b u q⟩
 free:=λb u q n _=>by rw[au (Nat.ne_of_lt (lt_of_lt_of_le (Heap.lt_size q) hp))];exact n
 there:=λb u q _=>⟨u,k b u q⟩
 tups:=λb xs q=>by rw[au (aH q hn)];exact q
 frzs:=λb u xs q=>by rw[au (aH q hn)];exact q
 tbls:=λb ps q=>⟨#[],by rw[au (aH q hn),q];simp⟩
theorem Un.write (mu:Mut (H x)) (he:e=x\/H e=some (.own x)) (k:∀b u,b≠e->h.get? b=some u->h'.get? b=some u) (heo:∃u,h'.get? e=some u):Un fs ex H (upd H x o) h h':=by
 have hx:∀b,H b=none->b≠x:=λb n z=>by subst z;rw[n]at mu;exact mu
 have hb:∀b,H b=none->b≠e:=λb n z=>by
  subst z;rcases he with r|r
  ·exact hx b n r
  ·rw[n]at r;cases r
 have hm:∀b u,H b=some u->¬Mut (some u)->b≠x:=λb u q nm z=>by subst z;rw[q]at mu;exact nm mu
 refine⟨λb u q n _ _=>k b u (hb b n) q,λb u q n _ _=>⟨u.slots,k b u (hb b n) q⟩,λb u q n _=>by rw[au (hx b n)];exact n,λb u q _=>?_,
  λb xs q=>by rw[au (hm b _ q λz=>z)];exact q,λb u xs q=>by rw[au (hm b _ q λz=>z)];exact q,λb ps q=>⟨#[],by rw[au (hm b _ q λz=>z),q];simp⟩⟩
 by_cases hbe:b=e
 ·subst hbe;exact heo
 ·exact⟨u,k b u hbe q⟩
end
def trk (h:Heap) (H:Hp):List Addr:=(List.range h.objs.size).filter λa=>(H a).isSome
def pJ (h:Heap) (H:Hp):Heap:=PySem.W.hideAll h (trk h H)
theorem wI (h:Heap) (H:Hp):(pJ h H).objs.size=h.objs.size:=PySem.W.hideAll_size _ _
theorem xM (e:h.get? b=some o) (n:H b=none):(pJ h H).get? b=some o:=
 PySem.W.hideAll_get _ e λhm=>by
  have q:(H b).isSome=true:=(List.mem_filter.mp hm).2;rw[n]at q;simp at q
theorem Br (e:(pJ h H).get? b=some o):h.get? b=some o/\H b=none:=by
 have e':h.get? b=some o:=PySem.W.of_hideAll (trk h H) e;refine⟨e',?_⟩;cases q:H b with
 |none=>rfl
 |some x=>
  have hm:b∈trk h H:=List.mem_filter.mpr ⟨List.mem_range.mpr (Heap.lt_size e'),by simp[q]⟩;have z:(pJ h H).get? b=none:=PySem.W.hideAll_none (trk h H) hm;rw[z]at e;cases e
def Bt (g h:Heap) (L:Addr):List (Addr×Obj):=(List.range h.objs.size).filterMap λa=>if a=L\/(g.get? a).isSome=true then none else(h.get? a).map λo=>(a,o)
def rest (g h:Heap) (L d:Addr):List (Addr×Obj):=(Bt g h L).filter λp=>decide (p.1≠d)
structure Mod (K:Frag) (mg:Str->Option Value) (base:Heap):Prop where
 kin:K.In base
 glob:base.Ns mainGlobals mg
 blt:∃mb,base.Ns builtinsNs mb/\∀x:Str,x≠"__name__" ->mb x=bootBuiltins x
 nolimit:base.NoLimit
structure Cx where
 prog:Program
 w:World
 K:Frag
 mg:Str->Option Value
 base:Heap
 A:Around
 N:List Str
 s₀:Shared
 H₀:Hp
 env:Env
 outer:List Env
 stack:List Env
 ex:List Addr
 fn:Str->Bool
 calm:Bool
 pn:List (Addr×Obj)
 xe:Value->Shared->Prop
def frs (l:List Env):List Addr:=l.filterMap (·.frame)
abbrev Cx.fs (X:Cx):List Addr:=frs X.outer
def Vis (sc:Scope) (x:Str):Prop:=sc.names.lookup x=some .local\/sc.names.lookup x=some .cell\/sc.names.lookup x=some .free
def Loc (sc:Scope) (x:Str):Prop:=sc.names.lookup x=some .local\/sc.names.lookup x=some .cell
def K7 (env:Env) (h:Heap) (m:Str->Option Value) (x:Str) (u:Value):Prop:=
 (env.kindOf x=some .local/\m x=some u)\/((env.kindOf x=some .cell\/env.kindOf x=some .free)/\∃c,env.cells.lookup x=some c/\h.IsCell c (some u))
structure Cx.Ok (X:Cx):Prop where
 mod:Mod X.K X.mg X.base
 kind:X.env.scope.kind=.function
 glob:X.env.globals=mainGlobals
 blt:X.env.builtins=builtinsNs
 above:X.s₀.heap.objs.size<=X.env.locals
 inj:∀x y c,X.env.cells.lookup x=some c->X.env.cells.lookup y=some c->x=y
 has:∀x,(X.env.kindOf x=some .cell\/X.env.kindOf x=some .free)->∃c,X.env.cells.lookup x=some c
 cab:∀x c,X.fn x=true->X.env.cells.lookup x=some c->X.s₀.heap.objs.size<=c
 hd:X.calm=true->X.A.handled=none
 frames:X.A.frames=some X.stack
 stk:X.stack=X.outer\/(X.stack=X.env::X.outer/\X.env.frame=some X.env.locals)
 exf:∀b∈X.ex,b≠X.env.locals/\∀x c,X.env.cells.lookup x=some c->c≠b
 bs:∀b o,X.base.get? b=some o->X.s₀.heap.get? b=some o/\X.H₀ b=none
 bsz:X.base.objs.size<=X.s₀.heap.objs.size
 noex:∀b o,X.base.get? b=some o->b ∉ X.ex
 exfs:∀b∈X.ex,b ∉ X.fs
 funs:X.s₀.heap.FunFrames X.base X.outer
 frf:∀b∈X.fs,X.H₀ b=none
structure Inv (X:Cx) (pins:List (Addr×Obj)) (σ:List (Option V)) (H:Hp) (s:Shared):Prop where
 ok:X.Ok
 os:s.os=X.s₀.os
 bare:AllBare s.gens
 base:Un X.fs X.ex X.H₀ H X.s₀.heap s.heap
 loc:∃m,s.heap.Ns X.env.locals m/\∀ (i:Nat) (x:Str) (v:V),X.N[i]?=some x->σ[i]?=some (some v)->Vis X.env.scope x->∃u,RelV v u/\K7 X.env s.heap m x u
 cell:∀x c,X.env.cells.lookup x=some c->∃v,s.heap.IsCell c v
 free:H X.env.locals=none
 freeC:∀x c,X.env.cells.lookup x=some c->H c=none
 pin:∀p∈X.pn++pins,s.heap.get? p.1=some p.2/\H p.1=none/\p.1≠X.env.locals/\p.1 ∉ X.fs/\∀v,p.2.data≠.cell v
 hok:HOk X.prog X.w H s.heap
 len:σ.length=X.N.length
section
variable {X:Cx} {pins:List (Addr×Obj)} {σ:List (Option V)} {H H':Hp} {s:Shared} {h':Heap}
theorem Cx.Ok.nofr (ok:X.Ok) (e:X.base.get? b=some o):b ∉ X.fs:=λhb=>by
 have:=(ok.funs.mem hb).1;rw[e]at this;cases this
theorem Inv.bs (I:Inv X pins σ H s):∀b o,X.base.get? b=some o->s.heap.get? b=some o/\H b=none:=λb o e=>
 ⟨I.base.keep b o (I.ok.bs b o e).1 (I.ok.bs b o e).2 (I.ok.nofr e) (I.ok.noex b o e),I.base.free b o (I.ok.bs b o e).1 (I.ok.bs b o e).2 (I.ok.noex b o e)⟩
theorem Inv.bk (I:Inv X pins σ H s):∀b o,X.base.get? b=some o->s.heap.get? b=some o:=λb o e=>(I.bs b o e).1
theorem Inv.mod (I:Inv X pins σ H s):Mod X.K X.mg X.base:=I.ok.mod
theorem Inv.kIn (I:Inv X pins σ H s):X.K.In s.heap:=I.ok.mod.kin.keeps I.bk
theorem Inv.lt (I:Inv X pins σ H s):X.env.locals<s.heap.objs.size:=let⟨_,hn,_⟩:=I.loc;hn.lt
theorem Inv.sz (I:Inv X pins σ H s):X.s₀.heap.objs.size<=s.heap.objs.size:=Nat.le_trans I.ok.above (Nat.le_of_lt I.lt)
theorem Inv.nofs (I:Inv X pins σ H s) {a:Addr} (h:s.heap.objs.size<=a):a ∉ X.fs:=λhb=>by
 obtain⟨_,o,ho,_⟩:=I.ok.funs.mem hb;exact absurd (lt_of_lt_of_le (Heap.lt_size ho) (Nat.le_trans I.sz h)) (Nat.lt_irrefl _)
theorem Inv.cne (I:Inv X pins σ H s):∀x c,X.env.cells.lookup x=some c->c≠X.env.locals:=λx c e z=>by
 obtain⟨v,o,ho,hd⟩:=I.cell x c e;obtain⟨m,⟨o',es,ep,ho',hd',_⟩,_⟩:=I.loc;rw[z,ho']at ho;cases ho;rw[hd']at hd;cases hd
theorem Inv.funs (I:Inv X pins σ H s):s.heap.FunFrames X.base X.outer:=by
 have all:∀ (l:List Env),(∀b∈frs l,b∈X.fs)->X.s₀.heap.FunFrames X.base l->s.heap.FunFrames X.base l:=by
  intro l;induction l with
  |nil=>intro _ _;trivial
  |cons env r ih=>
   intro hs hl;obtain⟨hk,⟨L,o,hf,hn,ho,hd⟩,hr⟩:=hl;have hL:L∈X.fs:=hs L (by unfold frs;rw[List.filterMap_cons,hf];exact mem_cons_self);obtain⟨sl,e⟩:=I.base.slot L o ho (I.ok.frf L hL) hL λz=>I.ok.exfs L z hL;exact⟨hk,⟨L,_,hf,hn,e,hd⟩,ih (λb hb=>hs b (by unfold frs;rw[List.filterMap_cons,hf];exact mem_cons_of_mem _ hb)) hr⟩
 exact all X.outer (λ_ hb=>hb) I.ok.funs
theorem Inv.stack (I:Inv X pins σ H s):s.heap.FunFrames X.base X.stack:=by
 rcases I.ok.stk with e|⟨e,hf⟩
 ·rw[e];exact I.funs
 ·rw[e];obtain⟨m,hn,_⟩:=I.loc;refine .cons (by rw[I.ok.kind];decide) hf hn ?_ I.funs;exact Heap.get?_none_of_le (Nat.le_trans I.ok.bsz I.ok.above)
theorem Inv.stkSub (I:Inv X pins σ H s):∀b∈frs X.stack,b∈X.env.locals::X.fs:=λb hb=>by
 rcases I.ok.stk with e|⟨e,hf⟩
 ·rw[e]at hb;exact mem_cons_of_mem _ hb
 ·rw[e]at hb;unfold frs at hb;rw[List.filterMap_cons,hf]at hb;exact hb
theorem Inv.stkFree (I:Inv X pins σ H s):∀b∈frs X.stack,H b=none:=λb hb=>by
 rcases mem_cons.mp (I.stkSub b hb)with e|hb
 ·rw[e];exact I.free
 ·obtain⟨_,o,ho,_⟩:=I.ok.funs.mem hb;exact I.base.free b o ho (I.ok.frf b hb) λz=>I.ok.exfs b z hb
theorem Inv.step {ch:List Addr} (I:Inv X pins σ H s) (hch:∀b∈ch,(b∈X.ex\/X.s₀.heap.objs.size<=b)/\b≠X.env.locals/\(∀x c,X.env.cells.lookup x=some c->c≠b)/\∀p∈X.pn++pins,p.1≠b) (keep:∀b o,b≠X.env.locals->b ∉ X.fs->b ∉ ch->s.heap.get? b=some o->H b=none->h'.get? b=some o) (slot:∀b o,b≠X.env.locals->b∈X.fs->b ∉ ch->s.heap.get? b=some o->H b=none->∃sl,h'.get? b=some {o with slots:=sl}) (free:∀b o,b ∉ ch->s.heap.get? b=some o->H b=none->H' b=none) (there:∀b o,b ∉ ch->s.heap.get? b=some o->∃o',h'.get? b=some o') (tups:∀b xs,H b=some (.tup xs)->H' b=some (.tup xs)) (frzs:∀b o u,H b=some (.frz o u)->H' b=some (.frz o u)) (tbls:∀b ps,H b=some (.tbl ps)->∃more,H' b=some (.tbl (ps++more))) (ns:∀m,s.heap.Ns X.env.locals m->h'.Ns X.env.locals m) (hok:HOk X.prog X.w H' h') (hg:AllBare g'):
  Inv X pins σ H' {s with heap:=h',gens:=g',drawn:=d',toks:=t'}:=by
 have neL:∀b o,X.s₀.heap.get? b=some o->b≠X.env.locals:=λb o e=>Nat.ne_of_lt (lt_of_lt_of_le (Heap.lt_size e) I.ok.above)
 have neC:∀b o,X.s₀.heap.get? b=some o->b ∉ X.ex->b ∉ ch:=λb o e hx hb=>by
  rcases(hch b hb).1 with z|z
  ·exact hx z
  ·exact absurd (lt_of_lt_of_le (Heap.lt_size e) z) (Nat.lt_irrefl _)
 have cellK:∀x c,X.env.cells.lookup x=some c->∀v,s.heap.IsCell c v->h'.IsCell c v:=λx c e v ⟨o,ho,hd⟩=>by
  have nch:c ∉ ch:=λz=>(hch c z).2.2.1 x c e rfl;by_cases hc:c∈X.fs
  ·obtain⟨sl,q⟩:=slot c o (I.cne x c e) hc nch ho (I.freeC x c e);exact⟨_,q,hd⟩
  ·exact⟨o,keep c o (I.cne x c e) hc nch ho (I.freeC x c e),hd⟩
 refine⟨I.ok,I.os,hg,⟨λb o e n hb hx=>?_,λb o e n hb hx=>?_,λb o e n hx=>?_,λb o e hx=>?_,λb xs e=>tups b xs (I.base.tups b xs e),λb o xs e=>frzs b o xs (I.base.frzs b o xs e),λb ps e=>?_⟩,?_,λx c e=>?_,?_,λx c e=>?_,λp hp=>?_,hok,I.len⟩
 ·exact keep b o (neL b o e) hb (neC b o e hx) (I.base.keep b o e n hb hx) (I.base.free b o e n hx)
 ·obtain⟨sl,e1⟩:=I.base.slot b o e n hb hx;obtain⟨sl',e2⟩:=slot b _ (neL b o e) hb (neC b o e hx) e1 (I.base.free b o e n hx);exact⟨sl',e2⟩
 ·obtain⟨o',e1⟩:=I.base.there b o e hx;exact free b o' (neC b o e hx) e1 (I.base.free b o e n hx)
 ·obtain⟨o',e1⟩:=I.base.there b o e hx;exact there b o' (neC b o e hx) e1
 ·obtain⟨m1,e1⟩:=I.base.tbls b ps e;obtain⟨m2,e2⟩:=tbls b _ e1;exact⟨m1++m2,by rw[e2,Array.append_assoc]⟩
 ·obtain⟨m,hn,hl⟩:=I.loc;refine⟨m,ns m hn,λi x v e1 e2 e3=>?_⟩;obtain⟨u,r,l⟩:=hl i x v e1 e2 e3;refine⟨u,r,?_⟩;rcases l with l|⟨k,c,e,z⟩
  ·exact .inl l
  ·exact .inr ⟨k,c,e,cellK x c e _ z⟩
 ·obtain⟨v,z⟩:=I.cell x c e;exact⟨v,cellK x c e v z⟩
 ·obtain⟨m,⟨o,_,_,ho,_⟩,_⟩:=I.loc;exact free _ o (λz=>(hch _ z).2.1 rfl) ho I.free
 ·obtain⟨v,o,ho,hd⟩:=I.cell x c e;exact free c o (λz=>(hch c z).2.2.1 x c e rfl) ho (I.freeC x c e)
 ·obtain⟨e,n,ne,nf,d⟩:=I.pin p hp;have nch:p.1 ∉ ch:=λz=>(hch p.1 z).2.2.2 p hp rfl;exact⟨keep p.1 p.2 ne nf nch e n,free p.1 p.2 nch e n,ne,nf,d⟩
theorem Inv.un (I:Inv X pins σ H s) (u:Un X.fs [] H H' s.heap h') (hok:HOk X.prog X.w H' h'):Inv X pins σ H' {s with heap:=h',toks:=t'}:=by
 obtain⟨m,⟨o,es,ep,ho,r⟩,_⟩:=id I.loc;obtain⟨sl,hL⟩:=u.any ho I.free (by simp);exact I.step (g':=s.gens) (d':=s.drawn) (ch:=[]) (λ_ z=>nomatch z) (λb o _ hb _ e n=>u.keep b o e n hb (by simp)) (λb o _ hb _ e n=>u.slot b o e n hb (by simp)) (λb o _ e n=>u.free b o e n (by simp)) (λb o _ e=>u.there b o e (by simp)) u.tups u.frzs u.tbls (λm' hm=>by
  obtain⟨o',es',ep',ho',r'⟩:=hm;rw[ho]at ho';cases ho';exact⟨_,es',ep',hL,r'⟩) hok I.bare
theorem Inv.call (I:Inv X pins σ H s) (u:Un (frs X.stack) ch H H' s.heap h') (hok:HOk X.prog X.w H' h') (hg:AllBare g') (hch:∀b∈ch,(b∈X.ex\/X.s₀.heap.objs.size<=b)/\b≠X.env.locals/\(∀x c,X.env.cells.lookup x=some c->c≠b)/\∀p∈X.pn++pins,p.1≠b):
  Inv X pins σ H' {s with heap:=h',gens:=g',drawn:=d',toks:=t'}:=by
 obtain⟨m,⟨o,es,ep,ho,r⟩,_⟩:=id I.loc
 obtain⟨sl,hL⟩:=u.any ho I.free λz=>(hch _ z).2.1 rfl
 exact I.step (ch:=ch) hch (λb o hL hb hc e n=>u.keep b o e n (λz=>(mem_cons.mp (I.stkSub b z)).elim hL hb) hc) (λb o _ _ hc e n=>u.any e n hc) (λb o hc e n=>u.free b o e n hc) (λb o hc e=>u.there b o e hc) u.tups u.frzs u.tbls (λm' hm=>by
  obtain⟨o',es',ep',ho',r'⟩:=hm;rw[ho]at ho';cases ho';exact⟨_,es',ep',hL,r'⟩) hok hg
theorem Inv.turned (I:Inv X pins σ H s) (k:∀b o,b≠it->s.heap.get? b=some o->h'.get? b=some o) (hn:H it=none) (hL:it≠X.env.locals) (h1:it∈X.ex\/X.s₀.heap.objs.size<=it) (h2:∀x c,X.env.cells.lookup x=some c->c≠it) (h3:∀p∈X.pn++pins,p.1≠it):Inv X pins σ H {s with heap:=h',toks:=t'}:=by
 have nit:∀b u,H b=some u->b≠it:=λb u e z=>by rw[z,hn]at e;cases e
 refine I.step (g':=s.gens) (d':=s.drawn) (ch:=[it]) (λb hb=>?_) (λb o _ _ hc e _=>k b o (λz=>hc (by simp[z])) e) (λb o _ _ hc e _=>⟨o.slots,k b o (λz=>hc (by simp[z])) e⟩) (λ_ _ _ _ n=>n)
  (λb o hc e=>⟨o,k b o (λz=>hc (by simp[z])) e⟩) (λ_ _ e=>e) (λ_ _ _ e=>e) (λb ps e=>⟨#[],by rw[e];simp⟩) (λm hm=>?_) (λb u e=>?_) I.bare
 ·have e:b=it:=by simpa using hb
  subst e;exact⟨h1,hL,h2,h3⟩
 ·obtain⟨o,es,ep,ho,r⟩:=hm;exact⟨o,es,ep,k _ o (Ne.symm hL) ho,r⟩
 ·refine(I.hok b u e).stay (λc v hc q=>k c v ?_ q) (λ_ q=>q) λ_ _ q=>q;rcases hc with z|z
  ·rw[z];exact nit b u e
  ·exact nit c _ z
theorem Inv.tok (I:Inv X pins σ H s) (t:Nat):Inv X pins σ H {s with toks:=t}:=I.un (h':=s.heap) (t':=t) Un.refl I.hok
theorem Inv.kept (I:Inv X pins σ H s) (k:∀b u,s.heap.get? b=some u->h'.get? b=some u):Inv X pins σ H {s with heap:=h',toks:=t'}:=I.un (Un.kept k) (I.hok.kept k)
theorem Inv.laid {a:Addr} (I:Inv X pins σ H s) (k:∀b u,s.heap.get? b=some u->h'.get? b=some u) (hp:s.heap.objs.size<=a) (new:ObjOk X.prog X.w (upd H a o) h' a o):
 Inv X pins σ (upd H a o) {s with heap:=h',toks:=t'}:=I.un (Un.laid k hp (I.hok.fresh hp)) (I.hok.laid k hp new)
theorem Inv.write (I:Inv X pins σ H s) (mu:Mut (H x)) (he:e=x\/H e=some (.own x)) (k:∀b u,b≠e->s.heap.get? b=some u->h'.get? b=some u) (heo:∃u,h'.get? e=some u) (new:ObjOk X.prog X.w (upd H x o) h' x o):Inv X pins σ (upd H x o) {s with heap:=h',toks:=t'}:=I.un (Un.write mu he k heo) (I.hok.write mu he k heo new)
theorem Inv.weak (I:Inv X pins σ H s) (hl:σ'.length=σ.length) (w:∀ (i:Nat) v,σ'[i]?=some (some v)->σ[i]?=some (some v)):Inv X pins σ' H s:=
 ⟨I.ok,I.os,I.bare,I.base,let⟨m,hn,hl'⟩:=I.loc;⟨m,hn,λi x v e1 e2 e3=>hl' i x v e1 (w i v e2) e3⟩,I.cell,I.free,I.freeC,I.pin,I.hok,hl.trans I.len⟩
theorem Inv.pins_of (I:Inv X pins σ H s) (h:∀p∈pins',s.heap.get? p.1=some p.2/\H p.1=none/\p.1≠X.env.locals/\p.1 ∉ X.fs/\∀v,p.2.data≠.cell v):Inv X pins' σ H s:=
 ⟨I.ok,I.os,I.bare,I.base,I.loc,I.cell,I.free,I.freeC,λp hp=>(mem_append.mp hp).elim (λz=>I.pin p (mem_append_left _ z)) (h p),I.hok,I.len⟩
theorem qX {N:List Str} (hN:N.Nodup) {i j:Nat} (a:N[i]?=some x) (b:N[j]?=some x):i=j:=by
 obtain⟨h1,e1⟩:=List.getElem?_eq_some_iff.mp a;obtain⟨h2,e2⟩:=List.getElem?_eq_some_iff.mp b;exact(List.getElem_inj hN).mp (e1.trans e2.symm)
theorem oz (I:Inv X pins σ H s) (hN:X.N.Nodup) (hi:X.N[i]?=some x) (hx:Loc X.env.scope x) (r:RelV v u) (h:∀s',Inv X pins (σ.set i (some v)) H s'->(∃a,Heap.SameBut a s.heap s'.heap/\(a=X.env.locals\/X.env.cells.lookup x=some a))->Q () s') (hf:X.fn x=true\/X.env.scope.names.lookup x=some .local:=by first|exact .inl rfl|exact .inr rfl|assumption):wpAny M A (storeName X.env x u) Q E s:=by
 obtain⟨m,hn,hl⟩:=id I.loc;have hcls:(X.env.scope.kind==.class||(X.env.scope.kind==.module&&X.env.locals !=X.env.globals))=false:=by rw[I.ok.kind];rfl
 have hiσ:i<σ.length:=by rw[I.len];exact(List.getElem?_eq_some_iff.mp hi).1
 have cne:=I.cne;have tracked:∀ {a:Addr} {h':Heap},(∃o,s.heap.get? a=some o/\H a=none)->Heap.SameBut a s.heap h'->HOk X.prog X.w H h':=λ{a h'} ha hs b ob e=>by
  obtain⟨_,_,hfree⟩:=ha;refine(I.hok b ob e).stay (λc w' hc q=>(hs.2 c ?_).trans q) (λ_ q=>q) λ_ _ q=>q;rintro rfl;rcases hc with rfl|hc
  ·rw[hfree]at e;cases e
  ·rw[hfree]at hc;cases hc
 rcases hx with hk|hk
 ·refine wpAny_storeName_local hk hn (λh' hn' hs=>?_) hcls;obtain⟨oL,_,_,hoL,_⟩:=id hn;refine h _ ⟨I.ok,I.os,I.bare,⟨λb o e n hb hx=>?_,λb o e n hb hx=>?_,I.base.free,λb o e hx=>?_,I.base.tups,I.base.frzs,I.base.tbls⟩,⟨_,hn',λj y v' e1 e2 e3=>?_⟩,λy c e=>?_,I.free,I.freeC,λp hp=>?_,tracked ⟨oL,hoL,I.free⟩ hs,by simpa using I.len⟩ ⟨_,hs,.inl rfl⟩
  ·exact(hs.2 b (Nat.ne_of_lt (lt_of_lt_of_le (Heap.lt_size e) I.ok.above))).trans (I.base.keep b o e n hb hx)
  ·obtain⟨sl,e1⟩:=I.base.slot b o e n hb hx;exact⟨sl,(hs.2 b (Nat.ne_of_lt (lt_of_lt_of_le (Heap.lt_size e) I.ok.above))).trans e1⟩
  ·obtain⟨o',e1⟩:=I.base.there b o e hx;exact⟨o',(hs.2 b (Nat.ne_of_lt (lt_of_lt_of_le (Heap.lt_size e) I.ok.above))).trans e1⟩
  ·by_cases hj:j=i
   ·subst hj;rw[hi]at e1;cases e1;rw[List.getElem?_set_self hiσ]at e2;cases e2;exact⟨u,r,.inl ⟨hk,by simp⟩⟩
   ·rw[List.getElem?_set_ne (Ne.symm hj)]at e2;obtain⟨u',r',q⟩:=hl j y v' e1 e2 e3;refine⟨u',r',?_⟩;rcases q with⟨k,e⟩|⟨k,c,e,z⟩
    ·refine .inl ⟨k,?_⟩;have:y≠x:=λe=>hj (qX hN e1 (e▸hi));simp[this,e]
    ·exact .inr ⟨k,c,e,z.sameBut hs (cne y c e)⟩
  ·obtain⟨w',z⟩:=I.cell y c e;exact⟨w',z.sameBut hs (cne y c e)⟩
  ·obtain⟨e,n,ne,nf,d⟩:=I.pin p hp;exact⟨(hs.2 p.1 ne).trans e,n,ne,nf,d⟩
 ·have hfn:X.fn x=true:=by
   rcases hf with z|z
   ·exact z
   ·rw[z]at hk;cases hk
  obtain⟨c,hc⟩:=I.ok.has x (.inl hk);obtain⟨w',z⟩:=I.cell x c hc;refine wpAny_storeName_cell I.ok.kind hk hc z (λh' hc' hs=>?_);obtain⟨oc,hoc,hocd⟩:=id z;refine h {s with heap:=h'} ⟨I.ok,I.os,I.bare,⟨λb o e n hb hx=>?_,λb o e n hb hx=>?_,I.base.free,λb o e hx=>?_,I.base.tups,I.base.frzs,I.base.tbls⟩,⟨m,hn.sameBut hs (Ne.symm (cne x c hc)),λj y v' e1 e2 e3=>?_⟩,λy c' e=>?_,I.free,I.freeC,λp hp=>?_,tracked ⟨oc,hoc,I.freeC x c hc⟩ hs,by simpa using I.len⟩ ⟨c,hs,.inr hc⟩
  ·exact(hs.2 b (Nat.ne_of_lt (lt_of_lt_of_le (Heap.lt_size e) (I.ok.cab x c hfn hc)))).trans (I.base.keep b o e n hb hx)
  ·obtain⟨sl,e1⟩:=I.base.slot b o e n hb hx;exact⟨sl,(hs.2 b (Nat.ne_of_lt (lt_of_lt_of_le (Heap.lt_size e) (I.ok.cab x c hfn hc)))).trans e1⟩
  ·obtain⟨o',e1⟩:=I.base.there b o e hx;exact⟨o',(hs.2 b (Nat.ne_of_lt (lt_of_lt_of_le (Heap.lt_size e) (I.ok.cab x c hfn hc)))).trans e1⟩
  ·by_cases hj:j=i
   ·subst hj;rw[hi]at e1;cases e1;rw[List.getElem?_set_self hiσ]at e2;cases e2;exact⟨u,r,.inr ⟨.inl hk,c,hc,hc'⟩⟩
   ·rw[List.getElem?_set_ne (Ne.symm hj)]at e2;obtain⟨u',r',q⟩:=hl j y v' e1 e2 e3;refine⟨u',r',?_⟩;rcases q with q|⟨k,c',e,z'⟩
    ·exact .inl q
    ·refine .inr ⟨k,c',e,z'.sameBut hs ?_⟩;rintro rfl;exact hj (qX hN e1 (I.ok.inj _ _ _ e hc▸hi))
  ·by_cases hcc:c'=c
   ·subst hcc;exact⟨_,hc'⟩
   ·obtain⟨w2,z2⟩:=I.cell y c' e;exact⟨w2,z2.sameBut hs hcc⟩
  ·obtain⟨e,n,ne,nf,d⟩:=I.pin p hp;refine⟨(hs.2 p.1 ?_).trans e,n,ne,nf,d⟩;intro q;rw[q,hoc]at e;have q':oc=p.2:=Option.some.inj e;exact d w' (by rw[<-q'];exact hocd)
theorem qY (I:Inv X pins σ H s) (hN:X.N.Nodup) (hi:X.N[i]?=some x) (hx:Loc X.env.scope x) (r:RelV v u) (h:∀s',Inv X pins (σ.set i (some v)) H s'->Q () s') (hf:X.fn x=true\/X.env.scope.names.lookup x=some .local:=by first|exact .inl rfl|exact .inr rfl|assumption):wpAny M A (storeName X.env x u) Q E s:=
 oz I hN hi hx r (λs' I' _=>h s' I') hf
theorem Inv.call' (I:Inv X pins σ H s) (ho:s'.os=s.os) (u:Un (frs X.stack) ch H H' s.heap s'.heap) (hok:HOk X.prog X.w H' s'.heap) (hg:AllBare s'.gens) (hch:∀b∈ch,(b∈X.ex\/X.s₀.heap.objs.size<=b)/\b≠X.env.locals/\(∀x c,X.env.cells.lookup x=some c->c≠b)/\∀p∈X.pn++pins,p.1≠b):Inv X pins σ H' s':=by
 obtain⟨h',g',d',t',o'⟩:=s';have e:o'=s.os:=ho;subst e;exact I.call (g':=g') (t':=t') (d':=d') u hok hg hch
end
abbrev XK:=Value->Option Addr->Hp->Prop
abbrev St:=List (Option V)
abbrev VK:=V->Hp->Prop
abbrev TE:=St->Hp->VK->Prop
abbrev TT:=St->Hp->(Bool->Hp->Prop)->Prop
abbrev TA:=St->Hp->(List V->Hp->Prop)->Prop
structure Ends where
 nx:St->Hp->Prop
 rt:VK
 bk:St->Hp->Prop:=λ_ _=>False
 ct:St->Hp->Prop:=λ_ _=>False
abbrev TS:=Ends->St->Hp->Prop
def EP (X:Cx) (pins:List (Addr×Obj)) (σ:St) (Q:VK) (u:Value) (s':Shared):Prop:=∃v H',Inv X pins σ H' s'/\RelV v u/\Q v H'
def TP (X:Cx) (pins:List (Addr×Obj)) (σ:St) (Q:Bool->Hp->Prop) (b:Bool) (s':Shared):Prop:=∃H',Inv X pins σ H' s'/\Q b H'
def AP (X:Cx) (pins:List (Addr×Obj)) (σ:St) (Q:List V->Hp->Prop) (us:List Value) (s':Shared):Prop:=∃vs H',Inv X pins σ H' s'/\Vals vs us/\Q vs H'
def SP (X:Cx) (pins:List (Addr×Obj)) (D:Ends) (f:Flow) (s':Shared):Prop:=
 match f with
 |.next=>∃σ' H',Inv X pins σ' H' s'/\D.nx σ' H'
 |.brk=>∃σ' H',Inv X pins σ' H' s'/\D.bk σ' H'
 |.cont=>∃σ' H',Inv X pins σ' H' s'/\D.ct σ' H'
 |.ret u=>∃v σ' H',Inv X pins σ' H' s'/\RelV v u/\D.rt v H'
def PE (X:Cx) (e:Expr) (t:TE):Prop:=
 ∀ (pins:List (Addr×Obj)) (s:Shared) (σ:St) (H:Hp) (Q:VK),Inv X pins σ H s->t σ H Q->wpAny (model X.prog X.w) X.A (eval e X.env) (EP X pins σ Q) X.xe s
def PT (X:Cx) (e:Expr) (t:TT):Prop:=
 ∀ (pins:List (Addr×Obj)) (s:Shared) (σ:St) (H:Hp) (Q:Bool->Hp->Prop),Inv X pins σ H s->t σ H Q->wpAny (model X.prog X.w) X.A (isTrue e X.env (eval e X.env)) (TP X pins σ Q) X.xe s
def PW (X:Cx) (e:Expr) (t:TT):Prop:=
 ∀ (whole:Sem Value) (pins:List (Addr×Obj)) (s:Shared) (σ:St) (H:Hp) (Q:Bool->Hp->Prop),Inv X pins σ H s->t σ H Q->wpAny (model X.prog X.w) X.A (isTrue e X.env whole) (TP X pins σ Q) X.xe s
theorem PW.pt (h:PW X e t):PT X e t:=h _
def PA (X:Cx) (es:List Expr) (t:TA):Prop:=
 ∀ (pos:Pos) (pins:List (Addr×Obj)) (s:Shared) (σ:St) (H:Hp) (Q:List V->Hp->Prop),Inv X pins σ H s->t σ H Q->wpAny (model X.prog X.w) X.A (spliced (backTo pos (starEach es X.env))) (AP X pins σ Q) X.xe s
def PS (X:Cx) (st:Stmt) (t:TS):Prop:=
 ∀ (pins:List (Addr×Obj)) (s:Shared) (σ:St) (H:Hp) (D:Ends),Inv X pins σ H s->t D σ H->wpAny (model X.prog X.w) X.A (exec st X.env) (SP X pins D) X.xe s
def PSs (X:Cx) (st:List Stmt) (t:TS):Prop:=
 ∀ (pins:List (Addr×Obj)) (s:Shared) (σ:St) (H:Hp) (D:Ends),Inv X pins σ H s->t D σ H->wpAny (model X.prog X.w) X.A (execs st X.env) (SP X pins D) X.xe s
theorem thn {Q Q':α->Shared->Prop} (h:wpAny M A t Q E s) (hQ:∀a s,Q a s->Q' a s):wpAny M A t Q' E s:=wpAny_mono h hQ λ_ _ x=>x
section
variable {X:Cx}
def HS (i:Nat):TE:=λσ H Q=>∃v,σ[i]?=some (some v)/\Q v H
def tC (v:V):TE:=λ_ H Q=>Q v H
theorem cF {pos} (hN:X.N[i]?=some x) (hv:Vis X.env.scope x) (hd:(x==("__debug__":Str))=false:=by decide) (hcd:(x==("__classdict__":Str))=false:=by decide):PE X (.Name x pos) (HS i):=by
 intro pins s σ H Q I h;obtain⟨v,e,h⟩:=h;obtain⟨m,hn,hl⟩:=I.loc;obtain⟨u,r,l⟩:=hl i x v hN e hv;have fin:EP X pins σ Q u s:=⟨v,H,I,r,h⟩;rcases l with⟨hk,hm⟩|⟨hk,c,hc,hcell⟩
 ·exact wpAny_Name (wpAny_loadName_local I.ok.kind hk hn hm fin) hd
 ·rcases hk with hk|hk
  ·exact wpAny_Name (wpAny_loadName_cell I.ok.kind hk hc hcell fin) hd
  ·exact wpAny_Name (wpAny_loadName_free I.ok.kind hk hc hcell fin hcd) hd
theorem pe_int:PE X (.Constant (.int i) j pos) (tC (.int i)):=λ_ _ _ H _ I h=>wpAny_Constant_int ⟨.int i,H,I.tok _,⟨_,rfl⟩,h⟩
theorem pe_bl:PE X (.Constant (.bool b) j pos) (tC (.bl b)):=λ_ _ _ H _ I h=>Constant_bool ⟨.bl b,H,I,rfl,h⟩
theorem pe_non:PE X (.Constant .none j pos) (tC .non):=λ_ _ _ H _ I h=>Constant_none ⟨.non,H,I,rfl,h⟩
theorem pe_str:PE X (.Constant (.str x) j pos) (tC (.str x)):=λ_ _ _ H _ I h=>Calls.Constant_str ⟨.str x,H,I.tok _,⟨_,rfl⟩,h⟩
def Gl (X:Cx) (x:Str):Prop:=X.env.kindOf x=some .globalImplicit
theorem pK {σ:St} (I:Inv X pins σ H s) (hg:Gl X x) (hm:X.mg x=some u) (h:Q u s) (hd:(x==("__debug__":Str))=false:=by decide):wpAny (model X.prog X.w) X.A (eval (.Name x pos) X.env) Q E s:=
 Calls.Name_function_global I.ok.kind hg (Calls.loadGlobal_global (by rw[I.ok.glob];exact I.mod.glob.keeps I.bk) hm h) hd
theorem cU {E} {σ:St} {pos} (I:Inv X pins σ H s) (hg:Gl X x) (hm:X.mg x=none) (hv:bootBuiltins x=some u) (h:Q u s) (hn:x≠"__name__":=by decide) (hd:(x==("__debug__":Str))=false:=by decide):wpAny (model X.prog X.w) X.A (eval (.Name x pos) X.env) Q E s:=by
 obtain⟨mb,h1,h2⟩:=I.mod.blt;exact Calls.Name_function_global I.ok.kind hg (Calls.loadGlobal_builtin (by rw[I.ok.glob];exact I.mod.glob.keeps I.bk) hm (by rw[I.ok.blt];exact h1.keeps I.bk) ((h2 x hn).trans hv) h) hd
theorem uY (hg:Gl X x) (hm:X.mg x=some u) (r:RelV v u) (hd:(x==("__debug__":Str))=false:=by decide):PE X (.Name x pos) (tC v):=
 λ_ _ _ H _ I h=>pK I hg hm ⟨v,H,I,r,h⟩ hd
theorem Bu {pos} (hg:Gl X x) (hm:X.mg x=none) (hv:bootBuiltins x=some u) (r:RelV v u) (hn:x≠"__name__":=by decide) (hd:(x==("__debug__":Str))=false:=by decide):PE X (.Name x pos) (tC v):=
 λ_ _ _ H _ I h=>cU I hg hm hv ⟨v,H,I,r,h⟩ hn hd
variable {a b:Expr} {ta tb:TE} {pos:Pos}
variable {tA tB':TT} {rest:List Expr}
def K8 (t u:TT):TT:=λσ H Q=>t σ H λc H1=>if c=true then u σ H1 Q else Q false H1
def tOr (t u:TT):TT:=λσ H Q=>t σ H λc H1=>if c=true then Q true H1 else u σ H1 Q
def K9 (t:TT):TT:=λσ H Q=>t σ H λc H1=>Q (!c) H1
theorem pw_and1 (ha:PT X a tA):PW X (.BoolOp .And [a] pos) tA:=by
 intro wh pins s σ H Q I h;refine isTrue_and (thn (ha pins s σ H Q I h) λc s1 e=>?_);cases c with
 |true=>exact isTrue_and_nil e
 |false=>exact e
theorem pw_or1 (ha:PT X a tA):PW X (.BoolOp .Or [a] pos) tA:=by
 intro wh pins s σ H Q I h;refine isTrue_or (thn (ha pins s σ H Q I h) λc s1 e=>?_);cases c with
 |false=>exact isTrue_or_nil e
 |true=>exact e
theorem pw_and (ha:PT X a tA) (hb:PW X (.BoolOp .And (b::rest) pos) tB'):PW X (.BoolOp .And (a::b::rest) pos) (K8 tA tB'):=by
 intro wh pins s σ H Q I h;refine isTrue_and (thn (ha pins s σ H _ I h) λc s1 ⟨H1,I1,q1⟩=>?_);cases c with
 |true=>exact hb wh pins s1 σ H1 Q I1 q1
 |false=>exact⟨H1,I1,q1⟩
theorem pw_or (ha:PT X a tA) (hb:PW X (.BoolOp .Or (b::rest) pos) tB'):PW X (.BoolOp .Or (a::b::rest) pos) (tOr tA tB'):=by
 intro wh pins s σ H Q I h;refine isTrue_or (thn (ha pins s σ H _ I h) λc s1 ⟨H1,I1,q1⟩=>?_);cases c with
 |true=>exact⟨H1,I1,q1⟩
 |false=>exact hb wh pins s1 σ H1 Q I1 q1
theorem Ep (ha:PT X a tA):PT X (.UnaryOp .Not a pos) (K9 tA):=by
 intro pins s σ H Q I h;exact isTrue_not (ha pins s σ H (λc H1=>Q (!c) H1) I h)
def HU (ta tb:TE):TE:=λσ H Q=>ta σ H λx H1=>∃c,x=.bl c/\if c=true then tb σ H1 Q else Q (.bl false) H1
def La (ta tb:TE):TE:=λσ H Q=>ta σ H λx H1=>∃c,x=.bl c/\if c=true then Q (.bl true) H1 else tb σ H1 Q
def HV (ta:TE):TE:=λσ H Q=>ta σ H λx H1=>∃c,x=.bl c/\Q (.bl (!c)) H1
theorem Er (h:PE X a t):PE X (.BoolOp op [a] pos) t:=λpins s σ H Q I hw=>BoolOp_one (h pins s σ H Q I hw)
theorem Es (ha:PE X a ta) (hb:PE X (.BoolOp .And (b::rest) pos) tb):PE X (.BoolOp .And (a::b::rest) pos) (HU ta tb):=by
 intro pins s σ H Q I h;refine BoolOp_and (thn (ha pins s σ H _ I h) λv s1 ⟨x,H1,I1,r1,q1⟩=>?_);obtain⟨c,rfl,q1⟩:=q1;cases r1;refine wpAny_truthy_bool ?_;cases c with
 |true=>exact hb pins s1 σ H1 Q I1 q1
 |false=>exact⟨.bl false,H1,I1,rfl,q1⟩
theorem HW (ha:PE X a ta) (hb:PE X (.BoolOp .Or (b::rest) pos) tb):PE X (.BoolOp .Or (a::b::rest) pos) (La ta tb):=by
 intro pins s σ H Q I h;refine BoolOp_or (thn (ha pins s σ H _ I h) λv s1 ⟨x,H1,I1,r1,q1⟩=>?_);obtain⟨c,rfl,q1⟩:=q1;cases r1;refine wpAny_truthy_bool ?_;cases c with
 |false=>exact hb pins s1 σ H1 Q I1 q1
 |true=>exact⟨.bl true,H1,I1,rfl,q1⟩
theorem Et (ha:PE X a ta):PE X (.UnaryOp .Not a pos) (HV ta):=by
 intro pins s σ H Q I h;refine UnaryOp_ (thn (ha pins s σ H _ I h) λv s1 ⟨x,H1,I1,r1,q1⟩=>?_);obtain⟨c,rfl,q1⟩:=q1;cases r1;exact not_of (wpAny_truthy_bool ⟨.bl (!c),H1,I1,rfl,q1⟩)
def tIf (t:TT) (ta tb:TE):TE:=λσ H Q=>t σ H λc H1=>if c=true then ta σ H1 Q else tb σ H1 Q
theorem xN (hc:PT X c tA) (ha:PE X a ta) (hb:PE X b tb):PE X (.IfExp c a b pos) (tIf tA ta tb):=by
 intro pins s σ H Q I h;refine wpAny_IfExp (thn (hc pins s σ H _ I h) λd s1 ⟨H1,I1,q1⟩=>?_);cases d with
 |true=>exact ha pins s1 σ H1 Q I1 q1
 |false=>exact hb pins s1 σ H1 Q I1 q1
end
def SqL (K:Frag) (H:Hp) (a:Addr) (xs:List V):Prop:=
 Rd H a (.lst xs)\/
  ∃ (o:Obj) (its:Array Value) (n:Nat),K.lookup a=some o/\o.cls=.type "list"/\o.dict=none/\o.data=.seq its n/\its.size<=sizeLine/\Vals xs its.toList
def SqT (K:Frag) (H:Hp) (a:Addr) (xs:List V):Prop:=
 Rd H a (.tup xs)\/
  ∃ (o:Obj) (its:Array Value) (n:Nat),K.lookup a=some o/\o.cls=.type "tuple"/\o.data=.seq its n/\its.size<=sizeLine/\Vals xs its.toList
def Lb:Value->Option V
 |.none=>some .non
 |.bool b=>some (.bl b)
 |.int i _=>some (.int i)
 |.str x _=>some (.str x)
 |.bytes b _=>some (.byt b)
 |.float b _=>some (.flt b)
 |.ref a=>some (.ref a)
 |.type n=>some (.ty n)
 |_=>none
theorem RelV.abs (r:RelV x u):Lb u=some x:=by
 cases x with
 |non=>cases r;rfl
 |bl _=>cases r;rfl
 |int _=>obtain⟨t,rfl⟩:=r;rfl
 |str _=>obtain⟨t,rfl⟩:=r;rfl
 |byt _=>obtain⟨t,rfl⟩:=r;rfl
 |flt _=>obtain⟨t,rfl⟩:=r;rfl
 |ref _=>cases r;rfl
 |ty _=>cases r;rfl
theorem RelV.inj (r:RelV x u) (q:RelV y u):x=y:=Option.some.inj (r.abs.symm.trans q.abs)
theorem Vals.inj:∀ {xs ys:List V} {us:List Value},Vals xs us->Vals ys us->xs=ys
 |_,_,_,.nil,.nil=>rfl
 |_,_,_,.cons r t,.cons r' t'=>by rw[r.inj r',Vals.inj t t']
section
variable {X:Cx} {pins:List (Addr×Obj)} {σ:St} {H:Hp} {s:Shared} {a:Addr} {xs ys:List V}
theorem SqL.of {K} (h:H a=some (.lst xs)):SqL K H a xs:=.inl (.inl h)
theorem SqT.of {K} (h:H a=some (.tup xs)):SqT K H a xs:=.inl (.inl h)
theorem Inv.list (I:Inv X pins σ H s) (h:SqL X.K H a xs):∃its:List Value,Vals xs its/\PlainL s.heap a its.toArray/\xs.length<=sizeLine:=by
 rcases h with h|⟨o,its,n,hk,hc,hd,hs,hz,r⟩
 ·obtain⟨z,its,n,r,e⟩:=h.ok I.hok;exact⟨its,r,⟨_,n,e,rfl,rfl,rfl⟩,z⟩
 ·refine⟨its.toList,r,⟨o,n,I.kIn a o hk,hc,hd,by simpa using hs⟩,?_⟩;have e:=r.length;simp only[Array.length_toList]at e;omega
theorem Inv.tuple (I:Inv X pins σ H s) (h:SqT X.K H a xs):∃its:List Value,Vals xs its/\IsTup s.heap a its.toArray/\xs.length<=sizeLine:=by
 rcases h with h|⟨o,its,n,hk,hc,hs,hz,r⟩
 ·obtain⟨z,its,r,p⟩:=h.ok I.hok;exact⟨its,r,p,z⟩
 ·refine⟨its.toList,r,⟨o,I.kIn a o hk,hc,n,by simpa using hs⟩,?_⟩;have e:=r.length;simp only[Array.length_toList]at e;omega
theorem Inv.list_inj (I:Inv X pins σ H s) (h:SqL X.K H a xs) (h':SqL X.K H a ys):xs=ys:=by
 obtain⟨its,r,⟨o,n,e,_,_,d⟩,_⟩:=I.list h;obtain⟨its',r',⟨o',n',e',_,_,d'⟩,_⟩:=I.list h';rw[e]at e';cases e';rw[d]at d';injection d' with d1 _;have:its=its':=by simpa using congrArg Array.toList d1
 subst this;exact r.inj r'
theorem Inv.tuple_inj (I:Inv X pins σ H s) (h:SqT X.K H a xs) (h':SqT X.K H a ys):xs=ys:=by
 obtain⟨its,r,⟨o,e,_,n,d⟩,_⟩:=I.tuple h;obtain⟨its',r',⟨o',e',_,n',d'⟩,_⟩:=I.tuple h';rw[e]at e';cases e';rw[d]at d';injection d' with d1 _;have:its=its':=by simpa using congrArg Array.toList d1
 subst this;exact r.inj r'
end
abbrev Cx.wish (X:Cx) (E:Value->Shared->Prop):Cx:={X with xe:=E}
abbrev Cx.nox (X:Cx):Cx:=X.wish λ_ _=>False
theorem Cx.Ok.wish {X:Cx} (ok:X.Ok) (E:Value->Shared->Prop):(X.wish E).Ok:=
 ⟨ok.mod,ok.kind,ok.glob,ok.blt,ok.above,ok.inj,ok.has,ok.cab,ok.hd,ok.frames,ok.stk,ok.exf,ok.bs,ok.bsz,ok.noex,ok.exfs,ok.funs,ok.frf⟩
theorem Cx.Ok.unwish {X:Cx} (ok:(X.wish E).Ok):X.Ok:=
 ⟨ok.mod,ok.kind,ok.glob,ok.blt,ok.above,ok.inj,ok.has,ok.cab,ok.hd,ok.frames,ok.stk,ok.exf,ok.bs,ok.bsz,ok.noex,ok.exfs,ok.funs,ok.frf⟩
section
variable {X:Cx} {pins:List (Addr×Obj)} {σ:St} {H:Hp} {s:Shared} {E:Value->Shared->Prop}
theorem Inv.wish (I:Inv X pins σ H s) (E:Value->Shared->Prop):Inv (X.wish E) pins σ H s:=⟨I.ok.wish E,I.os,I.bare,I.base,I.loc,I.cell,I.free,I.freeC,I.pin,I.hok,I.len⟩
theorem Inv.unwish (I:Inv (X.wish E) pins σ H s):Inv X pins σ H s:=⟨I.ok.unwish,I.os,I.bare,I.base,I.loc,I.cell,I.free,I.freeC,I.pin,I.hok,I.len⟩
theorem SP.unwish {D} (h:SP (X.wish E) pins D f s'):SP X pins D f s':=by
 cases f with
 |next=>obtain⟨σ',H',I,q⟩:=h;exact⟨σ',H',I.unwish,q⟩
 |brk=>obtain⟨σ',H',I,q⟩:=h;exact⟨σ',H',I.unwish,q⟩
 |cont=>obtain⟨σ',H',I,q⟩:=h;exact⟨σ',H',I.unwish,q⟩
 |ret u=>obtain⟨v,σ',H',I,r,q⟩:=h;exact⟨v,σ',H',I.unwish,r,q⟩
theorem PSs.nox {st} (h:PSs X.nox st t):PSs X st t:=λpins s σ H D I hw=>
 wpAny_mono (h pins s σ H D (I.wish _) hw) (λ_ _ q=>q.unwish) λ_ _ z=>False.elim z
end
section
variable {X:Cx} {st:Stmt} {rest:List Stmt} {t u:TS} {e:Expr} {te:TE} {pos:Pos}
def xO:TS:=λD σ H=>D.nx σ H
def Lc (t u:TS):TS:=λD σ H=>t {D with nx:=u D} σ H
theorem pss_nil:PSs X [] xO:=λ_ _ σ H _ I h=>wpAny_execs_nil ⟨σ,H,I,h⟩
theorem l7 (h1:PS X st t) (h2:PSs X rest u):PSs X (st::rest) (Lc t u):=by
 intro pins s σ H D I h;refine wpAny_execs_cons (thn (h1 pins s σ H {D with nx:=u D} I h) λf s1 q=>?_);cases f with
 |next=>
  obtain⟨σ',H',I',q⟩:=q;exact h2 pins s1 σ' H' D I' q
 |ret v=>exact q
 |brk=>exact q
 |cont=>exact q
def Eu:TS:=λD σ H=>D.bk σ H
def HX:TS:=λD σ H=>D.ct σ H
theorem ps_pass:PS X (.Pass pos) xO:=λ_ _ σ H _ I h=>wpAny_Pass ⟨σ,H,I,h⟩
theorem ps_break:PS X (.Break pos) Eu:=λ_ _ σ H _ I h=>wpAny_Break ⟨σ,H,I,h⟩
theorem ps_continue:PS X (.Continue pos) HX:=λ_ _ σ H _ I h=>wpAny_Continue ⟨σ,H,I,h⟩
theorem Inv.quiet {σ:St} (I:Inv X pins σ H s):interactive X.env=false:=by simp[interactive,I.ok.kind]
theorem ps_doc:PS X (.Expr (.Constant (.str x) j pos) pos') xO:=λ_ s σ H _ I h=>wpAny_Expr (Calls.Constant_str (show SP X _ _ .next {s with toks:=s.toks+1}from⟨σ,H,I.tok _,h⟩)) I.quiet
def HY (te:TE):TS:=λD σ H=>te σ H λ_ H1=>D.nx σ H1
theorem dj (he:PE X e te) (hs:swapsWith e none pos.line X.env=pure false:=by rfl):PS X (.Expr e pos) (HY te):=by
 intro pins s σ H D I h;exact wpAny_Expr_any (thn (he pins s σ H _ I h) λv s1 ⟨x,H1,I1,r1,q1⟩=>⟨σ,H1,I1,q1⟩) I.quiet hs
def Ld (te:TE):TS:=λD σ H=>te σ H D.rt
theorem tf (he:PE X e te):PS X (.Return (some e) pos) (Ld te):=by
 intro pins s σ H D I h;exact wpAny_Return_some (thn (he pins s σ H _ I h) λv s1 ⟨x,H1,I1,r1,q1⟩=>⟨x,σ,H1,I1,r1,q1⟩)
def HZ:TS:=λD _ H=>D.rt .non H
theorem ps_retN:PS X (.Return none pos) HZ:=λ_ _ σ H _ I h=>wpAny_Return_none ⟨.non,σ,H,I,rfl,h⟩
def Le (c:TT) (t u:TS):TS:=λD σ H=>c σ H λb H1=>if b=true then t D σ H1 else u D σ H1
theorem H0 (hc:PT X c tc) (ha:PSs X a t) (hb:PSs X b u):PS X (.If c a b pos) (Le tc t u):=by
 intro pins s σ H D I h;refine wpAny_If (thn (hc pins s σ H _ I h) λd s1 ⟨H1,I1,q1⟩=>?_);cases d with
 |true=>exact ha pins s1 σ H1 D I1 q1
 |false=>exact hb pins s1 σ H1 D I1 q1
def xP:TS:=λ_ _ _=>False
theorem ps_never:PS X st xP:=λ_ _ _ _ _ _ h=>h.elim
theorem pss_never:PSs X sts xP:=λ_ _ _ _ _ _ h=>h.elim
end
abbrev TG:=V->St->Hp->(St->Hp->Prop)->Prop
abbrev TGs:=List V->St->Hp->(St->Hp->Prop)->Prop
def PG (X:Cx) (target:Expr) (t:TG):Prop:=
 ∀ (pins:List (Addr×Obj)) (s:Shared) (σ:St) (H:Hp) (v:V) (u:Value) (Q:St->Hp->Prop),Inv X pins σ H s->RelV v u->t v σ H Q->
  wpAny (model X.prog X.w) X.A (assign target X.env u) (λ_ s'=>∃σ' H',Inv X pins σ' H' s'/\Q σ' H') X.xe s
def PGs (X:Cx) (ts:List Expr) (t:TGs):Prop:=
 ∀ (pins:List (Addr×Obj)) (s:Shared) (σ:St) (H:Hp) (vs:List V) (us:List Value) (Q:St->Hp->Prop),Inv X pins σ H s->Vals vs us->t vs σ H Q->
  wpAny (model X.prog X.w) X.A (assignInOrder ((assignEach ts X.env).map (·.2)) us) (λ_ s'=>∃σ' H',Inv X pins σ' H' s'/\Q σ' H') X.xe s
abbrev H9:=V->V->V->Hp->(Hp->Prop)->Prop
def Ia (X:Cx) (t:H9):Prop:=
 ∀ (pins:List (Addr×Obj)) (s:Shared) (σ:St) (H:Hp) (o i v:V) (ov iv u:Value) (Q:Hp->Prop),Inv X pins σ H s->RelV o ov->RelV i iv->RelV v u->t o i v H Q->
  wpAny (model X.prog X.w) X.A (setItem ov iv u) (λ_ s'=>∃H',Inv X pins σ H' s'/\Q H') X.xe s
section
variable {X:Cx} {pos:Pos}
def qZ (i:Nat):TG:=λv σ H Q=>Q (σ.set i (some v)) H
theorem uZ (hN:X.N.Nodup) (hi:X.N[i]?=some x) (hx:Loc X.env.scope x) (hf:X.fn x=true\/X.env.scope.names.lookup x=some .local:=by first|exact .inl rfl|exact .inr rfl|assumption):PG X (.Name x pos) (qZ i):=by
 intro pins s σ H v u Q I r h;exact wpAny_assign_Name (qY I hN hi hx r (λs' I'=>⟨_,H,I',h⟩) hf)
def Lf:TGs:=λvs σ H Q=>vs=[]/\Q σ H
def Ib (t:TG) (u:TGs):TGs:=λvs σ H Q=>∃v r,vs=v::r/\t v σ H λσ' H'=>u r σ' H' Q
theorem pgs_nil:PGs X [] Lf:=by
 intro pins s σ H vs us Q I r h;obtain⟨e,h⟩:=h;subst e;cases r;exact assignInOrder_nil ⟨σ,H,I,h⟩
theorem q0 (h1:PG X e t) (h2:PGs X es u) (hs:(assignEach (e::es) X.env).map (·.2)=assign e X.env::(assignEach es X.env).map (·.2):=by rfl):PGs X (e::es) (Ib t u):=by
 intro pins s σ H vs us Q I r h;obtain⟨v,vr,e1,h⟩:=h;subst e1;cases r with
 |cons r rr=>
  rw[hs];refine assignInOrder_cons (thn (h1 pins s σ H _ _ _ I r h) λ_ s1 ⟨σ1,H1,I1,q1⟩=>?_);exact h2 pins s1 σ1 H1 _ _ Q I1 rr q1
def Lg (K:Frag) (n:Nat) (t:TGs):TG:=λv σ H Q=>∃a xs,v=.ref a/\SqT K H a xs/\xs.length=n/\t xs σ H Q
theorem xQ {k} (hc:X.calm=true) (h:PGs X es t) (hn:(assignEach es X.env).length=n:=by rfl) (hst:(assignEach es X.env).findIdx? (·.1)=none:=by rfl):PG X (.Tuple es k pos) (Lg X.K n t):=by
 intro pins s σ H v u Q I r hw;obtain⟨a,xs,e1,hq,hl,hw⟩:=hw;subst e1;cases r;obtain⟨its,rv,ht,hz⟩:=I.tuple hq;refine assign_Tuple_tuple (I.ok.hd hc) ht (by simp[hn,<-hl,rv.length]) hst λh' hx=>?_;have I1:Inv X pins σ H {s with heap:=h'}:=I.kept (t':=s.toks) λb o e=>hx b o (Nat.ne_of_lt (Heap.lt_size e)) e;exact h pins _ σ H xs _ Q I1 (by simpa using rv) hw
def Lh (to ti:TE) (t:H9):TG:=λv σ H Q=>to σ H λo H1=>ti σ H1 λi H2=>t o i v H2 λH3=>Q σ H3
theorem Ew (ho:PE X o to) (hi:PE X i ti) (hs:Ia X t) (ha:∀v,assign (.Subscript o i pos) X.env v=(do
  let ov<-holding [v] (eval o X.env)
  let iv<-holding [v,ov] (eval i X.env)
  standAt pos
  holding [v,ov,iv] (setItem ov iv v)
  release [v,ov,iv] []):=by intro _;rfl):PG X (.Subscript o i pos) (Lh to ti t):=by
 intro pins s σ H v u Q I r h
 rw[ha]
 refine wpAny_bind (wpAny_holding (thn (ho pins s σ H _ I h) λov s1 ⟨x,H1,I1,r1,q1⟩=>?_))
 refine wpAny_bind (wpAny_holding (thn (hi pins s1 σ H1 _ I1 q1) λiv s2 ⟨y,H2,I2,r2,q2⟩=>?_))
 refine wpAny_bind (wpAny_standAt (wpAny_bind (wpAny_holding (thn (hs pins s2 σ H2 x y v ov iv u _ I2 r1 r2 r q2) λ_ s3 ⟨H3,I3,q3⟩=>?_))))
 exact wpAny_release ⟨σ,H3,I3,q3⟩
def xR (te:TE) (g:TG):TS:=λD σ H=>te σ H λx H1=>g x σ H1 D.nx
theorem tj (he:PE X e te) (hg:PG X tg g) (hs:swapsWithSole [tg] e pos.line X.env=pure false:=by rfl) (hw:swappedStores [tg] e X.env=pure none:=by rfl) (h1:(assignEach [tg] X.env).map (·.2)=[assign tg X.env]:=by rfl):PS X (.Assign [tg] e pos) (xR te g):=by
 intro pins s σ H D I h;refine wpAny_Assign_stores (thn (he pins s σ H _ I h) λv s1 ⟨x,H1,I1,r1,q1⟩=>?_) hs hw;rw[h1];exact thn (hg pins s1 σ H1 x v _ I1 r1 q1) λ_ s2 q=>q
theorem Ex (hN:X.N.Nodup) (hi:X.N[i]?=some x) (hx:Loc X.env.scope x) (he:PE X e te) (hs:swapsWith e (some (.Name x pos')) pos.line X.env=pure false:=by rfl) (hf:X.fn x=true\/X.env.scope.names.lookup x=some .local:=by first|exact .inl rfl|exact .inr rfl|assumption):
  PS X (.Assign [.Name x pos'] e pos) (xR te (qZ i)):=by
 intro pins s σ H D I h
 refine wpAny_Assign_Name (thn (he pins s σ H _ I h) λv s1 ⟨y,H1,I1,r1,q1⟩=>?_) hs
 exact qY I1 hN hi hx r1 (λs2 I2=>⟨_,H1,I2,q1⟩) hf
end
section
variable {X:Cx} {pos:Pos}
end
structure It where
 go:Nat->Hp->Prop
 yld:Nat->Hp->V->Hp->Prop
 stop:Nat->Hp->Prop
def iR (X:Cx) (pins:List (Addr×Obj)) (H:Hp) (b:Addr):Prop:=
 H b=none/\b≠X.env.locals/\b ∉ X.fs/\(b∈X.ex\/X.s₀.heap.objs.size<=b)/\(∀x c,X.env.cells.lookup x=some c->c≠b)/\∀p∈X.pn++pins,p.1≠b
theorem Inv.fpOk {σ:St} {b:Addr} (I:Inv X pins σ H s) (hb:s.heap.objs.size<=b) (hn:H' b=none):iR X pins H' b:=by
 refine⟨hn,Nat.ne_of_gt (lt_of_lt_of_le I.lt hb),I.nofs hb,.inr (Nat.le_trans I.sz hb),λx c e z=>?_,λp hp z=>?_⟩
 ·obtain⟨v,q⟩:=I.cell x c e;exact absurd (lt_of_lt_of_le q.lt (by rw[z];exact hb)) (Nat.lt_irrefl _)
 ·exact absurd (lt_of_lt_of_le (Heap.lt_size (I.pin p hp).1) (by rw[z];exact hb)) (Nat.lt_irrefl _)
structure Turn (P:Program) (w:World) (K:Frag) (tg:Expr) (J:It) (fp:List Addr) (it:Addr) (tn:Nat->Heap->Prop):Prop where
 mem:it∈fp
 obj:∀i h,tn i h->∀b∈fp,∃o,h.get? b=some o/\∀v,o.data≠.cell v
 keep:∀i h h',tn i h->(∀b∈fp,∀o,h.get? b=some o->h'.get? b=some o)->tn i h'
 item:∀ (X:Cx),X.prog=P->X.w=w->X.K=K->X.calm=true->∀ (i:Nat) (pins:List (Addr×Obj)) (s:Shared) (σ:St) (H:Hp) (E:Value->Shared->Prop),Inv X pins σ H s->(∀b∈fp,iR X pins H b)->tn i s.heap->J.go i H->
  wpAny (model P w) X.A (pyNext (.ref it)) (λr s1=>∃u,r=some u/\
   wpAny (model P w) X.A (letOwnedTupleGo tg (.ref it) u) (λ_ s2=>∃x H',Inv X pins σ H' s2/\RelV x u/\J.yld i H x H'/\tn (i+1) s2.heap/\∀b∈fp,H' b=none) E s1) E s
 done:∀ (X:Cx),X.prog=P->X.w=w->X.K=K->X.calm=true->∀ (i:Nat) (pins:List (Addr×Obj)) (s:Shared) (σ:St) (H:Hp) (E:Value->Shared->Prop),Inv X pins σ H s->(∀b∈fp,iR X pins H b)->tn i s.heap->J.stop i H->
  wpAny (model P w) X.A (pyNext (.ref it)) (λr s1=>r=none/\Inv X pins σ H s1) E s
 self:∀ (A:Around) (i:Nat) (s:Shared) (Q:Value->Shared->Prop) (E:Value->Shared->Prop),tn i s.heap->Q (.ref it) s->wpAny (model P w) A (pyIter (.ref it)) Q E s
abbrev TI:=St->Hp->(It->Hp->Prop)->Prop
def PIE (X:Cx) (pins:List (Addr×Obj)) (σ:St) (tg:Expr) (R:It->Hp->Prop) (itv:Value) (s2:Shared):Prop:=
 ∃ (it:Addr) (fp:List Addr) (tn:Nat->Heap->Prop) (J:It) (H':Hp),itv=.ref it/\Inv X pins σ H' s2/\Turn X.prog X.w X.K tg J fp it tn/\tn 0 s2.heap/\(∀b∈fp,iR X pins H' b)/\R J H'
def PI (X:Cx) (tg iter:Expr) (wi:TI):Prop:=
 ∀ (pins:List (Addr×Obj)) (s:Shared) (σ:St) (H:Hp) (R:It->Hp->Prop),Inv X pins σ H s->wi σ H R->
  wpAny (model X.prog X.w) X.A (eval iter X.env) (λv s1=>wpAny (model X.prog X.w) X.A (pyIter v) (PIE X pins σ tg R) X.xe s1) X.xe s
theorem u5 (ho:s.heap.get? it = some o) (hc:o.cls = .type n) (hd:o.data = .fields vs) (hn:["enumerate", "zip", "dict_itemiterator", "dict_reverseitemiterator", "odict_iterator", "itertools.zip_longest", "itertools.pairwise"].contains n = false) (hQ:Q () s):wpAny M A (letOwnedTupleGo tg (.ref it) u) Q E s:=by
  unfold letOwnedTupleGo
  cases tg <;> first
    | exact wpAny_pure hQ
    | (cases u <;> first
        | exact wpAny_pure hQ
        | (refine wpAny_bind (wpAny_load ho ?_)
           rw [hc,hd]
           show wpAny M A (if (["enumerate", "zip", "dict_itemiterator", "dict_reverseitemiterator", "odict_iterator", "itertools.zip_longest", "itertools.pairwise"].contains n && vs[0]? == some (rawInt _)) = true then _ else _) Q E s
           rw [if_neg (by intro h; rw [hn,Bool.false_and] at h; cases h)]
           exact wpAny_pure hQ))
def Itl (K:Frag) (a:Addr):It:=
 ⟨λi H=>∃xs x,SqL K H a xs/\xs[i]?=some x,λi H x H'=>H'=H/\∀xs,SqL K H a xs->xs[i]?=some x,λi H=>∃xs,SqL K H a xs/\xs.length<=i⟩
def Itt (K:Frag) (a:Addr):It:=
 ⟨λi H=>∃xs x,SqT K H a xs/\xs[i]?=some x,λi H x H'=>H'=H/\∀xs,SqT K H a xs->xs[i]?=some x,λi H=>∃xs,SqT K H a xs/\xs.length<=i⟩
def Itr (lo:Int) (n:Nat):It:=⟨λi _=>i<n,λi H x H'=>H'=H/\x=.int (lo+i),λi _=>n<=i⟩
theorem wJ {P:Program} {w:World} {K:Frag} {tg:Expr} (a it:Addr):Turn P w K tg (Itl K a) [it] it (λi h=>h.IsListIter it a i) where
 mem:=by simp
 obj:=λi h st b hb=>by
  have e:b=it:=by simpa using hb
  subst e;obtain⟨o,e,c,d⟩:=st;exact⟨o,e,λv z=>by rw[d]at z;cases z⟩
 keep:=λi h h' st k=>st.at λo e=>k it (by simp) o e
 item:=by
  intro X hP hw hK hc i pins s σ H E I hf st hg;subst hP hw hK;obtain⟨xs,x,hq,hx⟩:=hg;obtain⟨its,rv,p,hz⟩:=I.list hq;obtain⟨u,hu,ru⟩:=rv.get hx;obtain⟨f0,f1,f2,f3,f4,f5⟩:=hf it (by simp);refine wpAny_pyNext_list_item st p.isList (x:=u) (by simpa using hu) λh' st' sb=>?_;have I1:Inv X pins σ H {s with heap:=h'}:=I.turned (t':=s.toks) (λb o hb e=>(sb.2 b hb).trans e) f0 f1 f3 f4 f5;obtain⟨o,e,c,d⟩:=id st';exact⟨u,rfl,u5 (s:={s with heap:=h'}) e c d (by decide) ⟨x,H,I1,ru,⟨rfl,λys hy=>by rw[I.list_inj hy hq];exact hx⟩,st',λb hb=>(hf b hb).1⟩⟩
 done:=by
  intro X hP hw hK hc i pins s σ H E I hf st hg;subst hP hw hK;obtain⟨xs,hq,hx⟩:=hg;obtain⟨its,rv,p,hz⟩:=I.list hq;obtain⟨f0,f1,f2,f3,f4,f5⟩:=hf it (by simp);have hl:=rv.length;exact wpAny_pyNext_list_end (I.ok.hd hc) st p.isList (by simp;omega) λh' eb=>⟨rfl,I.turned (t':=s.toks) (λb o hb e=>eb b o hb e) f0 f1 f3 f4 f5⟩
 self:=λ_ _ _ _ _ st h=>wpAny_pyIter_listiter st h
theorem tm {P:Program} {w:World} {K:Frag} {tg:Expr} (a it:Addr):Turn P w K tg (Itt K a) [it] it (λi h=>h.IsTupleIter it a i) where
 mem:=by simp
 obj:=λi h st b hb=>by
  have e:b=it:=by simpa using hb
  subst e;obtain⟨o,e,c,d⟩:=st;exact⟨o,e,λv z=>by rw[d]at z;cases z⟩
 keep:=λi h h' st k=>st.at λo e=>k it (by simp) o e
 item:=by
  intro X hP hw hK hc i pins s σ H E I hf st hg;subst hP hw hK;obtain⟨xs,x,hq,hx⟩:=hg;obtain⟨its,rv,p,hz⟩:=I.tuple hq;obtain⟨u,hu,ru⟩:=rv.get hx;obtain⟨f0,f1,f2,f3,f4,f5⟩:=hf it (by simp);refine wpAny_pyNext_tuple_item st (show s.heap.IsTuple a its.toArray from p) (x:=u) (by simpa using hu) λh' st' sb=>?_;have I1:Inv X pins σ H {s with heap:=h'}:=I.turned (t':=s.toks) (λb o hb e=>(sb.2 b hb).trans e) f0 f1 f3 f4 f5;obtain⟨o,e,c,d⟩:=id st';exact⟨u,rfl,u5 (s:={s with heap:=h'}) e c d (by decide) ⟨x,H,I1,ru,⟨rfl,λys hy=>by rw[I.tuple_inj hy hq];exact hx⟩,st',λb hb=>(hf b hb).1⟩⟩
 done:=by
  intro X hP hw hK hc i pins s σ H E I hf st hg;subst hP hw hK;obtain⟨xs,hq,hx⟩:=hg;obtain⟨its,rv,p,hz⟩:=I.tuple hq;obtain⟨f0,f1,f2,f3,f4,f5⟩:=hf it (by simp);have hl:=rv.length;exact wpAny_pyNext_tuple_end (I.ok.hd hc) st (show s.heap.IsTuple a its.toArray from p) (by simp;omega) λh' eb=>⟨rfl,I.turned (t':=s.toks) (λb o hb e=>eb b o hb e) f0 f1 f3 f4 f5⟩
 self:=λ_ _ _ _ _ st h=>wpAny_pyIter_tupleiter st h
theorem tq {P:Program} {w:World} {K:Frag} {tg:Expr} (it:Addr) (lo:Int) (n:Nat):Turn P w K tg (Itr lo n) [it] it (λi h=>IsRangeIter h it (lo+(i:Nat)*1) ((n:Int)-(i:Nat)) 1) where
 mem:=by simp
 obj:=λi h st b hb=>by
  have e:b=it:=by simpa using hb
  subst e;exact⟨_,st,λv z=>by
   have z':Data.fields _=Data.cell v:=z;cases z'⟩
 keep:=λi h h' st k=>k it (by simp) _ st
 item:=by
  intro X hP hw hK hc i pins s σ H E I hf st hg;subst hP hw hK;obtain⟨f0,f1,f2,f3,f4,f5⟩:=hf it (by simp);have W:=Walks.range (prog:=X.prog) (w:=X.w) (I.ok.hd hc) it lo 1 n;refine W.item i s _ _ hg st λv h' tk hv st' kk=>?_;obtain⟨t,rfl⟩:=hv;have I1:Inv X pins σ H {s with heap:=h',toks:=tk}:=I.turned (λb o hb e=>kk b o (by simpa using hb) e) f0 f1 f3 f4 f5;refine⟨_,rfl,u5 (s:={s with heap:=h',toks:=tk}) (n:="range_iterator") st' rfl rfl (by decide) ⟨.int (lo+i),H,I1,⟨t,?_⟩,⟨rfl,rfl⟩,st',λb hb=>(hf b hb).1⟩⟩;rw[Int.mul_one]
 done:=by
  intro X hP hw hK hc i pins s σ H E I hf st hg;subst hP hw hK;obtain⟨f0,f1,f2,f3,f4,f5⟩:=hf it (by simp);exact wpAny_pyNext_range_end (I.ok.hd hc) st (by have:n<=i:=hg;omega) λh' eb=>⟨rfl,I.turned (t':=s.toks) (λb o hb e=>eb b o hb e) f0 f1 f3 f4 f5⟩
 self:=λ_ _ _ _ _ st h=>wpAny_pyIter_rangeiter st h
section
variable {X:Cx} {tg:Expr}
theorem ra {σ:St} {lo hi} (I:Inv X pins σ H s) (h1:-(2^62)<=lo) (h2:lo<2^62) (h3:-(2^62)<=hi) (h4:hi<2^62) (q:R (Itr lo (hi-lo).toNat) H):wpAny (model X.prog X.w) X.A (pyIter (.ref s.heap.objs.size)) (PIE X pins σ tg R) E {s with heap:=s.heap.push {cls:=.type "range",data:=.fields #[.int lo t,.int hi u,.int 1 v]},toks:=tk}:=by
 refine wpAny_pyIter_range (IsRange.new ..) (small_one h1 h2 h3 h4) ?_;have I1:Inv X pins σ H {s with heap:=s.heap.push {cls:=.type "range",data:=.fields #[.int lo t,.int hi u,.int 1 v]},toks:=tk}:=I.kept λb o e=>Heap.get?_push_of_some _ e;refine⟨(s.heap.push {cls:=.type "range",data:=.fields #[.int lo t,.int hi u,.int 1 v]}).objs.size,[(s.heap.push {cls:=.type "range",data:=.fields #[.int lo t,.int hi u,.int 1 v]}).objs.size],_,_,H,rfl,
  I1.kept (t':=tk) λb o e=>Heap.get?_push_of_some _ e,tq _ lo (hi-lo).toNat,?_,λb hb=>?_,q⟩
 ·have e1:lo+((0:Nat):Int)*1=lo:=by simp
  have e2:(((hi-lo).toNat:Nat):Int)-((0:Nat):Int)=Builtin.Range.rangeSize lo hi 1:=by rw[rangeSize_one];split<;>omega
  show IsRangeIter _ _ (lo+((0:Nat):Int)*1) ((((hi-lo).toNat:Nat):Int)-((0:Nat):Int)) 1;rw[e1,e2];exact Heap.get?_push_size _ rfl
 ·have e:b=(s.heap.push {cls:=.type "range",data:=.fields #[.int lo t,.int hi u,.int 1 v]}).objs.size:=by simpa using hb
  subst e;exact I1.fpOk (le_refl _) (I1.hok.fresh (le_refl _))
def Ic (ta:TA):TI:=λσ H R=>ta σ H λvs H1=>∃j:Int,vs=[.int j]/\ -(2^62)<=j/\j<2^62/\R (Itr 0 j.toNat) H1
def Ie (ta:TA):TI:=λσ H R=>ta σ H λvs H1=>∃i j:Int,vs=[.int i,.int j]/\(-(2^62)<=i/\i<2^62/\ -(2^62)<=j/\j<2^62)/\R (Itr i (j-i).toNat) H1
theorem oA (hg:Gl X "range") (hm:X.mg "range"=none) (ha:PA X [a] ta) (hs:starEach [a] X.env=[(false,eval a X.env)]:=by rfl):PI X tg (.Call (.Name "range" p) [a] [] pos) (Ic ta):=by
 intro pins s σ H R I h;refine Call_ (cU I hg hm boot_range (PyProof.Rows.callWith_type1 (thn (ha pos pins s σ H _ I h) λus s1 ⟨vs,H1,I1,r1,q1⟩=>?_) hs rfl));obtain⟨j,e,q1,q2,q⟩:=q1;subst e;cases r1 with
 |cons r rr=>
  cases rr;obtain⟨t,rfl⟩:=r;exact call_range_1 (ra I1 (by omega) (by omega) q1 q2 (by simpa using q))
theorem wK {p pos} (hg:Gl X "range") (hm:X.mg "range"=none) (ha:PA X [a,b] ta) (hs:starEach [a,b] X.env=[(false,eval a X.env),(false,eval b X.env)]:=by rfl) (hs2:starEach [b] X.env=[(false,eval b X.env)]:=by rfl):
  PI X tg (.Call (.Name "range" p) [a,b] [] pos) (Ie ta):=by
 intro pins s σ H R I h
 refine Call_ (cU I hg hm boot_range (PyProof.Rows.callWith_type1 (thn (ha pos pins s σ H _ I h) λus s1 ⟨vs,H1,I1,r1,q1⟩=>?_) (by rw[hs,hs2]) (by rw[hs2];rfl)))
 obtain⟨i,j,e,⟨q1,q2,q3,q4⟩,q⟩:=q1
 subst e
 cases r1 with
 |cons r rr=>
  cases rr with
  |cons r' rr=>
   cases rr;obtain⟨t,rfl⟩:=r;obtain⟨t',rfl⟩:=r';exact call_range_2 (ra I1 q1 q2 q3 q4 q)
def Ig (wi:TI) (g:TG) (tb:TS):TS:=λD σ H=>wi σ H λJ H1=>∃W:Nat->Nat->St->Hp->Prop,(∃m,W 0 m σ H1)/\∀i m σ H,W i m σ H->
 (J.stop i H/\D.nx σ H)\/(J.go i H/\∃N:St->Hp->Prop,(∀σ' H',N σ' H'->∃m',m'<m/\W (i+1) m' σ' H')/\∀x H',J.yld i H x H'->g x σ H' λσ2 H2=>tb {D with nx:=N,ct:=N,bk:=D.nx} σ2 H2)
def l8 (fp:List Addr) (h:Heap):List (Addr×Obj):=fp.filterMap λb=>(h.get? b).map λo=>(b,o)
theorem fY (hb:b∈fp) (e:h.get? b=some o):(b,o)∈l8 fp h:=List.mem_filterMap.mpr ⟨b,hb,by rw[e];rfl⟩
theorem wL (hp:p∈l8 fp h):p.1∈fp/\h.get? p.1=some p.2:=by
 obtain⟨b,hb,e⟩:=List.mem_filterMap.mp hp;cases q:h.get? b with
 |none=>rw[q]at e;cases e
 |some o=>
  rw[q]at e;have e':(b,o)=p:=Option.some.inj e;subst e';exact⟨hb,q⟩
theorem Inv.pinned {σ:St} (I:Inv X pins σ H s) (hf:∀b∈fp,iR X pins H b) (ho:∀b∈fp,∃o,s.heap.get? b=some o/\∀v,o.data≠.cell v):Inv X (pins++l8 fp s.heap) σ H s:=
 I.pins_of λp hp=>(mem_append.mp hp).elim (λz=>I.pin p (mem_append_right _ z)) λz=>by
  obtain⟨hb,e⟩:=wL z;obtain⟨f0,f1,f2,_⟩:=hf p.1 hb;obtain⟨o,e',d⟩:=ho p.1 hb;rw[e]at e';cases e';exact⟨e,f0,f1,f2,d⟩
theorem Inv.unpinned {σ:St} (I:Inv X (pins++pl) σ H s):Inv X pins σ H s:=I.pins_of λp hp=>I.pin p (mem_append_right _ (mem_append_left _ hp))
theorem tu (hp:PassesOwn (model X.prog X.w) X.A X.env X.xe) (hc:X.calm=true) (hi:PI X tg iter wi) (hg:PG X tg g) (hb:PSs X body tb) (hs:∀x,foldedSetIterable iter X.env x=pure x:=by intro _;rfl):PS X (.For tg iter body [] pos) (Ig wi g tb):=by
 intro pins s σ H D I h
 refine wpAny_For (thn (hi pins s σ H _ I h) λv s1 h1=>thn h1 λitv s2 h2=>?_) hs
 obtain⟨it,fp,tn,J,H2,e,I2,T,st2,f2,W,⟨m0,w0⟩,turn⟩:=h2
 subst e
 -- what stays true of the iterator's objects through the loop
 have stat:∀ {H':Hp},(∀b∈fp,H' b=none)->∀b∈fp,iR X pins H' b:=λhn b hb=>⟨hn b hb,(f2 b hb).2⟩
 refine codeAny_forLoop_any (λn s'=>∃i σ' H',Inv X pins σ' H' s'/\tn i s'.heap/\(∀b∈fp,H' b=none)/\W i n σ' H') ?_ m0 ⟨0,σ,H2,I2,st2,λb hb=>(f2 b hb).1,w0⟩
 rintro n s3 ⟨i,σ3,H3,I3,st3,fr3,w3⟩
 rcases turn i n σ3 H3 w3 with⟨stop,qn⟩|⟨go,N,hN,step⟩
 ·refine wpAny_passesOwn hp (thn (T.done X rfl rfl rfl hc i pins s3 σ3 H3 X.xe I3 (stat fr3) st3 stop) λr s4 ⟨hr,I4⟩=>?_)
  subst hr
  exact wpAny_execs_nil ⟨σ3,H3,I4,qn⟩
 ·refine wpAny_passesOwn hp (thn (T.item X rfl rfl rfl hc i pins s3 σ3 H3 X.xe I3 (stat fr3) st3 go) λr s4 ⟨u,hr,h4⟩=>?_)
  subst hr
  refine wpAny_passesOwn hp (thn h4 λ_ s5 ⟨x,H5,I5,r5,y5,st5,fr5⟩=>?_)
  have I5':=I5.pinned (stat fr5) (T.obj _ _ st5)
  refine wpAny_passesOwn hp (thn (hg _ s5 σ3 H5 x u _ I5' r5 (step x H5 y5)) λ_ s6 ⟨σ6,H6,I6,q6⟩=>?_)
  refine wpAny_passesOwn hp (thn (hb _ s6 σ6 H6 _ I6 q6) λf s7 q7=>?_)
  have again:∀ {σ7:St} {H7:Hp},Inv X (pins++l8 fp s5.heap) σ7 H7 s7->N σ7 H7->∃m,m<n/\∃i σ' H',Inv X pins σ' H' s7/\tn i s7.heap/\(∀b∈fp,H' b=none)/\W i m σ' H':=λ{σ7 H7} I7 n7=>by
   obtain⟨m',hm,w7⟩:=hN σ7 H7 n7
   refine⟨m',hm,i+1,σ7,H7,I7.unpinned,T.keep _ _ _ st5 λb hb o e=>(I7.pin (b,o) (mem_append_right _ (mem_append_right _ (fY hb e)))).1,λb hb=>?_,w7⟩
   obtain⟨o,e,d⟩:=T.obj _ _ st5 b hb
   exact(I7.pin (b,o) (mem_append_right _ (mem_append_right _ (fY hb e)))).2.1
  cases f with
  |next=>obtain⟨σ7,H7,I7,n7⟩:=q7;exact again I7 n7
  |cont=>obtain⟨σ7,H7,I7,n7⟩:=q7;exact again I7 n7
  |brk=>obtain⟨σ7,H7,I7,q7⟩:=q7;exact⟨σ7,H7,I7.unpinned,q7⟩
  |ret v=>obtain⟨x7,σ7,H7,I7,r7,q7⟩:=q7;exact⟨x7,σ7,H7,I7.unpinned,r7,q7⟩
end
abbrev R2:=V->V->Hp->VK->Prop
def OpR (X:Cx) (f:Value->Value->Sem Value) (r:R2):Prop:=
 ∀ (pins:List (Addr×Obj)) (s:Shared) (σ:St) (H:Hp) (x y:V) (v u:Value) (Q:VK),Inv X pins σ H s->RelV x v->RelV y u->r x y H Q->
  wpAny (model X.prog X.w) X.A (f v u) (EP X pins σ Q) X.xe s
def UnR (X:Cx) (f:Value->Sem Value) (r:V->Hp->VK->Prop):Prop:=
 ∀ (pins:List (Addr×Obj)) (s:Shared) (σ:St) (H:Hp) (x:V) (v:Value) (Q:VK),Inv X pins σ H s->RelV x v->r x H Q->
  wpAny (model X.prog X.w) X.A (f v) (EP X pins σ Q) X.xe s
def dM (X:Cx) (f:Value) (r:List V->Hp->VK->Prop):Prop:=
 ∀ (pins:List (Addr×Obj)) (s:Shared) (σ:St) (H:Hp) (xs:List V) (us:List Value) (Q:VK),Inv X pins σ H s->Vals xs us->r xs H Q->
  wpAny (model X.prog X.w) X.A (call f us) (EP X pins σ Q) X.xe s
def Li (X:Cx) (r:V->Hp->(Bool->Hp->Prop)->Prop):Prop:=
 ∀ (pins:List (Addr×Obj)) (s:Shared) (σ:St) (H:Hp) (x:V) (v:Value) (Q:Bool->Hp->Prop),Inv X pins σ H s->RelV x v->r x H Q->
  wpAny (model X.prog X.w) X.A (truthy v) (TP X pins σ Q) X.xe s
def tOp (r:R2) (ta tb:TE):TE:=λσ H Q=>ta σ H λx H1=>tb σ H1 λy H2=>r x y H2 Q
def tUn (r:V->Hp->VK->Prop) (ta:TE):TE:=λσ H Q=>ta σ H λx H1=>r x H1 Q
def rI (C:Int->Int->Prop) (g:Int->Int->V):R2:=λx y H Q=>∃i j,x=.int i/\y=.int j/\C i j/\Q (g i j) H
def rI0 (g:Int->Int->V):R2:=λx y H Q=>∃i j,x=.int i/\y=.int j/\Q (g i j) H
def rU (g:Int->V):V->Hp->VK->Prop:=λx H Q=>∃i,x=.int i/\Q (g i) H
section
variable {X:Cx} {a b c:Expr} {ta tb tc:TE} {pos:Pos}
theorem Ey (ha:PE X a ta) (hb:PE X b tb) {σ:St} {R:V->V->Hp->Prop} (I:Inv X pins σ H s) (h:ta σ H λx H1=>tb σ H1 λy H2=>R x y H2) {f:Value->Value->Sem Value} (hf:∀v u s2 x y H2,Inv X pins σ H2 s2->RelV x v->RelV y u->R x y H2->wpAny (model X.prog X.w) X.A (f v u) Q X.xe s2):
  wpAny (model X.prog X.w) X.A (eval a X.env) (λv s₁=>wpAny (model X.prog X.w) X.A (eval b X.env) (λu s₂=>wpAny (model X.prog X.w) X.A (f v u) Q X.xe s₂) X.xe s₁) X.xe s:=by
 refine thn (ha pins s σ H _ I h) λv s1 ⟨x,H1,I1,r1,q1⟩=>?_
 refine thn (hb pins s1 σ H1 _ I1 q1) λu s2 ⟨y,H2,I2,r2,q2⟩=>?_
 exact hf v u s2 x y H2 I2 r1 r2 q2
theorem xS (ho:OpR X (binaryOp op) r) (ha:PE X a ta) (hb:PE X b tb):PE X (.BinOp a op b pos) (tOp r ta tb):=by
 intro pins s σ H Q I h;exact wpAny_BinOp (Ey ha hb I h λv u s2 x y H2 I2 rx ry q=>ho pins s2 σ H2 x y v u Q I2 rx ry q)
theorem Ih (ho:UnR X (unaryOp op) r) (ha:PE X a ta):PE X (.UnaryOp op a pos) (tUn r ta):=by
 intro pins s σ H Q I h;exact UnaryOp_ (thn (ha pins s σ H _ I h) λv s1 ⟨x,H1,I1,r1,q1⟩=>ho pins s1 σ H1 x v Q I1 r1 q1)
theorem opI {g:Int->Int->Int} (rule:∀ (i j:Int) (t u:Tok) (s:Shared) (Q:Value->Shared->Prop) (E:Value->Shared->Prop),C i j->Q (.int (g i j) s.toks) {s with toks:=s.toks+1}->wpAny (model X.prog X.w) X.A (f (.int i t) (.int j u)) Q E s):
  OpR X f (rI C λi j=>.int (g i j)):=by
 intro pins s σ H x y v u Q I rx ry h
 obtain⟨i,j,rfl,rfl,hc,q⟩:=h
 obtain⟨t,rfl⟩:=rx
 obtain⟨t',rfl⟩:=ry
 exact rule i j t t' s _ _ hc ⟨.int (g i j),H,I.tok _,⟨_,rfl⟩,q⟩
theorem Ii {g:Int->Int->Int} (rule:∀ (i j:Int) (t u:Tok) (s:Shared) (Q:Value->Shared->Prop) (E:Value->Shared->Prop),Q (.int (g i j) s.toks) {s with toks:=s.toks+1}->wpAny (model X.prog X.w) X.A (f (.int i t) (.int j u)) Q E s):
  OpR X f (rI0 λi j=>.int (g i j)):=by
 intro pins s σ H x y v u Q I rx ry h
 obtain⟨i,j,rfl,rfl,q⟩:=h
 obtain⟨t,rfl⟩:=rx
 obtain⟨t',rfl⟩:=ry
 exact rule i j t t' s _ _ ⟨.int (g i j),H,I.tok _,⟨_,rfl⟩,q⟩
theorem Bv {g:Int->Int->Bool} (rule:∀ (i j:Int) (t u:Tok) (s:Shared) (Q:Value->Shared->Prop) (E:Value->Shared->Prop),Q (.bool (g i j)) s->wpAny (model X.prog X.w) X.A (f (.int i t) (.int j u)) Q E s):
  OpR X f (rI0 λi j=>.bl (g i j)):=by
 intro pins s σ H x y v u Q I rx ry h
 obtain⟨i,j,rfl,rfl,q⟩:=h
 obtain⟨t,rfl⟩:=rx
 obtain⟨t',rfl⟩:=ry
 exact rule i j t t' s _ _ ⟨.bl (g i j),H,I,rfl,q⟩
def wM (i j:Int):Prop:=0<j/\j<1073741824
def pL (i j:Int):Prop:=0<=j/\j<=1000000/\i.natAbs<2^64
def CMul (i j:Int):Prop:=(-(2^64)<i/\i<2^64)\/(-(2^64)<j/\j<2^64)
theorem CMul.ok (h:CMul i j):IntMulOk i j:=by
 rcases h with⟨h1,h2⟩|⟨h1,h2⟩
 ·exact .of_left (intBits_le_64 h1 h2)
 ·exact .of_right (intBits_le_64 h1 h2)
theorem Ez:OpR X (binaryOp .Add) (rI0 λi j=>.int (i+j)):=Ii λ_ _ _ _ _ _ _ q=>add_int q
theorem EA:OpR X (binaryOp .Sub) (rI0 λi j=>.int (i-j)):=Ii λ_ _ _ _ _ _ _ q=>sub_int q
theorem EB:OpR X (binaryOp .Mult) (rI CMul λi j=>.int (i*j)):=opI λ_ _ _ _ _ _ _ hc q=>mul_int q hc.ok
theorem Bw:OpR X (binaryOp .FloorDiv) (rI wM λi j=>.int (i/j)):=opI λi j _ _ _ _ _ hc q=>by
 have h1:(0:Int)<j:=hc.1;have h2:j<1073741824:=hc.2;exact floordiv_int (by omega) (by rw[Int.fdiv_eq_ediv_of_nonneg i (by omega)];exact q) (.inl (PyProof.noPylong_small (by omega)))
theorem EC:OpR X (binaryOp .Mod) (rI (λ_ j=>0<j) λi j=>.int (i%j)):=opI λi j _ _ _ _ _ hc q=>by
 have h1:(0:Int)<j:=hc;exact mod_int' (by omega) (by rw[Int.fmod_eq_emod_of_nonneg i (by omega)];exact q)
theorem ED:OpR X (binaryOp .Pow) (rI pL λi j=>.int (i^j.toNat)):=opI λ_ _ _ _ _ _ _ hc q=>pow_int_small hc.1 hc.2.1 hc.2.2 q
theorem EF:OpR X (binaryOp .LShift) (rI pL λi j=>.int (i*2^j.toNat)):=opI λ_ _ _ _ _ _ _ hc q=>lshift_int_small hc.1 hc.2.1 hc.2.2 q
theorem unI {g:Int->Int} (rule:∀ (i:Int) (t:Tok) (s:Shared) (Q:Value->Shared->Prop) (E:Value->Shared->Prop),Q (.int (g i) s.toks) {s with toks:=s.toks+1}->wpAny (model X.prog X.w) X.A (f (.int i t)) Q E s):
  UnR X f (rU λi=>.int (g i)):=by
 intro pins s σ H x v Q I rx h
 obtain⟨i,rfl,q⟩:=h
 obtain⟨t,rfl⟩:=rx
 exact rule i t s _ _ ⟨.int (g i),H,I.tok _,⟨_,rfl⟩,q⟩
theorem EG:UnR X (unaryOp .USub) (rU λi=>.int (-i)):=unI λ_ _ _ _ _ q=>neg_int q
end
def xU:V->V->Bool
 |.non,.non=>true|.non,.int _=>true|.int _,.non=>true|.non,.bl _=>true|.bl _,.non=>true|.non,.str _=>true|.str _,.non=>true
 |.int _,.int _=>true|.bl _,.bl _=>true|.str _,.str _=>true|.byt _,.byt _=>true
 |.int _,.str _=>true|.str _,.int _=>true|.bl _,.str _=>true|.str _,.bl _=>true
 |_,_=>false
def rEq:R2:=λx y H Q=>xU x y=true/\Q (.bl (decide (x=y))) H
def rNe:R2:=λx y H Q=>xU x y=true/\Q (.bl (!decide (x=y))) H
theorem u6:decide (V.int i=V.int j)=(i==j):=by
 rw[Bool.eq_iff_iff];simp
theorem dec_bl:decide (V.bl i=V.bl j)=(i==j):=by
 rw[Bool.eq_iff_iff];simp
theorem u7:decide (V.str i=V.str j)=(i==j):=by
 rw[Bool.eq_iff_iff];simp
theorem u8:decide (V.byt i=V.byt j)=(i.toList==j.toList):=by
 rw[Bool.eq_iff_iff];cases i;cases j;simp
section
variable {X:Cx} {a b c:Expr} {ta tb tc:TE} {pos:Pos}
theorem fin_bl {σ:St} (I:Inv X pins σ H s) (q:Q (.bl k) H) (e:k=k'):EP X pins σ Q (.bool k') s:=by
 subst e;exact⟨.bl k,H,I,rfl,q⟩
theorem Ij:OpR X (compareOp .Eq) rEq:=by
 intro pins s σ H x y v u Q I rx ry h;obtain⟨hs,q⟩:=h;cases x with
 |non=>
  cases rx;cases y with
  |non=>cases ry;exact PySem.EqNone.eq_none_none (fin_bl I q (by simp))
  |bl j=>cases ry;exact PySem.EqNone.eq_none_bool (fin_bl I q (by simp))
  |int j=>obtain⟨t',rfl⟩:=ry;exact PySem.EqNone.eq_none_int (fin_bl I q (by simp))
  |str j=>obtain⟨t',rfl⟩:=ry;exact PySem.EqNone.eq_none_str (fin_bl I q (by simp))
  |_=>exact absurd (show false=true from hs) Bool.false_ne_true
 |bl i=>
  cases rx;cases y with
  |non=>cases ry;exact PySem.EqNone.eq_bool_none (fin_bl I q (by simp))
  |bl j=>cases ry;exact eq_bool (fin_bl I q dec_bl)
  |str j=>obtain⟨t',rfl⟩:=ry;exact PySem.EqMixed.eq_bool_str (fin_bl I q (by simp))
  |_=>exact absurd (show false=true from hs) Bool.false_ne_true
 |int i=>
  obtain⟨t,rfl⟩:=rx;cases y with
  |non=>cases ry;exact PySem.EqNone.eq_int_none (fin_bl I q (by simp))
  |int j=>obtain⟨t',rfl⟩:=ry;exact eq_int (fin_bl I q u6)
  |str j=>obtain⟨t',rfl⟩:=ry;exact PySem.EqMixed.eq_int_str (fin_bl I q (by simp))
  |_=>exact absurd (show false=true from hs) Bool.false_ne_true
 |str i=>
  obtain⟨t,rfl⟩:=rx;cases y with
  |non=>cases ry;exact PySem.EqNone.eq_str_none (fin_bl I q (by simp))
  |bl j=>cases ry;exact PySem.EqMixed.eq_str_bool (fin_bl I q (by simp))
  |int j=>obtain⟨t',rfl⟩:=ry;exact PySem.EqMixed.eq_str_int (fin_bl I q (by simp))
  |str j=>obtain⟨t',rfl⟩:=ry;exact eq_str (fin_bl I q u7)
  |_=>exact absurd (show false=true from hs) Bool.false_ne_true
 |byt i=>
  obtain⟨t,rfl⟩:=rx;cases y with
  |byt j=>obtain⟨t',rfl⟩:=ry;exact PySem.W.eq_bytes (fin_bl I q u8)
  |_=>exact absurd (show false=true from hs) Bool.false_ne_true
 |_=>cases y<;>exact absurd (show false=true from hs) Bool.false_ne_true
theorem Ik:OpR X (compareOp .NotEq) rNe:=by
 intro pins s σ H x y v u Q I rx ry h;obtain⟨hs,q⟩:=h;cases x with
 |non=>
  cases rx;cases y with
  |non=>cases ry;exact PySem.EqNone.ne_none_none (fin_bl I q (by simp))
  |bl j=>cases ry;exact PySem.EqNone.ne_none_bool (fin_bl I q (by simp))
  |int j=>obtain⟨t',rfl⟩:=ry;exact PySem.EqNone.ne_none_int (fin_bl I q (by simp))
  |str j=>obtain⟨t',rfl⟩:=ry;exact PySem.EqNone.ne_none_str (fin_bl I q (by simp))
  |_=>exact absurd (show false=true from hs) Bool.false_ne_true
 |bl i=>
  cases rx;cases y with
  |non=>cases ry;exact PySem.EqNone.ne_bool_none (fin_bl I q (by simp))
  |bl j=>cases ry;exact ne_bool (fin_bl I q (congrArg not dec_bl))
  |str j=>obtain⟨t',rfl⟩:=ry;exact PySem.EqMixed.ne_bool_str (fin_bl I q (by simp))
  |_=>exact absurd (show false=true from hs) Bool.false_ne_true
 |int i=>
  obtain⟨t,rfl⟩:=rx;cases y with
  |non=>cases ry;exact PySem.EqNone.ne_int_none (fin_bl I q (by simp))
  |int j=>obtain⟨t',rfl⟩:=ry;exact ne_int (fin_bl I q (congrArg not u6))
  |str j=>obtain⟨t',rfl⟩:=ry;exact PySem.EqMixed.ne_int_str (fin_bl I q (by simp))
  |_=>exact absurd (show false=true from hs) Bool.false_ne_true
 |str i=>
  obtain⟨t,rfl⟩:=rx;cases y with
  |non=>cases ry;exact PySem.EqNone.ne_str_none (fin_bl I q (by simp))
  |bl j=>cases ry;exact PySem.EqMixed.ne_str_bool (fin_bl I q (by simp))
  |int j=>obtain⟨t',rfl⟩:=ry;exact PySem.EqMixed.ne_str_int (fin_bl I q (by simp))
  |str j=>obtain⟨t',rfl⟩:=ry;exact ne_str (fin_bl I q (congrArg not u7))
  |_=>exact absurd (show false=true from hs) Bool.false_ne_true
 |byt i=>
  obtain⟨t,rfl⟩:=rx;cases y with
  |byt j=>obtain⟨t',rfl⟩:=ry;exact PySem.W.ne_bytes (fin_bl I q (congrArg not u8))
  |_=>exact absurd (show false=true from hs) Bool.false_ne_true
 |_=>cases y<;>exact absurd (show false=true from hs) Bool.false_ne_true
theorem op_lt:OpR X (compareOp .Lt) (rI0 λi j=>.bl (decide (i<j))):=Bv λ_ _ _ _ _ _ _ q=>lt_int q
theorem l9:OpR X (compareOp .LtE) (rI0 λi j=>.bl (decide (i<=j))):=Bv λ_ _ _ _ _ _ _ q=>le_int q
theorem DH:OpR X (compareOp .Gt) (rI0 λi j=>.bl (decide (j<i))):=Bv λ_ _ _ _ _ _ _ q=>gt_int q
theorem DI:OpR X (compareOp .GtE) (rI0 λi j=>.bl (decide (j<=i))):=Bv λ_ _ _ _ _ _ _ q=>ge_int q
theorem op_isN:OpR X (compareOp .Is) (λx y H Q=>y=.non/\Q (.bl (decide (x=.non))) H):=by
 intro pins s σ H x y v u Q I rx ry h;obtain⟨rfl,q⟩:=h;cases ry;refine is_none_gen (fin_bl I q ?_);cases x<;>first
  |(cases rx;rfl)
  |(obtain⟨t,rfl⟩:=rx;rfl)
theorem op_notN:OpR X (compareOp .IsNot) (λx y H Q=>y=.non/\Q (.bl (!decide (x=.non))) H):=by
 intro pins s σ H x y v u Q I rx ry h;obtain⟨rfl,q⟩:=h;cases ry;refine isnot_none_gen (fin_bl I q ?_);cases x<;>first
  |(cases rx;rfl)
  |(obtain⟨t,rfl⟩:=rx;rfl)
theorem OpR.or (h:OpR X f r) (h':OpR X f r'):OpR X f (λx y H Q=>r x y H Q\/r' x y H Q):=by
 intro pins s σ H x y v u Q I rx ry q;rcases q with q|q
 ·exact h pins s σ H x y v u Q I rx ry q
 ·exact h' pins s σ H x y v u Q I rx ry q
theorem dC (b:Expr) (h:op≠.In:=by decide) (h2:op≠.NotIn:=by decide):behindInMarks op b=false:=by
 have e1:(op==CmpOp.In)=false:=by cases op<;>first|rfl|exact absurd rfl h
 have e2:(op==CmpOp.NotIn)=false:=by cases op<;>first|rfl|exact absurd rfl h2
 cases b<;>simp[behindInMarks,e1,e2]
theorem Bx (ho:OpR X (compareOp op) r) (ha:PE X a ta) (hb:PE X b tb) (hm:behindInMarks op b=false):PE X (.Compare a [op] [b] pos) (tOp r ta tb):=by
 intro pins s σ H Q I h;exact wpAny_Compare1 (Ey ha hb I h λv u s2 x y H2 I2 rx ry q=>ho pins s2 σ H2 x y v u Q I2 rx ry q) hm
def DJ (t:TE):TT:=λσ H Q=>t σ H λx H'=>∃k,x=.bl k/\Q k H'
theorem By (ho:OpR X (compareOp op) r) (ha:PE X a ta) (hb:PE X b tb) (hm:behindInMarks op b=false):PT X (.Compare a [op] [b] pos) (DJ (tOp r ta tb)):=by
 intro pins s σ H Q I h;refine wpAny_isTrue_Compare1 (thn (ha pins s σ H _ I h) λv s1 ⟨x,H1,I1,r1,q1⟩=>thn (hb pins s1 σ H1 _ I1 q1) λu s2 ⟨y,H2,I2,r2,q2⟩=>
  thn (ho pins s2 σ H2 x y v u _ I2 r1 r2 q2) λc s3 ⟨z,H3,I3,r3,k,e,q3⟩=>?_) hm
 subst e;cases r3;exact wpAny_truthy_bool ⟨H3,I3,q3⟩
def tw (r r':R2) (ta tb tc:TE):TE:=λσ H Q=>ta σ H λx H1=>tb σ H1 λy H2=>r x y H2 λz H3=>∃k,z=.bl k/\
 (if k=true then tc σ H3 λw' H4=>r' y w' H4 Q else Q (.bl false) H3)
theorem xV (ho:OpR X (compareOp op) r) (ho':OpR X (compareOp op') r') (ha:PE X a ta) (hb:PE X b tb) (hc:PE X c tc) (hm:lastMarks [op,op'] [b,c]=false:=by with_unfolding_all rfl):PE X (.Compare a [op,op'] [b,c] pos) (tw r r' ta tb tc):=by
 intro pins s σ H Q I h;refine Compare_chain (thn (ha pins s σ H _ I h) λv s1 ⟨x,H1,I1,r1,q1⟩=>chain_link (thn (hb pins s1 σ H1 _ I1 q1) λu s2 ⟨y,H2,I2,r2,q2⟩=>
  thn (ho pins s2 σ H2 x y v u _ I2 r1 r2 q2) λd s3 ⟨z,H3,I3,r3,k,e,q3⟩=>?_)) hm
 subst e;cases r3;refine wpAny_truthy_bool ?_;cases k with
 |false=>exact ite_ff ⟨.bl false,H3,I3,rfl,q3⟩
 |true=>exact ite_tt (chain_last (thn (hc pins s3 σ H3 _ I3 q3) λw' s4 ⟨z',H4,I4,r4,q4⟩=>ho' pins s4 σ H4 y z' u w' Q I4 r2 r4 q4))
theorem xW (ho:OpR X (compareOp op) r) (ho':OpR X (compareOp op') r') (ha:PE X a ta) (hb:PE X b tb) (hc:PE X c tc) (hm:lastMarks [op,op'] [b,c]=false:=by with_unfolding_all rfl):PT X (.Compare a [op,op'] [b,c] pos) (DJ (tw r r' ta tb tc)):=by
 intro pins s σ H Q I h;refine isTrue_chain (thn (ha pins s σ H _ I h) λv s1 ⟨x,H1,I1,r1,q1⟩=>test_link (thn (hb pins s1 σ H1 _ I1 q1) λu s2 ⟨y,H2,I2,r2,q2⟩=>
  thn (ho pins s2 σ H2 x y v u _ I2 r1 r2 q2) λd s3 ⟨z,H3,I3,r3,k,e,q3⟩=>?_)) hm
 subst e;cases r3;refine wpAny_truthy_bool ?_;cases k with
 |false=>
  obtain⟨k',e',q'⟩:=q3;cases e';exact ite_ff ⟨H3,I3,q'⟩
 |true=>
  refine ite_tt (test_last (thn (hc pins s3 σ H3 _ I3 q3) λw' s4 ⟨z',H4,I4,r4,q4⟩=>thn (ho' pins s4 σ H4 y z' u w' _ I4 r2 r4 q4) λd' s5 ⟨z2,H5,I5,r5,k2,e2,q5⟩=>?_));subst e2;cases r5;exact wpAny_truthy_bool ⟨H5,I5,q5⟩
def Il (K:Frag) (x:V) (H:Hp) (k:Bool):Prop:=
 match x with
 |.non=>k=false
 |.bl b=>k=b
 |.int i=>k=(i !=0)
 |.str y=>y.length<=sizeLine/\k=((y.length:Int) !=0)
 |.byt y=>y.size<=sizeLine/\k=((y.size:Int) !=0)
 |.ref p=>(∃xs,SqL K H p xs/\k=!xs.isEmpty)\/(∃xs,SqT K H p xs/\k=!xs.isEmpty)\/∃kvs,H p=some (.dK kvs)/\k=!kvs.isEmpty
 |_=>False
theorem tz {vs:List (κ×Value)} (r:KV kvs vs):(!vs.isEmpty)=!kvs.isEmpty:=by
 cases r<;>rfl
theorem mf (r:Vals xs its):(!its.toArray.isEmpty)=!xs.isEmpty:=by
 cases r<;>simp
theorem gy:(sizeLine:Nat)<2^63:=by rw[sizeLine_eq];decide
theorem EH:Li X (λx H Q=>∃k,Il X.K x H k/\Q k H):=by
 intro pins s σ H x v Q I rx h;obtain⟨k,e,q⟩:=h;have hl:=gy;have hs:sizeLine=16777216:=sizeLine_eq;cases x with
 |non=>
  cases rx;have e':k=false:=e;subst e';exact truthy_none ⟨H,I,q⟩
 |bl b=>
  cases rx;have e':k=b:=e;subst e';exact wpAny_truthy_bool ⟨H,I,q⟩
 |int i=>
  obtain⟨t,rfl⟩:=rx;have e':k=(i !=0):=e;subst e';exact PySem.P.truthy_int ⟨H,I,q⟩
 |str y=>
  obtain⟨t,rfl⟩:=rx;obtain⟨hy,e'⟩:y.length<=sizeLine/\k=((y.length:Int) !=0):=e;subst e';exact PySem.P.truthy_str (by omega) ⟨H,I.tok _,q⟩
 |byt y=>
  obtain⟨t,rfl⟩:=rx;obtain⟨hy,e'⟩:y.size<=sizeLine/\k=((y.size:Int) !=0):=e;subst e';exact PySem.W.truthy_bytes (by omega) ⟨H,I.tok _,q⟩
 |ref p=>
  cases rx;have e':(∃xs,SqL X.K H p xs/\k=!xs.isEmpty)\/(∃xs,SqT X.K H p xs/\k=!xs.isEmpty)\/∃kvs,H p=some (.dK kvs)/\k=!kvs.isEmpty:=e;rcases e' with⟨xs,hx,e'⟩|⟨xs,hx,e'⟩|⟨kvs,hx,e'⟩
  ·subst e';obtain⟨its,r,pl,hz⟩:=I.list hx;have hlen:=r.length;exact wpAny_truthy_list pl.isList (by simp only[size_toArray];omega) ⟨H,I.tok _,by rw[mf r];exact q⟩
  ·subst e';obtain⟨its,r,pl,hz⟩:=I.tuple hx;have hlen:=r.length;exact truthy_tuple pl (by simp only[size_toArray];omega) ⟨H,I.tok _,by rw[mf r];exact q⟩
  ·subst e';obtain⟨hz,hS,vs,r,m⟩:kvs.length<=sizeLine/\(p==sysModules)=false/\∃vs,KV kvs vs/\s.heap.DictOf (cR X.prog X.w) p vs:=I.hok p _ hx;have hlen:kvs.length=vs.length:=Paired.length r;exact wpAny_truthy_dict hS m (by omega) ⟨H,I.tok _,by rw[tz r];exact q⟩
 |_=>exact(show False from e).elim
theorem xX (ha:PE X a ta) (he:∀whole,isTrue a X.env whole=(do let v<-whole;standAt a.pos;holding [v] (truthy v))):
  PT X a (λσ H Q=>ta σ H λx H'=>∃k,Il X.K x H' k/\Q k H'):=by
 intro pins s σ H Q I h
 exact isTrue_plain (thn (ha pins s σ H _ I h) λv s1 ⟨x,H1,I1,r1,q1⟩=>EH pins s1 σ H1 x v Q I1 r1 q1) (he _)
theorem fK (r:Vals [x] us):∃u,us=[u]/\RelV x u:=by
 cases r with
 |cons r1 r2=>cases r2;exact⟨_,rfl,r1⟩
theorem oB (r:Vals [x,y] us):∃u w',us=[u,w']/\RelV x u/\RelV y w':=by
 cases r with
 |cons r1 r2=>
  cases r2 with
  |cons r3 r4=>cases r4;exact⟨_,_,rfl,r1,r3⟩
theorem call_max2 (hc:X.calm=true):dM X (.builtin "max") (λxs H Q=>∃i j,xs=[.int i,.int j]/\Q (.int (if j>i then j else i)) H):=by
 intro pins s σ H xs us Q I r h;obtain⟨i,j,rfl,q⟩:=h;obtain⟨u,w',rfl,⟨t,rfl⟩,⟨t',rfl⟩⟩:=oB r;refine max_two_ints (I.ok.hd hc) λh' tk k=>⟨_,H,I.kept k,?_,q⟩;by_cases hj:j>i
 ·rw[if_pos hj,if_pos hj];exact⟨_,rfl⟩
 ·rw[if_neg hj,if_neg hj];exact⟨_,rfl⟩
theorem call_min2 (hc:X.calm=true):dM X (.builtin "min") (λxs H Q=>∃i j,xs=[.int i,.int j]/\Q (.int (if j<i then j else i)) H):=by
 intro pins s σ H xs us Q I r h;obtain⟨i,j,rfl,q⟩:=h;obtain⟨u,w',rfl,⟨t,rfl⟩,⟨t',rfl⟩⟩:=oB r;refine min_two_ints (I.ok.hd hc) λh' tk k=>⟨_,H,I.kept k,?_,q⟩;by_cases hj:j<i
 ·rw[if_pos hj,if_pos hj];exact⟨_,rfl⟩
 ·rw[if_neg hj,if_neg hj];exact⟨_,rfl⟩
end
structure ObjM (h:Heap) (x dx C:Addr) (mA:Str->Option Value):Prop where
 obj:h.get? x=some (PySem.W.instObj C dx)
 ns:h.Ns1 dx mA
 ne:dx≠x
theorem wN {h:Heap} (n:h.Ns1 dx mA):∃od,h.get? dx=some od/\∀name,PySem.W.lookIn name od=some (mA name):=by
 obtain⟨o,es,ep,ho,hd,hk,_,hm⟩:=n;refine⟨o,ho,λname=>?_⟩;have e:=hm name;unfold nsFind findBy at e;rw[<-Array.find?_toList]at e;unfold PySem.W.lookIn;rw[hd];dsimp only;split
 ·rename_i y q;rw[q]at e;exact congrArg some e
 ·rename_i q;rw[q]at e;have a:es.toList.any (·.refKey)=false:=by
   rw[List.any_eq_false];intro y hy;obtain⟨z,t,hkey⟩:=hk y (Array.mem_toList_iff.mp hy);simp[DictEntry.refKey,hkey]
  have a':¬es.toList.any (·.refKey)=true:=by rw[a];exact Bool.false_ne_true
  rw[if_neg a'];exact congrArg some e
theorem ObjM.look (I:ObjM h x dx C mA):∃od,PySem.W.InstAt h x (PySem.W.instObj C dx) C (some od)/\∀name,PySem.W.lookIn name od=some (mA name):=
 let⟨od,ho,hl⟩:=wN I.ns
 ⟨od,⟨I.obj,rfl,rfl,ho⟩,hl⟩
section
variable {prog:Program} {w:World} {A:Around} {E:Value->Shared->Prop} {s:Shared} {K:Frag} {x dx C f:Addr} {mA:Str->Option Value} {name:Str} {v:Value}
theorem Bz (X:K.In s.heap) (I:ObjM s.heap x dx C mA) (hg:PySem.W.plainGet K C name=true) (hh:PySem.W.hasDictIn K C=true) (ha:findIn K (.ref C) name=some none) (hv:mA name=some v) (hv':PySem.W.handedIn v=true) (h:Q v {s with toks:=s.toks+1}):
  wpAny (model prog w) A (getAttr (.ref x) name expr) Q E s:=by
 obtain⟨od,J,hl⟩:=I.look
 exact PySem.W.get_value X J (PySem.W.plainGet_of hg).1 (PySem.W.findObj_own hh ha rfl (by rw[hl,hv])) hv' h
theorem xY (X:K.In s.heap) (I:ObjM s.heap x dx C mA) (hg:PySem.W.plainGet K C name=true) (hf:findIn K (.ref C) name=some (some (.ref f))) (ht:PySem.W.isFn K (.ref f)=true) (hv:mA name=none) (h:Q (.ref f,[.ref x]) s):
  wpAny (model prog w) A (getMethod (.ref x) name pl) Q E s:=by
 obtain⟨od,J,hl⟩:=I.look
 exact PySem.W.method_fn X J (PySem.W.plainGet_of hg).1 (PySem.W.plainGet_of hg).2 hf (beq_iff_eq.mp ht) (by show(PySem.W.lookIn name od).map (·.isSome)=some false;rw[hl,hv];rfl) h
theorem BA (X:K.In s.heap) (I:ObjM s.heap x dx C mA) (hs:findIn K (.ref C) "__setattr__"=some (some (.builtin "object.__setattr__"))) (hp:PySem.W.plainOver K C=true) (ht:PySem.W.takerIn K C name=some none) (hh:PySem.W.hasDictIn K C=true) (hw:PySem.Within mA ns) (hsz:ns.length<=sizeLine) (h:∀h',ObjM h' x dx C (λy=>if y=name then some v else mA y)->Heap.SameBut dx s.heap h'->Q () {s with heap:=h',toks:=s.toks+2}):
  wpAny (model prog w) A (setAttr (.ref x) name v) Q E s:=by
 obtain⟨od,J,hl⟩:=I.look
 refine PySem.W.set_plain X J hs (PySem.W.osa_open (s:={s with toks:=s.toks+1}) (r:=none) X J hp ht λb=>?_)
 obtain⟨cd,hc,hd'⟩:=PySem.W.any_some hh
 have hx:s.heap.get? x=some ⟨.ref C,some dx,.plain,#[]⟩:=I.obj
 refine wpAny_bind (wpAny_pure (wpAny_bind (wpAny_bind (wpAny_loadPart hx (wpAny_bind (PySem.W.Looks.here (s:={s with toks:=s.toks+1}) (PySem.W.looks_clsIn X hc) ?_))))))
 rw[hd']
 refine wpAny_pure (a:=some dx) (wpAny_bind (wpAny_pure (wpAny_bind ?_)))
 refine wpAny_nsSet1 (s:={s with toks:=s.toks+1}) I.ns λh' hn2 hs2=>?_
 obtain⟨oD,esD,epD,hoD,hdD,hcD⟩:=hn2.count (PySem.Within.cons name v hw)
 refine wpAny_bind (wpAny_lookBehind hoD (by rw[hdD];exact pastItsLine_dict (Nat.le_trans hcD (by rw[length_cons];omega))) ?_)
 exact wpAny_pure (h _ ⟨(hs2.2 _ (Ne.symm I.ne)).trans I.obj,hn2,I.ne⟩ hs2)
theorem xZ (X:K.In s.heap) (hm:PySem.W.makesIn K C=true) (hi:findIn K (.ref C) "__init__"=some (some (.ref f))) (hf:PySem.W.typeIn K (.ref f)=some (.type "function")) (h:codeAny (model prog w) (A.under (.builtin "type.__call__" ⟨.ref C::vs,kw⟩)) (.call (.ref f) ⟨.ref (s.heap.objs.size+1)::vs,kw⟩) (PySem.W.InitBack (s.heap.objs.size+1) R)
   {s with heap:=(s.heap.push PySem.W.emptyDict).push (PySem.W.instObj C s.heap.objs.size)}):
  codeAny (model prog w) A (.call (.ref C) ⟨vs,kw⟩) R s:=by
 obtain⟨hh,g,d,t,os⟩:=s
 exact PySem.W.make_core (PySem.W.makes_of X hm) (PySem.W.looks_findIn X hi) (λself=>PySem.W.bind_fn X self hf) (.inl rfl) h
end
def fZ (f:Str) (v:V):List (Str×V)->List (Str×V)
 |[]=>[(f,v)]
 |(g,x)::r=>if g=f then(g,v)::r else(g,x)::fZ f v r
theorem kO (f g:Str) (v:V):∀fs:List (Str×V),(fZ f v fs).lookup g=if g=f then some v else fs.lookup g
 |[]=>by
  show List.lookup g [(f,v)]=_;by_cases h:g=f
  ·have hb:(g==f)=true:=beq_iff_eq.mpr h;simp only[List.lookup,hb,if_pos h]
  ·have hb:(g==f)=false:=beq_eq_false_iff_ne.mpr h;simp only[List.lookup,hb,if_neg h]
 |(k,x)::r=>by
  have ih:=kO f g v r;rw[show fZ f v ((k,x)::r)=(if k=f then(k,v)::r else(k,x)::fZ f v r)from rfl];by_cases hk:k=f
  ·rw[if_pos hk];by_cases h:g=k
   ·have hb:(g==k)=true:=beq_iff_eq.mpr h;simp only[List.lookup,hb,if_pos (h.trans hk)]
   ·have hb:(g==k)=false:=beq_eq_false_iff_ne.mpr h;simp only[List.lookup,hb,if_neg (λe:g=f=>h (e.trans hk.symm))]
  ·rw[if_neg hk];by_cases h:g=k
   ·have hb:(g==k)=true:=beq_iff_eq.mpr h;simp only[List.lookup,hb,if_neg (λe:g=f=>hk (h.symm.trans e))]
   ·have hb:(g==k)=false:=beq_eq_false_iff_ne.mpr h;simp only[List.lookup,hb];exact ih
theorem jV (f:Str) (v:V):∀fs:List (Str×V),f∈(fZ f v fs).map (·.1)/\∀g,g∈fs.map (·.1)->g∈(fZ f v fs).map (·.1)
 |[]=>⟨by simp[fZ],λg h=>by simp at h⟩
 |(k,x)::r=>by
  obtain⟨i1,i2⟩:=jV f v r;rw[show fZ f v ((k,x)::r)=(if k=f then(k,v)::r else(k,x)::fZ f v r)from rfl];by_cases hk:k=f
  ·rw[if_pos hk];subst hk;exact⟨by simp,λg h=>by simpa using h⟩
  ·rw[if_neg hk];refine⟨?_,λg h=>?_⟩
   ·rw[List.map_cons];exact mem_cons_of_mem _ i1
   ·rw[List.map_cons]at h⊢;rcases mem_cons.mp h with e|e
    ·exact mem_cons.mpr (.inl e)
    ·exact mem_cons_of_mem _ (i2 g e)
theorem kP (f:Str) (v:V):∀fs:List (Str×V),(fZ f v fs).length<=fs.length+1
 |[]=>by simp[fZ]
 |(k,x)::r=>by
  have ih:=kP f v r;rw[show fZ f v ((k,x)::r)=(if k=f then(k,v)::r else(k,x)::fZ f v r)from rfl];by_cases hk:k=f
  ·rw[if_pos hk,length_cons,length_cons];omega
  ·rw[if_neg hk,length_cons,length_cons];omega
theorem RelO.some_of (r:RelO (some v) o):∃u,o=some u/\RelV v u:=by
 cases o with
 |none=>exact(show False from r).elim
 |some u=>exact⟨u,rfl,r⟩
theorem RelO.none_of (r:RelO none o):o=none:=by
 cases o with
 |none=>rfl
 |some u=>exact(show False from r).elim
theorem wO (r:RelV v u):PySem.W.handedIn u=true:=by
 cases v with
 |non=>cases(show u=Value.none from r);rfl
 |bl b=>cases(show u=Value.bool b from r);rfl
 |int i=>obtain⟨t,e⟩:=(show∃t,u=Value.int i t from r);cases e;rfl
 |str x=>obtain⟨t,e⟩:=(show∃t,u=Value.str x t from r);cases e;rfl
 |byt b=>obtain⟨t,e⟩:=(show∃t,u=Value.bytes b t from r);cases e;rfl
 |flt b=>obtain⟨t,e⟩:=(show∃t,u=Value.float b t from r);cases e;rfl
 |ref a=>cases(show u=Value.ref a from r);rfl
 |ty n=>cases(show u=Value.type n from r);rfl
section
variable {P:Program} {w:World} {H H':Hp} {h h':Heap} {a C dx:Addr} {fs fs':List (Str×V)}
theorem lR (hok:HOk P w H h) (e:H a=some (.ins C dx fs)):∃mA,ObjM h a dx C mA/\(∀f,RelO (fs.lookup f) (mA f))/\PySem.Within mA (fs.map (·.1))/\fs.length<=1000/\H dx=some (.own a):=by
 obtain⟨d,z,ne,ob,mA,n,r,q⟩:=(show ObjOk P w H h a (.ins C dx fs)from hok a _ e);exact⟨mA,⟨ob,n,ne⟩,r,q,z,d⟩
end
structure Cls (K:Frag) (C:Addr):Prop where
 pg:PySem.W.plainGet K C Str.empty=true
 hd:PySem.W.hasDictIn K C=true
 po:PySem.W.plainOver K C=true
 sa:findIn K (.ref C) "__setattr__"=some (some (.builtin "object.__setattr__"))
theorem Cls.get {K} (c:Cls K C) (f:Str):PySem.W.plainGet K C f=true:=c.pg
def NoAttr (K:Frag) (C:Addr) (f:Str):Prop:=findIn K (.ref C) f=some none
theorem NoAttr.taker {K} (n:NoAttr K C f):PySem.W.takerIn K C f=some none:=by
 unfold PySem.W.takerIn;rw[show findIn K (.ref C) f=some none from n];rfl
structure Con (K:Frag) (C:Addr) (f:Str) (v:V) (u:Value):Prop where
 at_:findIn K (.ref C) f=some (some u)
 rel:RelV v u
 get:PySem.W.specialIn K u "__get__"=some none
 cp:PySem.W.copiedNames.contains f=false
structure Meth (K:Frag) (C:Addr) (m:Str) (f:Addr):Prop where
 at_:findIn K (.ref C) m=some (some (.ref f))
 fn:PySem.W.isFn K (.ref f)=true
 kp:PySem.W.keepIn K (.ref f)=true
section
variable {X:Cx} {pins:List (Addr×Obj)} {σ:St} {H:Hp} {s:Shared} {a C dx:Addr} {fs:List (Str×V)} {f:Str} {v:V} {A:Around} {E:Value->Shared->Prop}
theorem tB (I:Inv X pins σ H s) (e:H a=some (.ins C dx fs)) (c:Cls X.K C) (n:NoAttr X.K C f) (l:fs.lookup f=some v) (h:∀u s',Inv X pins σ H s'->RelV v u->Q u s'):wpAny (model X.prog X.w) A (getAttr (.ref a) f b) Q E s:=by
 obtain⟨mA,O,r,_,_,_⟩:=lR I.hok e;obtain⟨u,hu,ru⟩:=RelO.some_of (v:=v) (o:=mA f) (by rw[<-l];exact r f);exact Bz I.kIn O (c.get f) c.hd n hu (wO ru) (h u _ (I.tok _) ru)
theorem mh (I:Inv X pins σ H s) (e:H a=some (.ins C dx fs)) (c:Cls X.K C) (k:Meth X.K C m g) (l:fs.lookup m=none) (h:Q (.ref g,[.ref a]) s):wpAny (model X.prog X.w) A (getMethod (.ref a) m pl) Q E s:=by
 obtain⟨mA,O,r,_,_,_⟩:=lR I.hok e;have hn:mA m=none:=RelO.none_of (by rw[<-l];exact r m);exact xY I.kIn O (c.get m) k.at_ k.fn hn h
theorem tD (I:Inv X pins σ H s) (e:H a=some (.ins C dx fs)) (c:Cls X.K C) (n:NoAttr X.K C f) (hl:fs.length<1000) (ry:RelV y u) (h:∀s',Inv X pins σ (upd H a (.ins C dx (fZ f y fs))) s'->Q () s'):wpAny (model X.prog X.w) A (setAttr (.ref a) f u) Q E s:=by
 obtain⟨mA,O,r,wi,_,ho⟩:=lR I.hok e;have hz:(fs.map (·.1)).length<=sizeLine:=by rw[length_map,sizeLine_eq];omega
 refine BA I.kIn O c.sa c.po n.taker c.hd wi hz λh' O' sb=>h _ ?_;have hd:∃o,h'.get? dx=some o:=let⟨o,_,_,e',_⟩:=O'.ns;⟨o,e'⟩;refine I.write (x:=a) (e:=dx) (by rw[e];exact True.intro) (.inr ho) (λb q hb z=>(sb.2 b hb).trans z) hd ?_;refine⟨by rw[au O.ne];exact ho,?_,O.ne,O'.obj,_,O'.ns,λg=>?_,λg hg=>?_⟩
 ·have:=kP f y fs;omega
 ·show RelO ((fZ f y fs).lookup g) (if g=f then some u else mA g);rw[kO];by_cases q:g=f
  ·rw[if_pos q,if_pos q];exact ry
  ·rw[if_neg q,if_neg q];exact r g
 ·by_cases q:g=f
  ·rw[q];exact(jV f y fs).1
  ·refine(jV f y fs).2 g (wi g λz=>hg ?_);show(if g=f then some u else mA g)=none;rw[if_neg q];exact z
theorem Inv.made (I:Inv X pins σ H s):Inv X pins σ (upd (upd H s.heap.objs.size (.own (s.heap.objs.size+1))) (s.heap.objs.size+1) (.ins C s.heap.objs.size []))
  {s with heap:=(s.heap.push PySem.W.emptyDict).push (PySem.W.instObj C s.heap.objs.size)}:=by
 have e1:(s.heap.push PySem.W.emptyDict).get? s.heap.objs.size=some PySem.W.emptyDict:=Heap.get?_push_size s.heap rfl
 have e2:((s.heap.push PySem.W.emptyDict).push (PySem.W.instObj C s.heap.objs.size)).get? (s.heap.objs.size+1)=some (PySem.W.instObj C s.heap.objs.size):=by
  have:=Heap.get?_push_size (s.heap.push PySem.W.emptyDict) (o:=PySem.W.instObj C s.heap.objs.size) rfl;rwa [Heap.size_push]at this
 have e3:(s.heap.push PySem.W.emptyDict).Ns s.heap.objs.size (λ_=>none):=⟨PySem.W.emptyDict,#[],_,e1,rfl,(λe he=>absurd he (by simp)),λ_=>rfl⟩
 have I1:=I.laid (a:=s.heap.objs.size) (o:=.own (s.heap.objs.size+1)) (h':=s.heap.push PySem.W.emptyDict) (t':=s.toks) (λb u q=>Heap.get?_push_of_some _ q) (le_refl _) ⟨_,e1⟩
 refine I1.laid (a:=s.heap.objs.size+1) (o:=.ins C s.heap.objs.size []) (t':=s.toks) (λb u q=>Heap.get?_push_of_some _ q) (Nat.le_of_eq (Heap.size_push _ _)) ?_
 have ne:s.heap.objs.size≠s.heap.objs.size+1:=Nat.ne_of_lt (Nat.lt_succ_self _)
 refine⟨by rw[au ne,ar],Nat.zero_le _,ne,e2,λ_=>none,(Heap.Ns1.of_empty e3).at λo q=>Heap.get?_push_of_some _ q,λ_=>True.intro,λy hy=>absurd rfl hy⟩
theorem BB (hb:attributeBase e f env (eval e env)=eval e env) (h:wpAny (model prog w) A (eval e env) (λo s₁=>wpAny (model prog w) A (getAttr o f true) Q E s₁) E s):wpAny (model prog w) A (eval (.Attribute e f pos) env) Q E s:=
 Attribute_any_ h (by rw[arm_eval_Attribute,hb])
end
def Lj (K:Frag) (ta:TE) (f:Str):TE:=λσ H Q=>ta σ H λx H1=>∃a C dx fs v,x=.ref a/\H1 a=some (.ins C dx fs)/\Cls K C/\NoAttr K C f/\fs.lookup f=some v/\Q v H1
def Lk (K:Frag) (ta tv:TE) (f:Str):TS:=λD σ H=>tv σ H λy H1=>ta σ H1 λx H2=>∃a C dx fs,x=.ref a/\H2 a=some (.ins C dx fs)/\Cls K C/\NoAttr K C f/\fs.length<1000/\
 D.nx σ (upd H2 a (.ins C dx (fZ f y fs)))
section
variable {X:Cx} {o e value:Expr} {f:Str} {pos pos' tpos:Pos} {ta tv:TE}
theorem EI (he:PE X e ta) (hb:attributeBase e f X.env (eval e X.env)=eval e X.env):PE X (.Attribute e f pos) (Lj X.K ta f):=by
 intro pins s σ H Q I h;refine BB hb (thn (he pins s σ H _ I h) λu s1 ⟨x,H1,I1,rx,a,C,dx,fs,v,ex,ea,c,n,l,q⟩=>?_);subst ex;obtain rfl:u=Value.ref a:=rx;exact tB I1 ea c n l λu' s2 I2 ru=>⟨v,H1,I2,ru,q⟩
theorem EJ (ha:PE X o ta) (hv:PE X value tv) (hs:swapsWith value (some (.Attribute o f pos')) pos.line X.env=pure false):PS X (.Assign [.Attribute o f pos'] value pos) (Lk X.K ta tv f):=by
 intro pins s σ H D I h;refine plainObj_wpAny_Assign_Attribute (thn (hv pins s σ H _ I h) λu s1 ⟨y,H1,I1,ry,q⟩=>thn (ha pins s1 σ H1 _ I1 q) λov s2 ⟨x,H2,I2,rx,a,C,dx,fs,ex,ea,c,n,l,q2⟩=>?_) hs;subst ex;obtain rfl:ov=Value.ref a:=rx;exact tD I2 ea c n l ry λs3 I3=>⟨σ,_,I3,q2⟩
end
section
variable {X:Cx} {pins:List (Addr×Obj)} {σ:St} {H:Hp} {s:Shared} {A:Around} {E:Value->Shared->Prop} {Q:Value->Shared->Prop} {c:Value} {b:Bool}
inductive TyOf (K:Frag) (H:Hp):V->Value->Prop where
 |non:TyOf K H .non (.type "NoneType")
 |bl (x:Bool):TyOf K H (.bl x) (.type "bool")
 |int (i:Int):TyOf K H (.int i) (.type "int")
 |str (x:Str):TyOf K H (.str x) (.type "str")
 |flt (x:UInt64):TyOf K H (.flt x) (.type "float")
 |lst {a:Addr} {xs:List V} (e:H a=some (.lst xs)):TyOf K H (.ref a) (.type "list")
 |frz {a:Addr} {o:Obj} {xs:List V} (e:H a=some (.frz o (.lst xs))):TyOf K H (.ref a) (.type "list")
 |tup {a:Addr} {xs:List V} (e:H a=some (.tup xs)):TyOf K H (.ref a) (.type "tuple")
 |dK {a:Addr} {kvs:List (Key×V)} (e:H a=some (.dK kvs)):TyOf K H (.ref a) (.type "dict")
 |dT {a:Addr} {kvs:List (List Key×V)} (e:H a=some (.dT kvs)):TyOf K H (.ref a) (.type "dict")
 |ins {a C dx:Addr} {fs:List (Str×V)} (e:H a=some (.ins C dx fs)) (cl:Cls K C) (ha:findIn K (.ref C) "__class__"=some (some (.builtin "object.__class__")))
  (hn:PySem.W.specialIn K (.builtin "object.__class__") "__get__"=some (some (.builtin "getset_descriptor.__get__"))) (htk:PySem.W.takesIn K (.builtin "object.__class__")=some true)
  (hm:PySem.W.mroIn K C (.type "object")=some true):TyOf K H (.ref a) (.ref C)
end
structure Room (k:Nat) (A:Around):Prop where
 hd:A.handled=none
 dp:A.depth+3*k+5<recursionLimit
 un:A.units+16*k+200<cLine
theorem Room.mono (r:Room k A) (h:j<=k):Room j A:=⟨r.hd,by have:=r.dp;omega,by have:=r.un;omega⟩
theorem Room.deeper (r:Room (k+1) A) (env:Env):Room k (A.deeper env):=
 ⟨r.hd,by have:=r.dp;show A.depth+1+3*k+5<_;omega,by have:=r.un;show A.units+3+16*k+200<_;omega⟩
theorem tE {A:Around}:(A.under (.builtin "type.__call__" ⟨.ref C::us,kw⟩)).depth=A.depth+1:=by
 first|rfl|simp[Around.under,Code.weight,Code.isCreation,Code.isGuard,Code.isCaller,Code.frames,Code.isFrame,guardIds]
theorem tF {A:Around}:(A.under (.builtin "type.__call__" ⟨.ref C::us,kw⟩)).units=A.units+1:=by
 first|rfl|simp[Around.under,Code.cUnits,Code.frames,Code.isFrame]
theorem Room.make (r:Room (k+1) A) (C:Addr) (us:List Value) (kw:List (Str×Value)):Room k (A.under (.builtin "type.__call__" ⟨.ref C::us,kw⟩)):=
 ⟨r.hd,by have:=r.dp;rw[tE];omega,by have:=r.un;rw[tF];omega⟩
theorem Room.depth (r:Room k A):A.depth<recursionLimit:=by have:=r.dp;omega
def tNil:TA:=λ_ H Q=>Q [] H
def DK (ta:TE) (tr:TA):TA:=λσ H Q=>ta σ H λx H1=>tr σ H1 λxs H2=>Q (x::xs) H2
section
variable {X:Cx} {e:Expr} {es:List Expr} {te:TE} {t:TA} {pos:Pos}
theorem pa_nil:PA X [] tNil:=λ_ _ _ _ H Q I h=>Calls.spliced_nil ⟨[],H,I,.nil,h⟩
theorem bx (ha:PE X e te) (hr:PA X es t) (hs:starEach (e::es) X.env=(false,eval e X.env)::starEach es X.env:=by rfl):PA X (e::es) (DK te t):=by
 intro pos pins s σ H Q I h;rw[hs];show wpAny _ _ (spliced ((false,eval e X.env)::backTo pos (starEach es X.env))) _ _ s;refine Calls.spliced_cons (thn (ha pins s σ H _ I h) λu s1 ⟨x,H1,I1,r1,q1⟩=>?_);exact thn (hr pos pins s1 σ H1 _ I1 q1) λus s2 ⟨xs,H2,I2,r2,q2⟩=>⟨x::xs,H2,I2,.cons r1 r2,q2⟩
def Ll (t:TA):TE:=λσ H Q=>t σ H λxs H1=>xs.length<=sizeLine/\∀p,H1 p=none->Q (.ref p) (upd H1 p (.tup xs))
def Lm (t:TA):TE:=λσ H Q=>t σ H λxs H1=>xs.length<=sizeLine/\∀p,H1 p=none->Q (.ref p) (upd H1 p (.lst xs))
theorem tH {x1} (h:PA X es t):PE X (.Tuple es x1 pos) (Ll t):=by
 intro pins s σ H Q I hq;refine wpAny_Tuple_spliced (thn (h pos pins s σ H _ I hq) λus s1 ⟨xs,H1,I1,r,z,q⟩=>⟨by rw[<-r.length];exact z,?_⟩);have hf:H1 s1.heap.objs.size=none:=I1.hok.fresh (le_refl _);refine⟨.ref s1.heap.objs.size,upd H1 s1.heap.objs.size (.tup xs),I1.laid (t':=s1.toks) (λb u e=>Heap.get?_push_of_some _ e) (le_refl _) ?_,rfl,q _ hf⟩;exact⟨z,us,r,⟨_,Heap.get?_push_size _ rfl,rfl,_,rfl⟩⟩
theorem x6 (h:PA X es t):PE X (.List es pos) (Lm t):=by
 intro pins s σ H Q I hq;refine wpAny_List_spliced (thn (h pos pins s σ H _ I hq) λus s1 ⟨xs,H1,I1,r,z,q⟩=>⟨by rw[<-r.length];exact z,?_⟩);have hf:H1 s1.heap.objs.size=none:=I1.hok.fresh (le_refl _);refine⟨.ref s1.heap.objs.size,upd H1 s1.heap.objs.size (.lst xs),I1.laid (t':=s1.toks) (λb u e=>Heap.get?_push_of_some _ e) (le_refl _) ?_,rfl,q _ hf⟩;exact⟨z,us,0,r,Heap.get?_push_size _ rfl⟩
end
abbrev Sp:=List V->Hp->VK->XK->Prop
abbrev CXT:=List Env->Hp->Shared->XK->Value->Shared->Prop
structure Env0 (P:Program) (w:World) (K:Frag) (mg:Str->Option Value) (base:Heap) (A:Around) (outer:List Env) (s:Shared) (H:Hp):Prop where
 frames:A.frames=some outer
 mod:Mod K mg base
 bs:∀b o,base.get? b=some o->s.heap.get? b=some o/\H b=none
 bsz:base.objs.size<=s.heap.objs.size
 funs:s.heap.FunFrames base outer
 frf:∀b∈frs outer,H b=none
 hok:HOk P w H s.heap
 bare:AllBare s.gens
def CE (outer:List Env) (P:Program) (w:World) (H:Hp) (s:Shared) (Q:VK) (u:Value) (s':Shared):Prop:=
 ∃v H',s'.os=s.os/\AllBare s'.gens/\Un (frs outer) [] H H' s.heap s'.heap/\HOk P w H' s'.heap/\RelV v u/\Q v H'
def CR (CX:CXT) (outer:List Env) (P:Program) (w:World) (H:Hp) (s:Shared) (Q:VK) (E:XK) (r:Result) (s':Shared):Prop:=
 match r with
 |.ok (.ret u)=>CE outer P w H s Q u s'
 |.ok _=>False
 |.error e=>CX outer H s E e s'
structure FnOk (P:Program) (w:World) (K:Frag) (mg:Str->Option Value) (base:Heap) (CX:CXT) (k:Nat) (f:Addr) (fd:FuncData) (ps:List Str) (sp:Sp):Prop where
 len:∀vs H Q E,sp vs H Q E->vs.length=ps.length
 run:∀ (A:Around) (outer:List Env) (s:Shared) (H:Hp) (args:Args) (us:List Value) (vs:List V) (Q:VK) (E:XK),Room k A->Env0 P w K mg base A outer s H->BindsTo s fd args (ps.zip us)->Vals vs us->sp vs H Q E->
  codeAny (model P w) A (.call (.ref f) args) (CR CX outer P w H s Q E) s
theorem FnOk.imp {K} (F:FnOk P w K mg base CX k f fd ps sp) (h:∀vs H Q E,sp' vs H Q E->sp vs H Q E):FnOk P w K mg base CX k f fd ps sp':=
 ⟨λvs H Q E q=>F.len vs H Q E (h _ _ _ _ q),λA outer s H args us vs Q E hr he hb hv hs=>F.run A outer s H args us vs Q E hr he hb hv (h _ _ _ _ hs)⟩
theorem Env0.make {K} (e:Env0 P w K mg base A outer s H) (C:Addr) (us:List Value) (kw:List (Str×Value)):
 Env0 P w K mg base (A.under (.builtin "type.__call__" ⟨.ref C::us,kw⟩)) outer s H:=⟨by first|exact e.frames|(simpa [Around.under,Code.envs,Code.isFrame,pushEnvs] using e.frames),e.mod,e.bs,e.bsz,e.funs,e.frf,e.hok,e.bare⟩
section
variable {X:Cx} {pins:List (Addr×Obj)} {σ:St} {H:Hp} {s s':Shared}
theorem Inv.env0 (I:Inv X pins σ H s):Env0 X.prog X.w X.K X.mg X.base X.A X.stack s H:=
 ⟨I.ok.frames,I.ok.mod,I.bs,Nat.le_trans I.ok.bsz I.sz,I.stack,I.stkFree,I.hok,I.bare⟩
theorem Inv.after (I:Inv X pins σ H s) (h:CE X.stack X.prog X.w H s Q u s'):EP X pins σ Q u s':=by
 obtain⟨v,H',os,bare,un,hok,r,q⟩:=h;obtain⟨hh,g,d,t,os'⟩:=s';obtain rfl:os'=s.os:=os;exact⟨v,H',I.call (h':=hh) (g':=g) (d':=d) (t':=t) (ch:=[]) un hok bare (λb z=>absurd z (by simp)),r,q⟩
end
def Im (sp:Sp) (dvs:List V) (E:XK) (t:TA):TE:=λσ H Q=>t σ H λvs H1=>sp (vs++dvs) H1 Q E
def DL (C:Addr) (m:Str) (sp:Sp) (dvs:List V) (E:XK) (ta:TE) (t:TA):TE:=λσ H Q=>ta σ H λx H1=>∃a dx fs,x=.ref a/\H1 a=some (.ins C dx fs)/\fs.lookup m=none/\
 t σ H1 λvs H2=>sp (x::(vs++dvs)) H2 Q E
def Io (C:Addr) (sp:Sp) (dvs:List V) (E:XK) (t:TA):TE:=λσ H Q=>t σ H λvs H1=>∀x dx,H1 x=none->H1 dx=none->dx≠x->
 sp (.ref x::(vs++dvs)) (upd (upd H1 dx (.own x)) x (.ins C dx [])) (λv H2=>v=.non/\Q (.ref x) H2) E
def Binds (K:Frag) (fd:FuncData) (ps:List Str) (ds:List Value):Prop:=
 ∀ (s:Shared) (us:List Value),K.In s.heap->(us++ds).length=ps.length->BindsTo s fd ⟨us,[]⟩ (ps.zip (us++ds))
theorem Binds.all {K} (h:∀us:List Value,us.length=ps.length->bindArgs fd ⟨us,[]⟩=pure (ps.zip us)):Binds K fd ps []:=λs us _ hl=>by
 rw[List.append_nil]at hl⊢;exact .of_eq (h us hl)
def iS (CX:CXT) (X:Cx) (E:XK):Prop:=∀ (pins:List (Addr×Obj)) (σ:St) (H:Hp) (s:Shared) (e:Value) (s':Shared),Inv X pins σ H s->CX X.stack H s E e s'->X.xe e s'
section
variable {X:Cx} {CX:CXT} {k:Nat} {f C:Addr} {fd:FuncData} {ps:List Str} {sp:Sp} {dvs:List V} {ds:List Value} {E:XK} {x m:Str} {p pos apos:Pos} {e o:Expr} {es:List Expr} {ta:TE} {t:TA}
theorem tI {σ:St} (F:FnOk X.prog X.w X.K X.mg X.base CX k f fd ps sp) (hr:Room k X.A) (hb:Binds X.K fd ps ds) (hd:Vals dvs ds) (hx:iS CX X E) (I:Inv X pins σ H s) (r:Vals vs us) (h:sp (vs++dvs) H Q E):wpAny (model X.prog X.w) X.A (call (.ref f) us) (EP X pins σ Q) X.xe s:=by
 have r2:Vals (vs++dvs) (us++ds):=r.append hd;have hl:(us++ds).length=ps.length:=by rw[<-r2.length];exact F.len _ _ _ _ h
 refine wpAny_call (codeAny_mono (F.run X.A X.stack s H ⟨us,[]⟩ (us++ds) (vs++dvs) Q E hr I.env0 (hb s us I.kIn hl) r2 h) λr s' hq=>?_);cases r with
 |error e=>exact hx pins σ H s e s' I hq
 |ok fl=>
  cases fl with
  |ret u=>exact I.after hq
  |next=>exact False.elim hq
  |brk=>exact False.elim hq
  |cont=>exact False.elim hq
theorem pM (F:FnOk X.prog X.w X.K X.mg X.base CX k f fd ps sp) (hr:Room k X.A) (hg:Gl X x) (hm:X.mg x=some (.ref f)) (hk:PySem.W.keepIn X.K (.ref f)=true) (hb:Binds X.K fd ps ds) (hd:Vals dvs ds) (hx:iS CX X E)
  (ha:PA X (e::es) t) (hdb:(x==("__debug__":Str))=false:=by decide) (he:starEach (e::es) X.env=(false,eval e X.env)::starEach es X.env:=by rfl) (hpl:(backTo pos (starEach es X.env)).any (·.1)=false:=by rfl):
  PE X (.Call (.Name x p) (e::es) [] pos) (Im sp dvs E t):=by
 intro pins s σ H Q I h
 refine wpAny_Call_Name_kw (pK I hg hm ?_ hdb)
 refine PySem.W.callWith_K (h₀:=X.base) I.ok.mod.kin hk (thn (ha pos pins s σ H _ I h) λus s1 ⟨vs,H1,I1,r,q⟩=>⟨I1.kIn,?_⟩) he hpl
 exact tI F hr hb hd hx I1 r q
theorem BC {pl} (he : PE X o ta) (c : Cls X.K C) (hm : Meth X.K C m f) (F : FnOk X.prog X.w X.K X.mg X.base CX k f fd ps sp) (hr : Room k X.A) (hb : Binds X.K fd ps ds) (hd : Vals dvs ds) (hx : iS CX X E) (ha : PA X (e :: es) t) (hst : starEach (e :: es) X.env = (false, eval e X.env) :: starEach es X.env := by rfl) (hpl : (backTo pos (starEach es X.env)).any (·.1) = false := by rfl) (ht : eval (.Call (.Attribute o m apos) (e :: es) [] pos) X.env = (do
   let ov <- eval o X.env
   standAt apos.atName
   let (f,first) <- holding [ov] (getMethod ov m pl)
   callWith pos f first (backTo pos (starEach (e :: es) X.env)) (backToKw pos (keywordEach [] X.env))):=by rfl) :
  PE X (.Call (.Attribute o m apos) (e :: es) [] pos) (DL C m sp dvs E ta t):=by
 intro pins s σ H Q I h
 refine PySem.W.methodCall_KW (pl:=pl) (thn (he pins s σ H _ I h) fun u s1 ⟨x,H1,I1,rx,a,dx,fs,ex,ea,l,q⟩=>?_) ht
 subst ex
 obtain rfl:u = Value.ref a:=rx
 refine mh I1 ea c hm l ?_
 refine PySem.W.callWith_K (first:=[.ref a]) (h₀:=X.base) I.ok.mod.kin hm.kp (thn (ha pos pins s1 σ H1 _ I1 q) fun us s2 ⟨vs,H2,I2,r,q2⟩=>⟨I2.kIn,?_⟩) hst hpl
 exact tI (us:=.ref a :: us) (vs:=.ref a :: vs) F hr hb hd hx I2 (.cons rfl r) q2
theorem x8 (he : PE X o ta) (c : Cls X.K C) (hm : Meth X.K C m f) (F : FnOk X.prog X.w X.K X.mg X.base CX k f fd ps sp) (hr : Room k X.A) (hb : Binds X.K fd ps ds) (hd : Vals dvs ds) (hx : iS CX X E) (ht : eval (.Call (.Attribute o m apos) [] [] pos) X.env = (do
   let ov <- eval o X.env
   standAt apos.atName
   let (f,first) <- holding [ov] (getMethod ov m pl)
   callWith pos f first (backTo pos (starEach [] X.env)) (backToKw pos (keywordEach [] X.env))):=by rfl) :
  PE X (.Call (.Attribute o m apos) [] [] pos) (DL C m sp dvs E ta tNil):=by
 intro pins s σ H Q I h
 refine PySem.W.methodCall_KW (pl:=pl) (thn (he pins s σ H _ I h) fun u s1 ⟨x,H1,I1,rx,a,dx,fs,ex,ea,l,q⟩=>?_) ht
 subst ex
 obtain rfl:u = Value.ref a:=rx
 refine mh I1 ea c hm l ?_
 exact PySem.W.callWith_K0 (first:=[.ref a]) I1.kIn hm.kp (tI (us:=[.ref a]) (vs:=[.ref a]) F hr hb hd hx I1 (.cons rfl .nil) q)
structure Mk (K:Frag) (C f:Addr):Prop where
 makes:PySem.W.makesIn K C=true
 init:findIn K (.ref C) "__init__"=some (some (.ref f))
 fn:PySem.W.isFn K (.ref f)=true
 kp:PySem.W.keepIn K (.ref C)=true
theorem x9 {σ:St} (M:Mk X.K C f) (F:FnOk X.prog X.w X.K X.mg X.base CX k f fd ps sp) (hr:Room (k+1) X.A) (hb:Binds X.K fd ps ds) (hd:Vals dvs ds) (hx:iS CX X E) (I:Inv X pins σ H s) (r:Vals vs us) (h:∀x dx,H x=none->H dx=none->dx≠x->sp (.ref x::(vs++dvs)) (upd (upd H dx (.own x)) x (.ins C dx [])) (λv H2=>v=.non/\Q (.ref x) H2) E):
  wpAny (model X.prog X.w) X.A (call (.ref C) us) (EP X pins σ Q) X.xe s:=by
 have hq:=h (s.heap.objs.size+1) s.heap.objs.size (I.hok.fresh (Nat.le_succ _)) (I.hok.fresh (le_refl _)) (Nat.ne_of_lt (Nat.lt_succ_self _))
 have I2:=Inv.made (C:=C) I
 have r2:Vals (V.ref (s.heap.objs.size+1)::(vs++dvs)) (Value.ref (s.heap.objs.size+1)::(us++ds)):=.cons rfl (r.append hd)
 have hl:(Value.ref (s.heap.objs.size+1)::us++ds).length=ps.length:=by
  have e:=r2.length;rw[F.len _ _ _ _ hq]at e;exact e.symm
 refine wpAny_call (xZ (f:=f) I.kIn M.makes M.init (beq_iff_eq.mp M.fn) (codeAny_mono (F.run _ X.stack _ _ ⟨Value.ref (s.heap.objs.size+1)::us,[]⟩ (Value.ref (s.heap.objs.size+1)::(us++ds)) _ _ E (hr.make C us [])
  (I2.env0.make C us []) (hb _ (Value.ref (s.heap.objs.size+1)::us) I2.kIn hl) r2 hq) λr s' hq'=>?_))
 cases r with
 |error e=>exact hx pins σ _ _ e s' I2 hq'
 |ok fl=>
  cases fl with
  |ret u=>
   obtain⟨v,H',I3,rv,ev,q3⟩:=I2.after hq';subst ev;exact⟨rv,⟨V.ref (s.heap.objs.size+1),H',I3,rfl,q3⟩⟩
  |next=>exact False.elim hq'
  |brk=>exact False.elim hq'
  |cont=>exact False.elim hq'
theorem BD (M:Mk X.K C f) (F:FnOk X.prog X.w X.K X.mg X.base CX k f fd ps sp) (hr:Room (k+1) X.A) (hg:Gl X x) (hm:X.mg x=some (.ref C)) (hb:Binds X.K fd ps ds) (hd:Vals dvs ds) (hx:iS CX X E)
  (ha:PA X (e::es) t) (hdb:(x==("__debug__":Str))=false:=by decide) (he:starEach (e::es) X.env=(false,eval e X.env)::starEach es X.env:=by rfl) (hpl:(backTo pos (starEach es X.env)).any (·.1)=false:=by rfl):
  PE X (.Call (.Name x p) (e::es) [] pos) (Io C sp dvs E t):=by
 intro pins s σ H Q I h
 refine wpAny_Call_Name_kw (pK I hg hm ?_ hdb)
 refine PySem.W.callWith_K (h₀:=X.base) I.ok.mod.kin M.kp (thn (ha pos pins s σ H _ I h) λus s1 ⟨vs,H1,I1,r,q⟩=>⟨I1.kIn,?_⟩) he hpl
 exact x9 M F hr hb hd hx I1 r q
end
section
variable {X:Cx} {CX:CXT} {k:Nat} {f C:Addr} {fd:FuncData} {ps ks:List Str} {sp:Sp} {E:XK} {x m:Str} {p pos apos kpos:Pos} {e o:Expr} {es:List Expr} {kws:List Keyword} {te ta:TE} {t tk:TA} {nm:Option Str}
structure KBinds (K:Frag) (fd:FuncData) (ps ks:List Str) (g:List Value->List Value->List Value) (gV:List V->List V->List V):Prop where
 to:∀ (s:Shared) (us ws:List Value),K.In s.heap->(g us ws).length=ps.length->BindsTo s fd ⟨us,ks.zip ws⟩ (ps.zip (g us ws))
 rel:∀ {vs:List V} {us:List Value} {zs:List V} {ws:List Value},Vals vs us->Vals zs ws->Vals (gV vs zs) (g us ws)
variable {g:List Value->List Value->List Value} {gV:List V->List V->List V}
end
structure FnScope (N P:List Str) (sc:Scope):Prop where
 kind:sc.kind=.function
 co:sc.isCoroutine=false
 gen:sc.isGenerator=false
 nd:N.Nodup
 pre:N.take P.length=P
 par:∀x∈P,sc.names.lookup x=some .local\/sc.names.lookup x=some .cell
 nofree:∀y∈sc.names,y.2≠.free
theorem oC {kindOf}:∀ {binds:List (Str×Value)} {m:Str->Option Value},(∀v,(x,v) ∉ binds)->bindL kindOf binds m x=m x
 |[],_,_=>rfl
 |(n,v)::r,m,h=>by
  unfold bindL;rw[oC λw hw=>h w (mem_cons_of_mem _ hw)];split
  ·have:x≠n:=by rintro rfl;exact h v mem_cons_self
   simp[this]
  ·rfl
theorem oE {kindOf}:∀ {binds:List (Str×Value)} {m:Str->Option Value},(∀v,(x,v) ∉ binds)->bindC kindOf binds m x=m x
 |[],_,_=>rfl
 |(n,v)::r,m,h=>by
  unfold bindC;rw[oE λw hw=>h w (mem_cons_of_mem _ hw)];split
  ·rfl
  ·have:x≠n:=by rintro rfl;exact h v mem_cons_self
   simp[this]
theorem oF {kindOf}:∀ {P:List Str} {vs:List Value} {i:Nat} {m:Str->Option Value},P.Nodup->P[i]?=some x->vs[i]?=some v->kindOf x=some .local->
  bindL kindOf (P.zip vs) m x=some v
 |[],_,_,_,_,h,_,_=>by simp at h
 |_::_,[],_,_,_,_,h,_=>by simp at h
 |p::P,w::vs,0,m,nd,h1,h2,hk=>by
  simp at h1 h2;subst h1;subst h2;show bindL kindOf ((p,w)::P.zip vs) m p=_;unfold bindL;rw[oC λv hv=>(List.nodup_cons.mp nd).1 (List.of_mem_zip hv).1,if_pos hk];simp
 |p::P,w::vs,i+1,m,nd,h1,h2,hk=>by
  show bindL kindOf ((p,w)::P.zip vs) m x=_;unfold bindL;exact oF (i:=i) (List.nodup_cons.mp nd).2 (by simpa using h1) (by simpa using h2) hk
theorem oG {kindOf}:∀ {P:List Str} {vs:List Value} {i:Nat} {m:Str->Option Value},P.Nodup->P[i]?=some x->vs[i]?=some v->kindOf x≠some .local->
  bindC kindOf (P.zip vs) m x=some v
 |[],_,_,_,_,h,_,_=>by simp at h
 |_::_,[],_,_,_,_,h,_=>by simp at h
 |p::P,w::vs,0,m,nd,h1,h2,hk=>by
  simp at h1 h2;subst h1;subst h2;show bindC kindOf ((p,w)::P.zip vs) m p=_;unfold bindC;rw[oE λv hv=>(List.nodup_cons.mp nd).1 (List.of_mem_zip hv).1,if_neg hk];simp
 |p::P,w::vs,i+1,m,nd,h1,h2,hk=>by
  show bindC kindOf ((p,w)::P.zip vs) m x=_;unfold bindC;exact oG (i:=i) (List.nodup_cons.mp nd).2 (by simpa using h1) (by simpa using h2) hk
def gz (N:List Str) (vs:List V):St:=vs.map some++List.replicate (N.length-vs.length) none
def pN (CX:CXT) (P:Program) (w:World) (K:Frag) (mg:Str->Option Value) (base:Heap) (N:List Str) (qual:Str) (scope:Scope) (f:Addr) (cd:Value) (A:Around) (outer:List Env) (s:Shared) (H:Hp) (E:XK):Cx where
 prog:=P
 w:=w
 K:=K
 mg:=mg
 base:=base
 A:=A.deeper (envOfC qual scope s.heap.objs.size f cd)
 N:=N
 s₀:=s
 H₀:=H
 env:=envOfC qual scope s.heap.objs.size f cd
 outer:=outer
 stack:=envOfC qual scope s.heap.objs.size f cd::outer
 ex:=[]
 calm:=true
 fn:=λ_=>true
 pn:=[]
 xe:=λe s'=>wpAny (model P w) (A.deeper (envOfC qual scope s.heap.objs.size f cd)) (leaving (envOfC qual scope s.heap.objs.size f cd) e) (λ_ s''=>CX outer H s E e s'') (λe' s''=>CX outer H s E e' s'') s'
theorem rc {sc:Scope} (h:sc.names.lookup x=some .cell):∃c,(cellsFrom n sc.names []).lookup x=some c:=by
 have q:=PySem.W.cellsFrom_some sc.names n [] (.inl h);exact Option.isSome_iff_exists.mp q
theorem wP {K} {cd} (S:FnScope N ps scope) (hd:A.handled=none) (e0:Env0 P w K mg base A outer s H) (hl:vs.length=ps.length) (r:Vals vs us) (x:InCallC s s.heap.objs.size (bindL (envOfC qual scope s.heap.objs.size f cd).kindOf (ps.zip us) λ_=>none) (cellsFrom (s.heap.objs.size+1) scope.names []) (bindC (envOfC qual scope s.heap.objs.size f cd).kindOf (ps.zip us) λ_=>none) s1):
  Inv (pN CX P w K mg base N qual scope f cd A outer s H E) [] (gz N vs) H s1:=by
 have hpl:ps.length<=N.length:=by have:=congrArg List.length S.pre;rw[List.length_take]at this;omega
 obtain⟨h1,tk,rfl,hk⟩:=x.done
 have noA:∀b:Addr,b ∉ (pN CX P w K mg base N qual scope f cd A outer s H E).ex:=λb z=>absurd (show b∈([]:List Addr)from z) (by simp)
 refine⟨⟨e0.mod,S.kind,rfl,rfl,le_refl _,λy z c h1 h2=>?_,λy hy=>?_,λy c _ h=>?_,λ_=>hd,Around.frames_deeper e0.frames,.inr ⟨rfl,rfl⟩,λb z=>absurd z (noA b),e0.bs,e0.bsz,λb _ _=>noA b,λb z=>absurd z (noA b),e0.funs,e0.frf⟩,
  rfl,e0.bare,Un.kept hk,⟨_,x.toInCall.ns,λi y v h1 h2 h3=>?_⟩,λy c h=>⟨_,x.cell y c h⟩,e0.hok.fresh (le_refl _),λy c h=>?_,λp hp=>absurd (show p∈([]:List (Addr×Obj))from hp) (by simp),e0.hok.kept hk,?_⟩
 ·exact name_of_addr x.apart (PySem.mem_of_lookup h1) (PySem.mem_of_lookup h2)
 ·have hy:scope.names.lookup y=some .cell\/scope.names.lookup y=some .free:=hy;rcases hy with hy|hy
  ·exact rc hy
  ·exact absurd rfl (S.nofree _ (PySem.mem_of_lookup hy))
 ·exact Nat.le_of_lt (x.above y c (PySem.mem_of_lookup h))
 ·have hi:i<vs.length:=by
   unfold gz at h2;by_cases hi:i<vs.length
   ·exact hi
   ·rw[getElem?_append_right (by simpa using hi)]at h2;rw[List.getElem?_replicate]at h2;split at h2<;>cases h2
  have ha:vs[i]?=some v:=by
   unfold gz at h2;rw[getElem?_append_left (by simpa using hi),getElem?_map]at h2;cases e:vs[i]? with
   |none=>rw[e]at h2;cases h2
   |some a=>rw[e]at h2;cases h2;rfl
  obtain⟨u,hu,rv⟩:=r.get ha;have hp:ps[i]?=some y:=by
   rw[<-S.pre,List.getElem?_take_of_lt (by omega)];exact h1
  have ndP:ps.Nodup:=by rw[<-S.pre];exact S.nd.sublist (List.take_sublist _ _)
  refine⟨u,rv,?_⟩;rcases S.par y (mem_of_getElem? hp)with k|k
  ·exact .inl ⟨k,oF ndP hp hu k⟩
  ·obtain⟨c,e⟩:=rc (n:=s.heap.objs.size+1) k;refine .inr ⟨.inl k,c,e,?_⟩;have q:=x.cell y c e;rw[oG ndP hp hu (by show scope.names.lookup y≠_;rw[k];decide)]at q;exact q
 ·exact e0.hok.fresh (Nat.le_of_lt (x.above y c (PySem.mem_of_lookup h)))
 ·unfold gz;show _=N.length;rw[length_append,length_map,List.length_replicate];omega
theorem Ip {K} {dV kV doc pm cdv ct oc} (lk:K.lookup f=some ⟨oc,od,.func (PySem.W.fnOf name qual params body scope dV kV doc pm an cdv ct),osl⟩) (hcd:PySem.W.codeIn K cdv qual=true) (S:FnScope N ps scope) (len:∀vs H Q E,sp vs H Q E->vs.length=ps.length) (hbody:∀ (A:Around) (outer:List Env) (s:Shared) (H:Hp) (vs:List V) (Q:VK) (E:XK),Room k (A.deeper (envOfC qual scope s.heap.objs.size f cdv))->sp vs H Q E->
   ∃t,PSs (pN CX P w K mg base N qual scope f cdv A outer s H E) body t/\t {nx:=λ_ H'=>Q .non H',rt:=Q} (gz N vs) H):
  FnOk P w K mg base CX (k+1) f (PySem.W.fnOf name qual params body scope dV kV doc pm an cdv ct) ps sp:=by
 refine⟨len,λA outer s H args us vs Q E hr e0 hb r hsp=>?_⟩
 have hl:=len _ _ _ _ hsp
 have KX:K.In s.heap:=e0.mod.kin.keeps λb o e=>(e0.bs b o e).1
 have lim:s.heap.NoLimit:=e0.mod.nolimit.keeps λb o e=>(e0.bs b o e).1
 have hkind:∀y∈ps.zip us,scope.names.lookup y.1=some .local\/(scope.names.lookup y.1=some .cell/\((cellsFrom (s.heap.objs.size+1) scope.names []).lookup y.1).isSome=true):=λ⟨n,v⟩ hy=>by
  rcases S.par n (List.of_mem_zip hy).1 with q|q
  ·exact .inl q
  ·exact .inr ⟨q,PySem.W.cellsFrom_some _ _ _ (.inl q)⟩
 refine codeAny_call_function hr.depth (KX _ _ lk) rfl S.co S.gen rfl (PySem.W.codeRec_of KX hcd) (hb _ _ _ _ ?_)
 refine wpAny_newFunctionEnv_cells S.kind hkind λenv he s1 x=>?_
 subst he
 refine⟨lim.keeps x.toInCall.keep,codeAny_func ?_⟩
 obtain⟨t,ht,hq⟩:=hbody A outer s H vs Q E (hr.deeper _) hsp
 have I:Inv (pN CX P w K mg base N qual scope f cdv A outer s H E) [] (gz N vs) H s1:=wP S hr.hd e0 hl r x
 refine wpAny_mono (ht [] s1 (gz N vs) H _ I hq) (λfl s' hs=>?_) λe s' hs=>hs
 have fin:∀ {σ':St} {H':Hp} {v:V} {u:Value},Inv (pN CX P w K mg base N qual scope f cdv A outer s H E) [] σ' H' s'->RelV v u->Q v H'->CE outer P w H s Q u s':=
  λ{σ' H' v u} J rv q=>⟨v,H',J.os,J.bare,J.base,J.hok,rv,q⟩
 cases fl with
 |ret u=>
  obtain⟨v,σ',H',J,rv,q⟩:=hs;exact fin J rv q
 |next=>
  obtain⟨σ',H',J,q⟩:=hs;exact fin (v:=V.non) (u:=Value.none) J rfl q
 |brk=>
  obtain⟨_,_,_,q⟩:=hs;exact False.elim q
 |cont=>
  obtain⟨_,_,_,q⟩:=hs;exact False.elim q
section
variable {X:Cx} {x:Str} {p pos:Pos} {e:Expr} {es:List Expr} {t:TA} {id T:String} {r:List V->Hp->VK->Prop}
def tCB (r:List V->Hp->VK->Prop) (t:TA):TE:=λσ H Q=>t σ H λvs H1=>r vs H1 Q
theorem jh (hc:dM X (.builtin id) r) (hg:Gl X x) (hm:X.mg x=none) (hv:bootBuiltins x=some (.builtin id)) (ha:PA X (e::es) t) (hn:x≠"__name__":=by decide) (hdb:(x==("__debug__":Str))=false:=by decide)
  (he:starEach (e::es) X.env=(false,eval e X.env)::starEach es X.env:=by rfl) (hpl:(backTo pos (starEach es X.env)).any (·.1)=false:=by rfl):PE X (.Call (.Name x p) (e::es) [] pos) (tCB r t):=by
 intro pins s σ H Q I h
 refine wpAny_Call_Name_kw (cU I hg hm hv ?_ hn hdb)
 exact PyProof.Rows.callWith_builtin1 (thn (ha pos pins s σ H _ I h) λus s1 ⟨vs,H1,I1,r1,q1⟩=>hc pins s1 σ H1 vs us Q I1 r1 q1) he hpl
theorem oH (hc:dM X (.type T) r) (hg:Gl X x) (hm:X.mg x=none) (hv:bootBuiltins x=some (.type T)) (ha:PA X (e::es) t) (hn:x≠"__name__":=by decide) (hdb:(x==("__debug__":Str))=false:=by decide)
  (he:starEach (e::es) X.env=(false,eval e X.env)::starEach es X.env:=by rfl) (hpl:(backTo pos (starEach es X.env)).any (·.1)=false:=by rfl):PE X (.Call (.Name x p) (e::es) [] pos) (tCB r t):=by
 intro pins s σ H Q I h
 refine wpAny_Call_Name_kw (cU I hg hm hv ?_ hn hdb)
 exact PyProof.Rows.callWith_type1 (thn (ha pos pins s σ H _ I h) λus s1 ⟨vs,H1,I1,r1,q1⟩=>hc pins s1 σ H1 vs us Q I1 r1 q1) he hpl
end
end L2
namespace HT
open PySem PyProof.Rows
def lexLt:List Int->List Int->Bool
 |[],[]=>false
 |[],_::_=>true
 |_::_,[]=>false
 |x::xs,y::ys=>if x=y then lexLt xs ys else decide (x<y)
theorem tK (x y:Int) (xs ys:List Int):lexLt (x::xs) (y::ys)=if x=y then lexLt xs ys else decide (x<y):=rfl
theorem nR:lexLt [] []=false:=rfl
theorem mj (y:Int) (ys:List Int):lexLt [] (y::ys)=true:=rfl
theorem mn (x:Int) (xs:List Int):lexLt (x::xs) []=false:=rfl
theorem ya (A:Around) (s:Shared) (a:Int) (t:Tok) (c:Int) (u:Tok):∃e,SeqAt.EqAt A s (.int a t) (.int c u) e/\(e=true↔a=c):=
 ⟨(a==c),SeqAt.EqAt.int_int a t c u,by simp⟩
theorem yb (A:Around) (s:Shared) (a:Int) (t:Tok) (c:Int) (u:Tok) (prog:Program) (w:World) (E:Value->Shared->Prop) (Q:Value->Shared->Prop) (h:Q (.bool (decide (a<c))) s):
  wpAny (model prog w) A (richCompare .Lt (.int a t) (.int c u)) Q E s:=
 (PyProof.Rows.lt_int h:wpAny (model prog w) A (compareOp .Lt (.int a t) (.int c u)) Q E s)
section
open PySem.SeqAt
open PySem.AutoSeq1 (wpAny_loadPart')
open PySem.MeetsSeq PySem.MeetsSeq2 PySem.MeetsSeq3
theorem nS (l b:Addr) (items items2:Array Value) (n n2:Nat) (dd dd2:Option Addr) (sl sl2:Array (Option Value)) (ns ms:List Int) (hi:IntsAre items.toList ns) (hj:IntsAre items2.toList ms):
  Meets (Builtin.«tuple.__lt__» ⟨[.ref l,.ref b],[]⟩)
   (λ_ R s=>s.heap.get? l=some {cls:=.type "tuple",dict:=dd,data:=.seq items n,slots:=sl}/\s.heap.get? b=some {cls:=.type "tuple",dict:=dd2,data:=.seq items2 n2,slots:=sl2}/\
    R (.ok (.ret (.bool (lexLt ns ms)))) s):=
 .of_wp λprog w A R s h=>by
  obtain⟨hp,g,d,tk,os⟩:=s;obtain⟨hl,hb,h⟩:=h;have f2:=AutoSeq1.sub_tuple_tuple;have z1:items.size=ns.length:=by rw[<-hi.length];simp
  have z2:items2.size=ms.length:=by rw[<-hj.length];simp
  wp_walk using wpAny_loadPart' hl,wpAny_loadPart' hb,wpAny_forIn_list _ (λrest b s'=>b.1=none/\s'=⟨hp,g,d,tk,os⟩/\∃ (vs ws:List Value) (ns' ms':List Int),rest=vs.zip ws/\
   IntsAre vs ns'/\IntsAre ws ms'/\ns'.length+items2.size=ms'.length+items.size/\R (.ok (.ret (.bool (lexLt ns' ms')))) ⟨hp,g,d,tk,os⟩) _
  case turn=>
   rintro⟨y,x⟩ rest b s' ⟨hb',rfl,vs,ws,ns',ms',hz,hvi,hwi,hlen,hR⟩;cases hvi with
   |nil=>rw[List.zip_nil_left]at hz;cases hz
   |cons a t hvi'=>
    cases hwi with
    |nil=>rw[List.zip_nil_right]at hz;cases hz
    |cons c u hwi'=>
     rw[List.zip_cons_cons]at hz;injection hz with hyx hrest;injection hyx with hy hx;subst hy hx;rw[tK]at hR;simp only[length_cons]at hlen;obtain⟨e,he,hiff⟩:=ya A.in1 ⟨hp,g,d,tk,os⟩ a t c u;refine wpAny_bind (he prog w _ _ ?_);cases e with
     |true=>
      rw[if_pos (hiff.mp rfl)]at hR;wp_walk;exact⟨rfl,rfl,_,_,_,_,hrest,hvi',hwi',by omega,hR⟩
     |false=>
      rw[if_neg (λq=>absurd (hiff.mpr q) Bool.false_ne_true)]at hR;have hri:=yb A.in1 ⟨hp,g,d,tk,os⟩ a t c u prog w;wp_walk using hri;exact⟨_,rfl,by simpa using hR⟩
  case fin=>
   rintro⟨b1,b2⟩ s' ⟨hb',rfl,vs,ws,ns',ms',hz,hvi,hwi,hlen,hR⟩;simp only at hb';subst hb';have hv:lexLt ns' ms'=decide (items.size<items2.size):=by
    cases hvi with
    |nil=>
     cases hwi with
     |nil=>
      simp only[List.length_nil]at hlen;rw[nR];exact(decide_eq_false (by omega)).symm
     |cons c u hw=>
      simp only[List.length_nil,length_cons]at hlen;rw[mj];exact(decide_eq_true (by omega)).symm
    |cons a t hv=>
     cases hwi with
     |nil=>
      simp only[List.length_nil,length_cons]at hlen;rw[mn];exact(decide_eq_false (by omega)).symm
     |cons c u hw=>
      rw[List.zip_cons_cons]at hz;cases hz
   rw[hv]at hR;wp_walk;exact⟨_,rfl,by simpa [Builtin.Tuple.tupleCompareSizes] using hR⟩
  case h=>
   exact⟨rfl,rfl,items.toList,items2.toList,ns,ms,rfl,hi,hj,by omega,h⟩
end
section
variable {prog:Program} {w:World} {A:Around} {E:Value->Shared->Prop} {s:Shared}
theorem lt_tupInts (hl:IsTup s.heap l items) (hb:IsTup s.heap b items2) (hi:IntsAre items.toList ns) (hj:IntsAre items2.toList ms) (hu:A.units<cLine) (h:Q (.bool (lexLt ns ms)) s):wpAny (model prog w) A (compareOp .Lt (.ref l) (.ref b)) Q E s:=by
 obtain⟨⟨cls,dd,data,sl⟩,ho,hc,n,hd⟩:=id hl;obtain⟨⟨cls2,dd2,data2,sl2⟩,ho2,hc2,n2,hd2⟩:=id hb;simp only at hc hd hc2 hd2;subst hc hd hc2 hd2;exact richCompare_meets_room (op:=.Lt) ⟨_,ho,rfl⟩ ⟨_,ho2,rfl⟩ PySem.F.slot_tuple_lt PySem.F.entry_tuple_lt (PySem.F.args_tuple_lt_2 _ _) (nS l b items items2 n n2 dd dd2 sl sl2 ns ms hi hj)
  ⟨ho,ho2,show Value.bool (lexLt ns ms)≠Value.notImplemented/\Q (.bool (lexLt ns ms)) s from⟨(λx=>nomatch x),h⟩⟩ hu
theorem cat_tup (ht:IsTup s.heap t vs.toArray) (hb:IsTup s.heap b ws.toArray) (hv:vs≠[]) (h1:ws=[]->Q (.ref t) s) (h2:ws≠[]->Q (.ref s.heap.objs.size) {s with heap:=s.heap.push {cls:=.type "tuple",data:=.seq (vs++ws).toArray}}) (hsz:vs.length+ws.length<=sizeLine):wpAny (model prog w) A (binaryOp .Add (.ref t) (.ref b)) Q E s:=by
 obtain⟨⟨cls,dd,data,sl⟩,ho,hc,n,hd⟩:=id ht;obtain⟨⟨cls2,dd2,data2,sl2⟩,ho2,hc2,n2,hd2⟩:=id hb;simp only at hc hd hc2 hd2;subst hc hd hc2 hd2;have e:vs.toArray++ws.toArray=(vs++ws).toArray:=by simp
 by_cases hw:ws=[]
 ·exact concat_meets ⟨_,ho,rfl⟩ ⟨_,ho2,rfl⟩ noFill_tuple_add seq_tuple_add PySem.F.slot_tuple_add PySem.F.entry_tuple_add (PySem.F.args_tuple_add_2 _ _)
   (tuple_addW1 t b vs.toArray ws.toArray n n2 dd dd2 sl sl2 (by simpa using hv) (by simp[hw])) ⟨ho,ho2,h1 hw⟩
 ·refine concat_meets ⟨_,ho,rfl⟩ ⟨_,ho2,rfl⟩ noFill_tuple_add seq_tuple_add PySem.F.slot_tuple_add PySem.F.entry_tuple_add (PySem.F.args_tuple_add_2 _ _)
   (tuple_addW2 t b vs.toArray ws.toArray n n2 dd dd2 sl sl2 (by simpa using hv) (by simpa using hw) (by rw[size_toArray,size_toArray];exact hsz)) ⟨ho,ho2,?_⟩
  rw[e];exact h2 hw
def sIx (n d:Nat):Option Int->Nat
 |none=>d
 |some v=>if v<0 then(v+(n:Int)).toNat else min v.toNat n
theorem sIx_none (n d:Nat):sIx n d none=d:=rfl
theorem sIx_nat (n d k:Nat):sIx n d (some (k:Int))=min k n:=by
 show(if(k:Int)<0 then((k:Int)+(n:Int)).toNat else min (k:Int).toNat n)=min k n;rw[if_neg (by omega),Int.toNat_natCast]
theorem EK (n d:Nat) (hd:d<=n) (o:Option Int):sIx n d o<=n:=by
 cases o with
 |none=>exact hd
 |some v=>
  show(if v<0 then(v+(n:Int)).toNat else min v.toNat n)<=n;by_cases hv:v<0
  ·rw[if_pos hv];omega
  ·rw[if_neg hv];exact Nat.min_le_right _ _
theorem u9 (v:Int) (n d:Nat):(if v<0 then max (v+(n:Int)) 0 else min v (n:Int))=((sIx n d (some v):Nat):Int):=by
 show(if v<0 then max (v+(n:Int)) 0 else min v (n:Int))=(((if v<0 then(v+(n:Int)).toNat else min v.toNat n):Nat):Int);by_cases hv:v<0
 ·simp only[if_pos hv];omega
 ·simp only[if_neg hv];omega
theorem tL (lo hi:Option Int) (n:Nat):Builtin.Slice.sliceAdjust lo hi 1 (n:Int)=(((sIx n 0 lo:Nat):Int),((sIx n n hi:Nat):Int)):=by
 have h1:¬ ((1:Int)<0):=by omega
 unfold Builtin.Slice.sliceAdjust;simp only[h1,if_false];refine Prod.ext ?_ ?_
 ·cases lo with
  |none=>rfl
  |some v=>exact u9 v n 0
 ·cases hi with
  |none=>rfl
  |some v=>exact u9 v n n
theorem tM (i j:Nat):Builtin.Slice.slicePlaces (i:Int) (j:Int) 1=j-i:=by
 unfold Builtin.Slice.slicePlaces;have h1:(1:Int)>0:=by omega
 simp only[h1,if_true,Int.ediv_one];split<;>omega
theorem mo (p:IsPart v o) (h:Q o s):wpAny (model prog w) A (Builtin.Slice.slicePartIndex v) Q E s:=by
 cases p with
 |none=>exact slicePart_none h
 |int i t=>exact slicePart_int h
theorem sliceApplied_gen {lo hi} {Q:Int×Int×Nat->Shared->Prop} (hs:s.heap.IsSliceOf sl vl vu .none) (pl:IsPart vl lo) (pu:IsPart vu hi) (h:Q (((sIx n 0 lo:Nat):Int),1,sIx n n hi-sIx n 0 lo) s):wpAny (model prog w) A (Builtin.Slice.sliceApplied (.ref sl) (pure (n:Int))) Q E s:=by
 obtain⟨os,hos,hcs,hds⟩:=id hs;unfold Builtin.Slice.sliceApplied Builtin.Slice.sliceFields;refine wpAny_bind (wpAny_bind (wpAny_field hos hds (x:=vl) rfl (wpAny_bind (wpAny_field hos hds (x:=vu) rfl (wpAny_bind (wpAny_field hos hds (x:=.none) rfl (wpAny_pure ?_)))))));refine wpAny_bind (slicePart_none ?_);show wpAny _ _ (if((1:Int)==0)=true then _ else _) _ _ s;rw[if_neg (by decide)];refine wpAny_bind (mo pl (wpAny_bind (mo pu (wpAny_bind (wpAny_pure ?_)))));show wpAny _ _ (match Builtin.Slice.sliceAdjust lo hi 1 (n:Int)with|(lo,hi)=>pure (lo,(1:Int),Builtin.Slice.slicePlaces lo hi 1)) _ _ s;rw[tL lo hi n];show wpAny _ _ (pure (((sIx n 0 lo:Nat):Int),(1:Int),Builtin.Slice.slicePlaces ((sIx n 0 lo:Nat):Int) ((sIx n n hi:Nat):Int) 1)) _ _ s;rw[tM];exact wpAny_pure h
theorem yc (xs:Array Value) (i k:Nat):((List.range k).filterMap λ(m:Nat)=>xs[((i:Int)+(m:Int)*1).toNat]?).toArray=((xs.toList.drop i).take k).toArray:=by
 have e:(λ(m:Nat)=>xs[((i:Int)+(m:Int)*1).toNat]?)=λm=>xs[i+m]?:=by
  funext m;have:((i:Int)+(m:Int)*1).toNat=i+m:=by omega
  rw[this]
 rw[e];have:=pick_run xs i k;rw[List.filterMap_map]at this;have e2:((λx=>xs[x]?)∘λx=>i+x)=λm=>xs[i+m]?:=rfl;rw[e2]at this;rw[this]
theorem getItem_tuple_cut {lo hi} (ht:IsTup s.heap t items) (hs:s.heap.IsSliceOf sl vl vu .none) (pl:IsPart vl lo) (pu:IsPart vu hi) (hw:¬ (sIx items.size 0 lo=0/\sIx items.size items.size hi=items.size)) (h:Q (.ref s.heap.objs.size) {s with heap:=s.heap.push {cls:=.type "tuple",data:=.seq ((items.toList.drop (sIx items.size 0 lo)).take (sIx items.size items.size hi-sIx items.size 0 lo)).toArray}}) (hsz:items.size<=sizeLine):wpAny (model prog w) A (getItem (.ref t) (.ref sl)) Q E s:=by
 have htake:sizeOk (.seq ((items.toList.drop (sIx items.size 0 lo)).take (sIx items.size items.size hi-sIx items.size 0 lo)).toArray):=by
  show((items.toList.drop (sIx items.size 0 lo)).take (sIx items.size items.size hi-sIx items.size 0 lo)).toArray.size<=sizeLine;rw[size_toArray,List.length_take,List.length_drop,Array.length_toList];omega
 have hj:sIx items.size items.size hi<=items.size:=EK _ _ (le_refl _) hi;obtain⟨os,hos,hcs,hds⟩:=id hs;have hTs:s.TypeIs (.ref sl) "slice":=⟨os,hos,hcs⟩;unfold getItem;try with_reducible refine wpAny_holding ?_
 first|refine wpAny_bind (wpAny_pure ?_)|skip
 refine wpAny_bind (wpAny_sequenceKey ht.typeIs (by decide) ?_);refine wpAny_bind (wpAny_callSpecial?_slot (name:=Str.ofString "__getitem__") ht.typeIs PyProof.Rows.slot_tuple_getitem
  (wpAny_call_entry PyProof.Rows.slot_tuple_getitem ht.typeIs entry_tuple_getitem ?_ (args_tuple_getitem _ _)))
 show wpAny _ _ (Builtin.Tuple.tupleItemsOf (.ref t)>>=_) _ _ s;refine wpAny_bind (tupleItemsOf_ ht ?_);refine wpAny_bind (wpAny_typeOf hTs ?_);rw[if_pos (by decide)];refine wpAny_bind (sliceApplied_gen hs pl pu ?_);have hno:¬ ((((sIx items.size 0 lo:Nat):Int)==0&&(1:Int)==1&&(sIx items.size items.size hi-sIx items.size 0 lo)==items.size)=true):=by
  intro q;rw[and_eq_true,and_eq_true]at q;have q1:((sIx items.size 0 lo:Nat):Int)=0:=eq_of_beq q.1.1;have q2:sIx items.size items.size hi-sIx items.size 0 lo=items.size:=eq_of_beq q.2;exact hw ⟨by omega,by omega⟩
 show wpAny _ _ (if(((sIx items.size 0 lo:Nat):Int)==0&&(1:Int)==1&&(sIx items.size items.size hi-sIx items.size 0 lo)==items.size)=true then _ else _) _ _ s;rw[if_neg hno,yc];first
  |exact wpAny_bind (m:=Builtin.Tuple.tupleExact _) (wpAny_newObj_type (wpAny_pure ⟨_,rfl,wpAny_pure h⟩) htake)
  |exact wpAny_bind (m:=Builtin.Tuple.tupleExact _) (wpAny_newObj_type (wpAny_bind (wpAny_pure (wpAny_pure ⟨_,rfl,wpAny_pure h⟩))) htake)
  |exact wpAny_bind (wpAny_bind (m:=Builtin.Tuple.tupleExact _) (wpAny_newObj_type (wpAny_pure (wpAny_pure ⟨_,rfl,wpAny_pure h⟩)) htake))
  |exact wpAny_bind (wpAny_bind (m:=Builtin.Tuple.tupleExact _) (wpAny_newObj_type (wpAny_pure ⟨_,rfl,wpAny_pure h⟩) htake))
end
end HT
namespace L2
open PySem PySem.Spec PyProof.Rows
abbrev TO:=St->Hp->(Option Int->Hp->Prop)->Prop
def PO (X:Cx) (e:Option Expr) (t:TO):Prop:=
 ∀ (pins:List (Addr×Obj)) (s:Shared) (σ:St) (H:Hp) (Q:Option Int->Hp->Prop),Inv X pins σ H s->t σ H Q->
  wpAny (model X.prog X.w) X.A (evalPart e X.env) (λu s'=>∃o H',Inv X pins σ H' s'/\IsPart u o/\Q o H') X.xe s
def BE:TO:=λ_ H Q=>Q none H
def Iq (t:TE):TO:=λσ H Q=>t σ H λx H1=>∃i,x=.int i/\Q (some i) H1
theorem mq:∀ {us:List Value},Vals (ns.map V.int) us->IntsAre us ns:=by
 induction ns with
 |nil=>intro us r;rw[List.map_nil]at r;cases r;exact .nil
 |cons n ns ih=>
  intro us r;rw[List.map_cons]at r;cases r with
  |cons r1 r2=>
   obtain⟨t,e⟩:=r1;subst e;exact .cons n t (ih r2)
section
variable {X:Cx} {e:Expr} {te:TE} {lo hi:Option Expr} {tl th:TO} {pos p2:Pos}
theorem po_none:PO X none BE:=by
 intro pins s σ H Q I h;rw[evalPart_none];exact wpAny_pure ⟨none,H,I,.none,h⟩
theorem BF (h:PE X e te):PO X (some e) (Iq te):=by
 intro pins s σ H Q I hw;rw[evalPart_some];refine thn (h pins s σ H _ I hw) λu s1 ⟨x,H1,I1,r1,q1⟩=>?_;obtain⟨i,rfl,q⟩:=q1;obtain⟨t,rfl⟩:=r1;exact⟨some i,H1,I1,.int i t,q⟩
def SlR (X:Cx) (r:V->Option Int->Option Int->Hp->VK->Prop):Prop:=
 ∀ (pins:List (Addr×Obj)) (s:Shared) (σ:St) (H:Hp) (x:V) (v vl vu:Value) (lo hi:Option Int) (sl:Addr) (Q:VK),Inv X pins σ H s->RelV x v->s.heap.IsSliceOf sl vl vu .none->IsPart vl lo->IsPart vu hi->r x lo hi H Q->
  ∃T id,typeLookup (.type T) "__getitem__"=pure (some (.builtin id))/\s.TypeIs v T/\wpAny (model X.prog X.w) X.A (getItem v (.ref sl)) (EP X pins σ Q) X.xe s
theorem SlR.or (h:SlR X r) (h':SlR X r'):SlR X (λx lo hi H Q=>r x lo hi H Q\/r' x lo hi H Q):=by
 intro pins s σ H x v vl vu lo hi sl Q I rx hs pl pu q;rcases q with q|q
 ·exact h pins s σ H x v vl vu lo hi sl Q I rx hs pl pu q
 ·exact h' pins s σ H x v vl vu lo hi sl Q I rx hs pl pu q
def tSl (r:V->Option Int->Option Int->Hp->VK->Prop) (te:TE) (tl th:TO):TE:=λσ H Q=>te σ H λx H1=>tl σ H1 λl H2=>th σ H2 λu H3=>r x l u H3 Q
theorem re (hr:SlR X r) (he:PE X e te) (hl:PO X lo tl) (hu:PO X hi th):PE X (.Subscript e (.Slice lo hi none p2) pos) (tSl r te tl th):=by
 intro pins s σ H Q I h;refine Subscript_ (thn (he pins s σ H _ I h) λv s1 ⟨x,H1,I1,r1,q1⟩=>?_);refine wpAny_Slice (thn (hl pins s1 σ H1 _ I1 q1) λvl s2 ⟨l,H2,I2,pl,q2⟩=>thn (hu pins s2 σ H2 _ I2 q2) λvu s3 ⟨u,H3,I3,pu,q3⟩=>?_);rw[evalPart_none];refine wpAny_pure ?_;have I4:Inv X pins σ H3 {s3 with heap:=s3.heap.push {cls:=.type "slice",data:=.fields #[vl,vu,.none]}}:=I3.kept (t':=s3.toks) λb ob q=>Heap.get?_push_of_some _ q;obtain⟨T,id,hT,ht,hg⟩:=hr pins {s3 with heap:=s3.heap.push {cls:=.type "slice",data:=.fields #[vl,vu,.none]}} σ H3 x v vl vu l u s3.heap.objs.size Q I4 r1 (Heap.IsSliceOf.new ..) pl pu q3;show wpAny (model X.prog X.w) X.A (subscriptTail e (.Slice lo hi none p2) v (.ref s3.heap.objs.size)) (EP X pins σ Q) X.xe {s3 with heap:=s3.heap.push {cls:=.type "slice",data:=.fields #[vl,vu,.none]}};exact tail_any (ops:=[.ref s3.heap.objs.size,v]) ht hT hg (by with_unfolding_all rfl)
def rg (xs:List V) (lo hi:Option Int):List V:=(xs.drop (HT.sIx xs.length 0 lo)).take (HT.sIx xs.length xs.length hi-HT.sIx xs.length 0 lo)
theorem kQ (xs:List V) (lo hi:Option Int):(rg xs lo hi).length<=xs.length:=by
 unfold rg;rw[List.length_take,List.length_drop];omega
def Ln (K:Frag):V->Option Int->Option Int->Hp->VK->Prop:=λx lo hi H Q=>∃a xs,x=.ref a/\SqT K H a xs/\
 ¬ (HT.sIx xs.length 0 lo=0/\HT.sIx xs.length xs.length hi=xs.length)/\∀p,H p=none->Q (.ref p) (upd H p (.tup (rg xs lo hi)))
theorem sl_tup:SlR X (Ln X.K):=by
 intro pins s σ H x v vl vu lo hi sl Q I rx hs pl pu h;obtain⟨a,xs,rfl,hx,hw,q⟩:=h;cases rx;obtain⟨its,r,ht,hz⟩:=I.tuple hx;have hlen:its.toArray.size=xs.length:=by rw[size_toArray];exact r.length.symm
 refine⟨"tuple",_,PyProof.Rows.slot_tuple_getitem.lookup,ht.typeIs,?_⟩;refine HT.getItem_tuple_cut ht hs pl pu (by rw[hlen];exact hw) ?_ (by rw[hlen];exact hz);rw[hlen];refine⟨.ref s.heap.objs.size,_,I.laid (t':=s.toks) (o:=.tup (rg xs lo hi)) (λb ob q=>Heap.get?_push_of_some _ q) (le_refl _) ?_,rfl,q _ (I.hok.fresh (le_refl _))⟩;exact⟨Nat.le_trans (kQ xs lo hi) hz,_,(r.drop (HT.sIx xs.length 0 lo)).take (HT.sIx xs.length xs.length hi-HT.sIx xs.length 0 lo),IsTup.new _ _⟩
def Ir (K:Frag):R2:=λx y H Q=>∃a b ns ms,x=.ref a/\y=.ref b/\SqT K H a (ns.map V.int)/\SqT K H b (ms.map V.int)/\Q (.bl (HT.lexLt ns ms)) H
theorem tN (hu:X.A.units<cLine):OpR X (compareOp .Lt) (Ir X.K):=by
 intro pins s σ H x y v u Q I rx ry h;obtain⟨a,b,ns,ms,rfl,rfl,ha,hb,q⟩:=h;cases rx;cases ry;obtain⟨its,r1,p1,_⟩:=I.tuple ha;obtain⟨its2,r2,p2,_⟩:=I.tuple hb;have i1:IntsAre its.toArray.toList ns:=mq r1;have i2:IntsAre its2.toArray.toList ms:=mq r2;exact HT.lt_tupInts p1 p2 i1 i2 hu ⟨.bl (HT.lexLt ns ms),H,I,rfl,q⟩
def DM (K:Frag):R2:=λx y H Q=>∃a b xs ys,x=.ref a/\y=.ref b/\SqT K H a xs/\SqT K H b ys/\xs≠[]/\xs.length+ys.length<=sizeLine/\
 (ys=[]->Q (.ref a) H)/\(ys≠[]->∀p,H p=none->Q (.ref p) (upd H p (.tup (xs++ys))))
theorem Vals.nil_iff (r:Vals xs us):us=[]↔xs=[]:=by
 cases r with
 |nil=>simp
 |cons _ _=>simp
theorem BG:OpR X (binaryOp .Add) (DM X.K):=by
 intro pins s σ H x y v u Q I rx ry h;obtain⟨a,b,xs,ys,rfl,rfl,ha,hb,hx,hz,q1,q2⟩:=h;cases rx;cases ry;obtain⟨its,r1,p1,_⟩:=I.tuple ha;obtain⟨its2,r2,p2,_⟩:=I.tuple hb;refine HT.cat_tup p1 p2 (λz=>hx (r1.nil_iff.mp z)) (λz=>⟨.ref a,H,I,rfl,q1 (r2.nil_iff.mp z)⟩) (λz=>?_) (by rw[<-r1.length,<-r2.length];exact hz);refine⟨.ref s.heap.objs.size,_,I.laid (t':=s.toks) (o:=.tup (xs++ys)) (λb ob q=>Heap.get?_push_of_some _ q) (le_refl _) ?_,rfl,q2 (λw=>z (r2.nil_iff.mpr w)) _ (I.hok.fresh (le_refl _))⟩;exact⟨by rw[length_append];exact hz,_,r1.append r2,IsTup.new _ _⟩
end
def ixN (n:Nat) (i:Int):Option Nat:=if 0<=i then(if i<n then some i.toNat else none)else if -(n:Int)<=i then some (i+n).toNat else none
def atI {α:Type} (xs:List α) (i:Int):Option α:=(ixN xs.length i).bind λj=>xs[j]?
theorem vb (h:ixN n i=some j):seqIndex? i n=some j/\j<n/\ -(n:Int)<=i/\i<n:=by
 unfold ixN at h;by_cases h0:0<=i
 ·rw[if_pos h0]at h;by_cases h1:i<n
  ·rw[if_pos h1]at h;have e:i.toNat=j:=Option.some.inj h;exact⟨by rw[seqIndex_of h0 h1,e],by omega,by omega,h1⟩
  ·rw[if_neg h1]at h;cases h
 ·rw[if_neg h0]at h;by_cases h1:-(n:Int)<=i
  ·rw[if_pos h1]at h;have e:(i+n).toNat=j:=Option.some.inj h;exact⟨by rw[seqIndex_neg (by omega) h1,e],by omega,h1,by omega⟩
  ·rw[if_neg h1]at h;cases h
theorem pO {v:α} (h:atI xs i=some v):∃j,seqIndex? i xs.length=some j/\xs[j]?=some v/\j<xs.length/\ -(xs.length:Int)<=i/\i<xs.length:=by
 unfold atI at h;cases e:ixN xs.length i with
 |none=>rw[e]at h;cases h
 |some j=>
  rw[e]at h;obtain⟨h1,h2,h3,h4⟩:=vb e;exact⟨j,h1,h,h2,h3,h4⟩
def dN (b:Expr):Prop:=∀o i,subscripted b false o i=operate [o,i] (getItem o i)
def IxR (X:Cx) (r:R2):Prop:=
 ∀ (value slice:Expr) (pins:List (Addr×Obj)) (s:Shared) (σ:St) (H:Hp) (x y:V) (v u:Value) (Q:VK),Inv X pins σ H s->RelV x v->RelV y u->r x y H Q->
  subscripted slice false v u=operate [v,u] (getItem v u)->wpAny (model X.prog X.w) X.A (subscriptTail value slice v u) (EP X pins σ Q) X.xe s
def MtR (X:Cx) (id:String) (r:V->List V->Hp->VK->Prop):Prop:=
 ∀ (pins:List (Addr×Obj)) (s:Shared) (σ:St) (H:Hp) (x:V) (xs:List V) (v:Value) (us:List Value) (Q:VK),Inv X pins σ H s->RelV x v->Vals xs us->r x xs H Q->
  wpAny (model X.prog X.w) X.A (call (.builtin id) (v::us)) (EP X pins σ Q) X.xe s
section
variable {X:Cx} {a b:Expr} {ta tb:TE} {pos:Pos}
theorem IxR.or (h:IxR X r) (h':IxR X r'):IxR X (λx y H Q=>r x y H Q\/r' x y H Q):=by
 intro value slice pins s σ H x y v u Q I rx ry q hs;rcases q with q|q
 ·exact h value slice pins s σ H x y v u Q I rx ry q hs
 ·exact h' value slice pins s σ H x y v u Q I rx ry q hs
theorem oI (hr:IxR X r) (ha:PE X a ta) (hb:PE X b tb) (hs:dN b):PE X (.Subscript a b pos) (tOp r ta tb):=by
 intro pins s σ H Q I h;exact Subscript_ (Ey ha hb I h λv u s2 x y H2 I2 rx ry q=>hr a b pins s2 σ H2 x y v u Q I2 rx ry q (hs _ _))
def Iu (K:Frag):R2:=λx y H Q=>∃p xs i v,x=.ref p/\y=.int i/\SqL K H p xs/\atI xs i=some v/\Q v H
def Iv (K:Frag):R2:=λx y H Q=>∃p xs i v,x=.ref p/\y=.int i/\SqT K H p xs/\atI xs i=some v/\Q v H
def Iw:R2:=λx y H Q=>∃z i c,x=.str z/\y=.int i/\z.length<=sizeLine/\atI z.cps.toList i=some c/\Q (.str ⟨#[c]⟩) H
theorem ix_list:IxR X (Iu X.K):=by
 intro value slice pins s σ H x y v u Q I rx ry h hs;obtain⟨p,xs,i,z,rfl,rfl,hq,he,q⟩:=h;cases rx;obtain⟨t,rfl⟩:=ry;obtain⟨its,r,pl,hz⟩:=I.list hq;obtain⟨j,h1,h2,h3,h4,h5⟩:=pO he;obtain⟨w,ew,rw'⟩:=r.get h2;have hl:=r.length;have hn:=gy;have fin:EP X pins σ Q w s:=⟨z,H,I,rw',q⟩;by_cases h0:0<=i
 ·have hj:i.toNat=j:=by
   rw[seqIndex_of h0 h5]at h1;exact Option.some.inj h1
  exact item_listR pl.isList h0 (by omega) (by rw[hj];simpa using ew) fin hs
 ·have hj:(i+(its.toArray.size:Int)).toNat=j:=by
   rw[seqIndex_neg (by omega) h4]at h1;rw[size_toArray,<-hl];exact Option.some.inj h1
  exact subscriptTail_builtinR (x:=w) pl.isList.typeIs slot_list_getitem.lookup
   (wpAny_getItem_list_neg (Q:=λr s'=>r=w/\EP X pins σ Q r s') pl.isList (by omega) (by rw[size_toArray]<;>omega) (by omega) (by rw[hj];simpa using ew) ⟨rfl,fin⟩) hs
theorem ix_tup:IxR X (Iv X.K):=by
 intro value slice pins s σ H x y v u Q I rx ry h hs;obtain⟨p,xs,i,z,rfl,rfl,hq,he,q⟩:=h;cases rx;obtain⟨t,rfl⟩:=ry;obtain⟨its,r,pl,hz⟩:=I.tuple hq;obtain⟨j,h1,h2,h3,h4,h5⟩:=pO he;obtain⟨w,ew,rw'⟩:=r.get h2;have hl:=r.length;have hn:=gy;have fin:EP X pins σ Q w s:=⟨z,H,I,rw',q⟩;exact subscriptTail_builtinR (x:=w) pl.typeIs slot_tuple_getitem.lookup
  (getItem_tuple (j:=j) (Q:=λr s'=>r=w/\EP X pins σ Q r s') pl (by omega) (by omega) (by rw[size_toArray,<-hl];exact h1) (by simpa using ew) ⟨rfl,fin⟩) hs
theorem EL:IxR X Iw:=by
 intro value slice pins s σ H x y v u Q I rx ry h hs;obtain⟨z,i,c,rfl,rfl,hz,he,q⟩:=h;obtain⟨t,rfl⟩:=rx;obtain⟨t',rfl⟩:=ry;obtain⟨j,h1,h2,h3,h4,h5⟩:=pO he;have hl:z.cps.toList.length=z.length:=by simp[Str.length]
 rw[hl]at h1 h4 h5;have hn:=gy;exact tail_any (typeIs_str s z t) slot_str_getitem.lookup (getItem_str (c:=c) (by
  have e1:decide (i< -(2^63:Int))=false:=decide_eq_false (by omega);have e2:decide (i≥2^63)=false:=decide_eq_false (by omega);rw[e1,e2,Bool.or_false]) (by rw[h1];simpa using h2) ⟨.str ⟨#[c]⟩,H,I.tok _,⟨_,rfl⟩,q⟩) hs
def rIx (K:Frag):R2:=λx y H Q=>Iu K x y H Q\/Iv K x y H Q\/Iw x y H Q
theorem ix_seq:IxR X (rIx X.K):=ix_list.or (ix_tup.or EL)
theorem tO (its:List Value) (n j:Nat) (u:Value):Obj.mapSeq (·.setIfInBounds j u) {cls:=.type "list",data:=.seq its.toArray n}={cls:=.type "list",data:=.seq (its.set j u).toArray n}:=by
 simp[Obj.mapSeq]
theorem Inv.lst {σ:St} (I:Inv X pins σ H s) (h:H p=some (.lst xs)):
  ∃ (its:List Value) (n:Nat),Vals xs its/\s.heap.get? p=some {cls:=.type "list",data:=.seq its.toArray n}/\xs.length<=sizeLine:=by
 obtain⟨z,its,n,r,e⟩:=I.hok p _ h
 exact⟨its,n,r,e,z⟩
theorem Inv.lstUpd {σ:St} {its its':List Value} (I:Inv X pins σ H s) (h:H p=some (.lst xs)) (ho:s.heap.get? p=some {cls:=.type "list",data:=.seq its.toArray n}) (hf:f {cls:=.type "list",data:=.seq its.toArray n}={cls:=.type "list",data:=.seq its'.toArray n'}) (r:Vals ys its') (hz:ys.length<=sizeLine) (t:Nat):
  Inv X pins σ (upd H p (.lst ys)) {s with heap:=s.heap.update p f,toks:=t}:=by
 have e:(s.heap.update p f).get? p=some {cls:=.type "list",data:=.seq its'.toArray n'}:=by
  rw[Heap.get?_update_self f ho (by rw[hf]<;>rfl),hf]
 refine I.write (x:=p) (e:=p) (by rw[h];trivial) (.inl rfl) (λb u hb q=>(Heap.get?_update_other _ _ (Ne.symm hb)).trans q) ⟨_,e⟩ ?_
 exact⟨hz,its',n',r,e⟩
def Ix:V->V->V->Hp->(Hp->Prop)->Prop:=λo i v H Q=>∃p xs k j,o=.ref p/\i=.int k/\H p=some (.lst xs)/\ixN xs.length k=some j/\Q (upd H p (.lst (xs.set j v)))
theorem yd:Ia X Ix:=by
 intro pins s σ H o i v ov iv u Q I ro ri rv h;obtain⟨p,xs,k,j,rfl,rfl,hp,hj,q⟩:=h;cases ro;obtain⟨t,rfl⟩:=ri;obtain⟨its,n,r,ho,hz⟩:=I.lst hp;obtain⟨h1,h2,h3,h4⟩:=vb hj;have hl:=r.length;have hn:=gy;have I':Inv X pins σ (upd H p (.lst (xs.set j v))) {s with heap:=s.heap.update p (Obj.mapSeq (·.setIfInBounds j u))}:=
  I.lstUpd hp ho (tO its n j u) (r.set rv j) (by rw[List.length_set];exact hz) s.toks
 by_cases h0:0<=k
 ·have hk:k.toNat=j:=by
   rw[seqIndex_of h0 h4]at h1;exact Option.some.inj h1
  exact PySem.W.ki_setAt ho h0 (by omega) (by rw[size_toArray,<-hl];exact h4) (by rw[hk];exact⟨_,I',q⟩)
 ·have hk:(k+(its.toArray.size:Int)).toNat=j:=by
   rw[seqIndex_neg (by omega) h3]at h1;rw[size_toArray,<-hl];exact Option.some.inj h1
  exact PySem.W.ki_setBack ho (by omega) (by rw[size_toArray,<-hl];exact h3) (by omega) (by rw[hk];exact⟨_,I',q⟩)
theorem pP (lo hi:Option Int) (n:Nat):(sliceBounds lo hi none n).1=((HT.sIx n 0 lo:Nat):Int)/\(sliceBounds lo hi none n).2.1=((HT.sIx n n hi:Nat):Int)/\(sliceBounds lo hi none n).2.2=1:=by
 refine⟨?_,?_,rfl⟩
 ·cases lo with
  |none=>simp[sliceBounds,HT.sIx]
  |some i=>
   simp only[sliceBounds,HT.sIx,Option.getD_none,show(1:Int)>0 by decide,if_true];by_cases h:i<0
   ·simp only[h,if_true]<;>omega
   ·simp only[h,if_false]<;>omega
 ·cases hi with
  |none=>simp[sliceBounds,HT.sIx]
  |some i=>
   simp only[sliceBounds,HT.sIx,Option.getD_none,show(1:Int)>0 by decide,if_true];by_cases h:i<0
   ·simp only[h,if_true]<;>omega
   ·simp only[h,if_false]<;>omega
theorem nT (its:List Value) (lo hi:Option Int):slicePick its.toArray lo hi none=((its.drop (HT.sIx its.length 0 lo)).take (HT.sIx its.length its.length hi-HT.sIx its.length 0 lo)).toArray:=by
 obtain⟨h1,h2,h3⟩:=pP lo hi its.toArray.size;unfold slicePick;rw[h1,h2,h3];simp only[sliceRange_one,pick_run,size_toArray]<;>rfl
def Lo (K:Frag):V->Option Int->Option Int->Hp->VK->Prop:=λx lo hi H Q=>∃a xs,x=.ref a/\SqL K H a xs/\∀p,H p=none->Q (.ref p) (upd H p (.lst (rg xs lo hi)))
theorem BH:SlR X (Lo X.K):=by
 intro pins s σ H x v vl vu lo hi sl Q I rx hs pl pu h;obtain⟨a,xs,rfl,hx,q⟩:=h;cases rx;obtain⟨its,r,ht,hz⟩:=I.list hx;have hlen:=r.length;refine⟨"list",_,slot_list_getitem.lookup,ht.isList.typeIs,?_⟩;refine wpAny_getItem_list_slice ht.isList hs pl pu .none (by simp) ?_ (by rw[size_toArray]<;>omega);rw[nT,<-hlen];refine⟨.ref s.heap.objs.size,_,I.laid (t':=s.toks) (o:=.lst (rg xs lo hi)) (λb ob q=>Heap.get?_push_of_some _ q) (le_refl _) ?_,rfl,q _ (I.hok.fresh (le_refl _))⟩;exact⟨Nat.le_trans (kQ xs lo hi) hz,_,0,(r.drop (HT.sIx xs.length 0 lo)).take (HT.sIx xs.length xs.length hi-HT.sIx xs.length 0 lo),Heap.get?_push_size _ rfl⟩
def gA:V->Bool
 |.non=>true
 |.bl _=>true
 |.int _=>true
 |.str _=>true
 |_=>false
def eqV:V->V->Bool
 |.non,.non=>true
 |.bl a,.bl b=>a==b
 |.bl a,.int b=>(if a then 1 else 0)==b
 |.int a,.bl b=>a==(if b then 1 else 0)
 |.int a,.int b=>a==b
 |.str a,.str b=>a==b
 |_,_=>false
theorem ye (ry:RelV y u) (rx:RelV x v) (fy:gA y=true) (fx:gA x=true):SeqAt.EqAt A s u v (eqV y x):=by
 cases y with
 |non=>
  cases ry;cases x with
  |non=>cases rx;exact SeqAt.EqAt.same _
  |bl b=>cases rx;exact SeqAt.EqAt.none_bool b
  |int b=>obtain⟨t,rfl⟩:=rx;exact SeqAt.EqAt.none_int b t
  |str b=>obtain⟨t,rfl⟩:=rx;exact SeqAt.EqAt.none_str b t
  |_=>exact absurd (show false=true from fx) Bool.false_ne_true
 |bl a=>
  cases ry;cases x with
  |non=>cases rx;exact SeqAt.EqAt.bool_none a
  |bl b=>cases rx;exact SeqAt.EqAt.bool_bool a b
  |int b=>obtain⟨t,rfl⟩:=rx;exact SeqAt.EqAt.bool_int a b t
  |str b=>obtain⟨t,rfl⟩:=rx;exact SeqAt.EqAt.bool_str a b t
  |_=>exact absurd (show false=true from fx) Bool.false_ne_true
 |int a=>
  obtain⟨t',rfl⟩:=ry;cases x with
  |non=>cases rx;exact SeqAt.EqAt.int_none a t'
  |bl b=>cases rx;exact SeqAt.EqAt.int_bool a t' b
  |int b=>obtain⟨t,rfl⟩:=rx;exact SeqAt.EqAt.int_int a t' b t
  |str b=>obtain⟨t,rfl⟩:=rx;exact SeqAt.EqAt.int_str a t' b t
  |_=>exact absurd (show false=true from fx) Bool.false_ne_true
 |str a=>
  obtain⟨t',rfl⟩:=ry;cases x with
  |non=>cases rx;exact SeqAt.EqAt.str_none a t'
  |bl b=>cases rx;exact SeqAt.EqAt.str_bool a t' b
  |int b=>obtain⟨t,rfl⟩:=rx;exact SeqAt.EqAt.str_int a t' b t
  |str b=>obtain⟨t,rfl⟩:=rx;exact SeqAt.EqAt.str_str a t' b t
  |_=>exact absurd (show false=true from fx) Bool.false_ne_true
 |_=>exact absurd (show false=true from fy) Bool.false_ne_true
def eqU (x:V) (u:Value):Bool:=match u with
 |.none=>eqV .non x
 |.bool b=>eqV (.bl b) x
 |.int i _=>eqV (.int i) x
 |.str z _=>eqV (.str z) x
 |_=>false
theorem yf (r:RelV y u) (f:gA y=true):eqU x u=eqV y x:=by
 cases y with
 |non=>cases r;rfl
 |bl b=>cases r;rfl
 |int i=>obtain⟨t,rfl⟩:=r;rfl
 |str z=>obtain⟨t,rfl⟩:=r;rfl
 |_=>exact absurd (show false=true from f) Bool.false_ne_true
theorem ji:∀ {xs:List V} {us:List Value},Vals xs us->xs.all gA=true->us.any (eqU x)=xs.any λy=>eqV y x
 |_,_,.nil,_=>rfl
 |y::xs,u::us,.cons r t,f=>by
  rw[List.all_cons,and_eq_true]at f;rw[List.any_cons,List.any_cons,yf r f.1,ji t f.2]
theorem gB (rx:RelV x v) (fx:gA x=true):∀ {xs:List V} {us:List Value},Vals xs us->xs.all gA=true->∀u∈us,SeqAt.EqAt A s u v (eqU x u)
 |_,_,.nil,_=>λu hu=>by cases hu
 |y::xs,u::us,.cons r t,f=>λu' hu=>by
  rw[List.all_cons,and_eq_true]at f;rcases mem_cons.mp hu with rfl|hu
  ·rw[yf r f.1];exact ye r rx f.1 fx
  ·exact gB rx fx t f.2 u' hu
def inV (x:V) (xs:List V):Bool:=xs.any λy=>eqV y x
def rIn (K:Frag) (neg:Bool):R2:=λx y H Q=>∃p xs,y=.ref p/\(SqL K H p xs\/SqT K H p xs)/\gA x=true/\xs.all gA=true/\Q (.bl (if neg then !inV x xs else inV x xs)) H
theorem op_in_seq:OpR X (compareOp .In) (rIn X.K false):=by
 intro pins s σ H x y v u Q I rx ry h;obtain⟨p,xs,rfl,hq,fx,fs,q⟩:=h;cases ry;rcases hq with hq|hq
 ·obtain⟨its,r,pl,hz⟩:=I.list hq;refine SeqAt.in_listAt (eqU x) pl.isList (λw hw=>gB rx fx r fs w (by simpa using hw)) ⟨.bl _,H,I,rfl,?_⟩;rw[show its.toArray.any (eqU x)=its.any (eqU x)by simp,ji r fs];exact q
 ·obtain⟨its,r,pl,hz⟩:=I.tuple hq;refine SeqAt.in_tupleAt (eqU x) pl (λw hw=>gB rx fx r fs w (by simpa using hw)) ⟨.bl _,H,I,rfl,?_⟩;rw[show its.toArray.any (eqU x)=its.any (eqU x)by simp,ji r fs];exact q
theorem op_notIn_seq:OpR X (compareOp .NotIn) (rIn X.K true):=by
 intro pins s σ H x y v u Q I rx ry h;obtain⟨p,xs,rfl,hq,fx,fs,q⟩:=h;cases ry;rcases hq with hq|hq
 ·obtain⟨its,r,pl,hz⟩:=I.list hq;refine SeqAt.notIn_listAt (eqU x) pl.isList (λw hw=>gB rx fx r fs w (by simpa using hw)) ⟨.bl _,H,I,rfl,?_⟩;rw[show its.toArray.any (eqU x)=its.any (eqU x)by simp,ji r fs];exact q
 ·obtain⟨its,r,pl,hz⟩:=I.tuple hq;refine SeqAt.notIn_tupleAt (eqU x) pl (λw hw=>gB rx fx r fs w (by simpa using hw)) ⟨.bl _,H,I,rfl,?_⟩;rw[show its.toArray.any (eqU x)=its.any (eqU x)by simp,ji r fs];exact q
theorem call_len_seq:dM X (.builtin "len") (λxs H Q=>∃p ys,xs=[.ref p]/\(SqL X.K H p ys\/SqT X.K H p ys)/\Q (.int ys.length) H):=by
 intro pins s σ H xs us Q I r h;obtain⟨p,ys,rfl,hq,q⟩:=h;obtain⟨u,rfl,rx⟩:=fK r;cases rx;have hn:=gy;rcases hq with hq|hq
 ·obtain⟨its,r',pl,hz⟩:=I.list hq;have hlen:=r'.length;exact Calls.call_len_list pl.isList (by simp only[size_toArray]<;>omega) ⟨.int ys.length,H,I.tok _,⟨s.toks+1,by rw[size_toArray,hlen]⟩,q⟩
 ·obtain⟨its,r',pl,hz⟩:=I.tuple hq;have hlen:=r'.length;exact len_tuple pl (by simp only[size_toArray]<;>omega) ⟨.int ys.length,H,I.tok _,⟨s.toks+1,by rw[size_toArray,hlen]⟩,q⟩
theorem pQ:dM X (.type "list") (λxs H Q=>∃p ys,xs=[.ref p]/\(SqL X.K H p ys\/SqT X.K H p ys)/\∀l,H l=none->Q (.ref l) (upd H l (.lst ys))):=by
 intro pins s σ H xs us Q I r h;obtain⟨p,ys,rfl,hq,q⟩:=h;obtain⟨u,rfl,rx⟩:=fK r;cases rx;have fin:∀ (its:List Value),Vals ys its->ys.length<=sizeLine->∀ (h':Heap) (c':Nat),(∀b o',s.heap.get? b=some o'->h'.get? b=some o')->
   h'.get? s.heap.objs.size=some {cls:=.type "list",dict:=none,data:=.seq its.toArray c',slots:=#[]}->EP X pins σ Q (.ref s.heap.objs.size) {s with heap:=h'}:=λits r' hz h' c' kp e=>
  ⟨.ref s.heap.objs.size,_,I.laid (t':=s.toks) kp (le_refl _) (show ObjOk X.prog X.w _ h' _ (.lst ys)from⟨hz,its,c',r',e⟩),rfl,q _ (I.hok.fresh (le_refl _))⟩
 rcases hq with hq|hq
 ·obtain⟨its,r',pl,hz⟩:=I.list hq;have hlen:=r'.length;obtain⟨o,ho,hc,n,hd⟩:=pl.isList;exact call_list_seq p (.inl rfl) ho hc hd (λh' c' kp e=>fin its r' hz h' c' kp e) (by simp only[size_toArray]<;>omega)
 ·obtain⟨its,r',pl,hz⟩:=I.tuple hq;have hlen:=r'.length;obtain⟨o,ho,hc,n,hd⟩:=pl;exact call_list_seq p (.inr rfl) ho hc hd (λh' c' kp e=>fin its r' hz h' c' kp e) (by simp only[size_toArray]<;>omega)
theorem call_tuple_of:dM X (.type "tuple") (λxs H Q=>∃p ys,xs=[.ref p]/\((SqL X.K H p ys/\∀l,H l=none->Q (.ref l) (upd H l (.tup ys)))\/(SqT X.K H p ys/\Q (.ref p) H))):=by
 intro pins s σ H xs us Q I r h;obtain⟨p,ys,rfl,h⟩:=h;obtain⟨u,rfl,rx⟩:=fK r;cases rx;rcases h with⟨hq,q⟩|⟨hq,q⟩
 ·obtain⟨its,r',pl,hz⟩:=I.list hq;have hlen:=r'.length;refine call_tuple_list pl.isList (λh' kp=>?_) (by simp only[size_toArray]<;>omega);have I1:Inv X pins σ H {s with heap:=h'}:=I.kept (t':=s.toks) kp;have I2:Inv X pins σ (upd H h'.objs.size (.tup ys)) {s with heap:=h'.push {cls:=.type "tuple",data:=.seq its.toArray}}:=
   I1.laid (t':=s.toks) (λb o e=>Heap.get?_push_of_some _ e) (le_refl _) (show ObjOk X.prog X.w _ _ _ (.tup ys)from⟨hz,its,r',IsTup.new _ _⟩)
  exact⟨.ref h'.objs.size,_,I2,rfl,q _ (I1.hok.fresh (le_refl _))⟩
 ·obtain⟨its,r',pl,hz⟩:=I.tuple hq;exact call_tuple_same pl ⟨.ref p,H,I,rfl,q⟩
def tyV (K:Frag) (T:String) (x:V) (H:Hp):Prop:=match x with
 |.str _=>T="str"
 |.int _=>T="int"
 |.ref p=>(T="list"/\∃xs,SqL K H p xs)\/(T="tuple"/\∃o,K.lookup p=some o/\o.cls=.type "tuple"/\o.dict=none)\/
  (T="dict"/\((∃kvs,H p=some (.dK kvs))\/∃kvs,H p=some (.dT kvs)))\/(T="set"/\∃S n,H p=some (.set S n))
 |_=>False
theorem yg {σ:St} (I:Inv X pins σ H s) (r:RelV x v) (ty:tyV X.K T x H):
  s.TypeIs v T/\∀a,v=.ref a->∃ob,s.heap.get? a=some ob/\ob.dict=none:=by
 cases x with
 |str z=>
  obtain⟨t,rfl⟩:=r;cases(show T="str"from ty);exact⟨typeIs_str s z t,λ_ e=>nomatch e⟩
 |int i=>
  obtain⟨t,rfl⟩:=r;cases(show T="int"from ty);exact⟨typeIs_int s i t,λ_ e=>nomatch e⟩
 |ref p=>
  cases r;rcases ty with⟨rfl,xs,hq⟩|⟨rfl,o,hk,hc,hd⟩|⟨rfl,hk⟩|⟨rfl,S,n,hk⟩
  ·obtain⟨its,_,pl,_⟩:=I.list hq;refine⟨pl.isList.typeIs,λa e=>?_⟩;cases e;obtain⟨o,n,e,c,hd,_⟩:=pl;exact⟨o,e,hd⟩
  ·refine⟨⟨o,I.kIn p o hk,hc⟩,λa e=>?_⟩;cases e;exact⟨o,I.kIn _ o hk,hd⟩
  ·have z:∃o,s.heap.get? p=some o/\o.ExactDict:=by
    rcases hk with⟨kvs,hk⟩|⟨kvs,hk⟩
    ·obtain⟨_,_,_,_,o,_,_,e,ex,_⟩:=I.hok p _ hk;exact⟨o,e,ex⟩
    ·obtain⟨_,_,_,_,o,_,_,e,ex,_⟩:=I.hok p _ hk;exact⟨o,e,ex⟩
   obtain⟨o,e,ex⟩:=z;refine⟨⟨o,e,ex.1⟩,λa e2=>?_⟩;cases e2;exact⟨o,e,ex.2.1⟩
  ·obtain⟨o,_,_,_,e,ex,_⟩:=I.hok p _ hk;refine⟨⟨o,e,ex.1⟩,λa e2=>?_⟩;cases e2;exact⟨o,e,ex.2.1⟩
 |_=>exact False.elim ty
def Lp (K:Frag) (T:String) (r:V->List V->Hp->VK->Prop) (to:TE):TE:=λσ H Q=>to σ H λx H1=>tyV K T x H1/\r x [] H1 Q
def tBM (K:Frag) (T:String) (r:V->List V->Hp->VK->Prop) (to:TE) (t:TA):TE:=λσ H Q=>to σ H λx H1=>tyV K T x H1/\t σ H1 λxs H2=>r x xs H2 Q
variable {o e:Expr} {es:List Expr} {to:TE} {t:TA} {name:Str} {apos cpos:Pos} {T id:String} {r:V->List V->Hp->VK->Prop}
theorem yh (pa:PlainAttrs T) (slot:Slot T name id) (hty:typeOf (.builtin id)=pure (.type "method_descriptor")) (hm:MtR X id r) (ho:PE X o to)
  (hbase:attributeBase o name X.env (eval o X.env)=eval o X.env:=by rfl) (hline:(apos.endLine==cpos.line)=true:=by rfl):PE X (.Call (.Attribute o name apos) [] [] cpos) (Lp X.K T r to):=by
 intro pins s σ H Q I h
 refine wpAny_Call_method0_late hbase hline (thn (ho pins s σ H _ I h) λv s1 ⟨x,H1,I1,r1,ty,q1⟩=>?_)
 obtain⟨h1,h2⟩:=yg I1 r1 ty
 exact⟨T,id,pa,slot,hty,h1,h2,Calls.callWith_builtin rfl (PySem.evalArgs_none (hm pins s1 σ H1 x [] v [] Q I1 r1 .nil q1))⟩
theorem jj (pa:PlainAttrs T) (slot:Slot T name id) (hty:typeOf (.builtin id)=pure (.type "method_descriptor")) (hm:MtR X id r) (ho:PE X o to) (ha:PA X (e::es) t)
  (hbase:attributeBase o name X.env (eval o X.env)=eval o X.env:=by rfl)
  (hfew:((backTo cpos (starEach (e::es) X.env)).all (λx=>!x.1)&&(backToKw cpos (keywordEach [] X.env)).all (λx=>x.1.isSome)
   &&decide ((e::es).length+([]:List Keyword).length+(if([]:List Keyword).isEmpty then 0 else 1)<30))=true:=by rfl)
  (hline:(apos.endLine==cpos.line)=true:=by rfl) (hs:starEach (e::es) X.env=(false,eval e X.env)::starEach es X.env:=by rfl) (hplain:(backTo cpos (starEach es X.env)).any (·.1)=false:=by rfl):
  PE X (.Call (.Attribute o name apos) (e::es) [] cpos) (tBM X.K T r to t):=by
 intro pins s σ H Q I h
 refine wpAny_Call_method_late hbase hfew hline rfl (thn (ho pins s σ H _ I h) λv s1 ⟨x,H1,I1,r1,ty,q1⟩=>?_)
 obtain⟨h1,h2⟩:=yg I1 r1 ty
 refine⟨T,id,pa,slot,hty,h1,h2,?_⟩
 have hA:=ha cpos pins s1 σ H1 _ I1 q1
 rw[hs]at hA⊢
 refine Calls.callWith_builtin (by show(false||(backTo cpos (starEach es X.env)).any (·.1))=false;rw[hplain]<;>rfl) (Calls.evalArgs_plain ?_)
 exact thn hA λus s2 ⟨vs,H2,I2,r2,q2⟩=>hm pins s2 σ H2 x vs v us Q I2 r1 r2 q2
end
def MtM (X:Cx) (id:String) (r:V->List V->Hp->VK->Prop):Prop:=
 ∀ (pins:List (Addr×Obj)) (s:Shared) (σ:St) (H:Hp) (x:V) (xs:List V) (v:Value) (us:List Value) (Q:VK),Inv X pins σ H s->RelV x v->Vals xs us->r x xs H Q->
  wpAny (model X.prog X.w) X.A (call (.builtin id) (v::us)) (EP X pins σ Q) X.xe s
theorem Vals.one:∀ {x:V} {us:List Value},Vals [x] us->∃u,us=[u]/\RelV x u
 |_,_,.cons r .nil=>⟨_,rfl,r⟩
theorem Vals.zero:∀ {us:List Value},Vals [] us->us=[]
 |_,.nil=>rfl
theorem Vals.reverse (h:Vals xs us):Vals xs.reverse us.reverse:=by
 induction h with
 |nil=>exact .nil
 |cons r t ih=>rw[List.reverse_cons,List.reverse_cons];exact Vals.append ih (.cons r .nil)
theorem Vals.rep (h:Vals xs us):∀k:Nat,Vals (List.replicate k xs).flatten (List.replicate k us).flatten
 |0=>.nil
 |k+1=>by
  rw[List.replicate_succ,List.replicate_succ,List.flatten_cons,List.flatten_cons];exact Vals.append h (Vals.rep h k)
theorem oJ (its:List Value):∀ (k:Nat) (acc:List Value),
  List.foldl (λx1 x2=>x1++x2) acc.toArray (List.replicate k its.toArray)=(acc++(List.replicate k its).flatten).toArray
 |0,acc=>by simp
 |k+1,acc=>by
  have e:acc.toArray++its.toArray=(acc++its).toArray:=by simp
  have e2:(acc++its)++(List.replicate k its).flatten=acc++(List.replicate (k+1) its).flatten:=by
   rw[List.replicate_succ,List.flatten_cons,List.append_assoc]
  rw[<-e2,<-oJ its k (acc++its),<-e,List.replicate_succ,List.foldl_cons]
section
variable {X:Cx} {pins:List (Addr×Obj)} {σ:St} {H:Hp} {s:Shared} {l b:Addr} {xs ys zs:List V}
theorem Inv.lset {its its':List Value} (I:Inv X pins σ H s) (hH:H l=some (.lst xs)) (e:s.heap.get? l=some {cls:=.type "list",data:=.seq its.toArray n}) (hf:f its.toArray=its'.toArray) (hv:Vals ys its') (hz:ys.length<=sizeLine):
  Inv X pins σ (upd H l (.lst ys)) {s with heap:=s.heap.update l (Obj.mapSeq f),toks:=t'}:=by
 have q:=PySem.IsL.update e f
 rw[hf]at q
 refine I.write (x:=l) (e:=l) (by rw[hH];exact trivial) (.inl rfl) (λb' u hb hu=>(Heap.get?_update_other s.heap (Obj.mapSeq f) (Ne.symm hb)).trans hu) ⟨_,q⟩ ?_
 exact⟨hz,its',_,hv,q⟩
theorem Inv.lnew (I:Inv X pins σ H s) (hv:Vals ys its) (hz:ys.length<=sizeLine):
  Inv X pins σ (upd H s.heap.objs.size (.lst ys)) {s with heap:=s.heap.push {cls:=.type "list",data:=.seq its.toArray},toks:=t'}:=
 I.laid (λ_ _ q=>Heap.get?_push_of_some _ q) (le_refl _) ⟨hz,its,0,hv,Heap.get?_push_size _ rfl⟩
theorem Inv.fresh (I:Inv X pins σ H s):H s.heap.objs.size=none:=I.hok.fresh (le_refl _)
theorem Inv.lstM (I:Inv X pins σ H s) (hH:H l=some (.lst xs)):xs.length<=sizeLine/\∃ (its:List Value) (n:Nat),Vals xs its/\xs.length=its.length/\s.heap.get? l=some {cls:=.type "list",data:=.seq its.toArray n}:=by
 obtain⟨z,its,n,r,e⟩:=I.hok l _ hH;exact⟨z,its,n,r,r.length,e⟩
theorem rh (h:n<=sizeLine):Builtin.List.listTooLong n=false:=by
 unfold Builtin.List.listTooLong;exact decide_eq_false (by omega)
end
section
variable {X:Cx}
def vc:V->List V->Hp->VK->Prop:=λx vs H Q=>∃l xs y,x=.ref l/\vs=[y]/\H l=some (.lst xs)/\xs.length<sizeLine/\Q .non (upd H l (.lst (xs++[y])))
theorem ig:MtM X "list.append" vc:=by
 intro pins s σ H x vs v us Q I rx rv h;obtain⟨l,xs,y,rfl,rfl,hH,hz,q⟩:=h;cases rx;obtain⟨u,rfl,ru⟩:=rv.one;obtain⟨z,its,n,r,hl,e⟩:=I.lstM hH;refine call_meets F.slot_list_append ⟨_,e,rfl⟩ F.entry_list_append (F.args_list_append_2 _ _) (PySem.list_append l its.toArray n u (by rw[size_toArray];omega)) ⟨e,?_⟩;refine⟨.non,_,I.lset (its':=its++[u]) hH e (by simp) (r.append (.cons ru .nil)) ?_,rfl,q⟩;rw[length_append,List.length_singleton];omega
def yi:V->List V->Hp->VK->Prop:=λx vs H Q=>∃l xs,x=.ref l/\vs=[]/\H l=some (.lst xs)/\Q .non (upd H l (.lst xs.reverse))
theorem mr:MtM X "list.reverse" yi:=by
 intro pins s σ H x vs v us Q I rx rv h;obtain⟨l,xs,rfl,rfl,hH,q⟩:=h;cases rx;have hus:=rv.zero;subst hus;obtain⟨z,its,n,r,hl,e⟩:=I.lstM hH;refine call_meets F.slot_list_reverse ⟨_,e,rfl⟩ F.entry_list_reverse (F.args_list_reverse_1 _) (AutoSeq1.list_reverse_list_0 l its.toArray n (by rw[size_toArray];omega)) ⟨e,?_⟩;refine⟨.non,_,I.lset (its':=its.reverse) hH e (by simp) r.reverse ?_,rfl,q⟩;rw[List.length_reverse];omega
def Lq:R2:=λx y H Q=>∃l k xs,x=.ref l/\y=.int k/\H l=some (.lst xs)/\ -(2^63)<=k/\k<2^63/\xs.length*k.toNat<=sizeLine/\
 ∀p,H p=none->Q (.ref p) (upd H p (.lst (List.replicate k.toNat xs).flatten))
theorem BI {α:Type} (xs:List α) (k:Nat):(List.replicate k xs).flatten.length=k*xs.length:=by
 induction k with
 |zero=>simp
 |succ k ih=>rw[List.replicate_succ,List.flatten_cons,length_append,ih,Nat.succ_mul,Nat.add_comm]
theorem EM:OpR X (binaryOp .Mult) Lq:=by
 intro pins s σ H x y v u Q I rx ry h;obtain⟨l,k,xs,rfl,rfl,hH,h1,h2,hz,q⟩:=h;cases rx;obtain⟨t,rfl⟩:=ry;obtain⟨z,its,n,r,hl,e⟩:=I.lstM hH;have hlen:its.toArray.size*k.toNat<=sizeLine:=by rw[size_toArray,<-hl];exact hz
 have hcap:¬its.toArray.size*k.toNat>(2^63-1)/8:=by
  have:(sizeLine:Nat)<=(2^63-1)/8:=by decide
  omega
 have hfit:¬ (!Builtin.List.listFitsIndex k)=true:=by
  rw[fitsIndex_both h1 h2];exact Bool.false_ne_true
 have hlong:¬Builtin.List.listTooLong (its.toArray.size*k.toNat)=true:=by
  rw[rh hlen];exact Bool.false_ne_true
 have hnew:List.foldl (λx1 x2=>x1++x2) #[] (List.replicate (if its.toArray.isEmpty=true then 0 else k.toNat) its.toArray)=(List.replicate k.toNat its).flatten.toArray:=by
  have f0:∀m:Nat,List.foldl (λx1 x2=>x1++x2) #[] (List.replicate m its.toArray)=(List.replicate m its).flatten.toArray:=λm=>by
   have:=oJ its m [];rw[List.nil_append]at this;exact this
  rw[f0];cases its with
  |nil=>simp
  |cons a r'=>rw[if_neg (by simp)]
 refine wpAny_binaryOp_repeat_ref (T:="list") (U:="int") (by decide) ⟨_,e,rfl⟩ (λs'=>typeIs_int s' k t) noFill_list_mul F.fills_int_mul F.slot_int_rmul repeat_list F.slot_int_index.lookup
  (call_meets F.slot_int_rmul (typeIs_int s k t) F.entry_int_rmul (F.args_int_rmul_2 _ _) (int___rmul___int_list k t l its.toArray n)
   ⟨e,rfl,⟨_,e,rfl⟩,call_meets F.slot_list_mul ⟨_,e,rfl⟩ F.entry_list_mul (F.args_list_mul_2 _ _) (AutoListH.list___mul___list_int_3 l its.toArray n k t hfit hcap hlong) ⟨e,?_⟩⟩)
 rw[hnew];exact⟨.ref _,_,I.lnew (t':=s.toks) (r.rep k.toNat) (by rw[BI,Nat.mul_comm];exact hz),rfl,q _ I.fresh⟩
end
section
variable {prog:Program} {w:World} {A:Around} {E:Value->Shared->Prop} {s:Shared}
set_option maxRecDepth 100000 in
end
section
variable {X:Cx}
end
end L2
namespace Att
open PySem PySem.W PySem.Calls PyProof.Rows
theorem lA:∀ (ns:List Int) (vs:List Value),WellAll P h vs (ns.map WData.int)->IntsAre vs ns:=by
 intro ns;induction ns with
 |nil=>
  intro vs w;rw[List.map_nil]at w;cases w;exact .nil
 |cons n ns ih=>
  intro vs w;rw[List.map_cons]at w;cases w with
  |cons a b=>
   cases a;exact .cons _ _ (ih _ b)
theorem wQ {l:OpenLaw} (hn:l.most=some n) (hpre:l.row.toRowW.claim.pre args=true) (hwl:WellAll P h vals args):
  ∃a vs ns,vals=[Value.ref a]/\args=[WData.list (ns.map WData.int)]/\h.get? a=some {cls:=.type "list",data:=.seq vs.toArray}/\IntsAre vs ns/\ns.length<=n:=by
 have hsh:WShape.hasAll [] args [.list .int]=true:=(pre_splitW hpre).1
 have hc:l.pre.holds [] {args:=args}=true:=(pre_splitW hpre).2
 obtain⟨d,r,rfl,h1,h2⟩:=hasAllW_cons hsh
 obtain rfl:=hasAllW_nil h2
 obtain⟨xs,rfl,h3⟩:=hasW_list h1
 obtain⟨ns,rfl⟩:=items_int h3
 have hlen:ns.length<=n:=by
  unfold OpenLaw.pre at hc;have h4:(WTm.not (.lt (.lit (.int (n:Int))) (.len (.arg 0)))).holds [] {args:=[.list (ns.map .int)]}=true:=by
   have h4:=(holds_andW hc).1;rw[hn]at h4;exact h4
  have h5:=condW_of h4 (w_not (w_lt w_lit (w_len_list (w_arg rfl))));rw[length_map]at h5;refine Nat.le_of_not_lt λq=>?_;have q':(n:Int)<((ns.length:Nat):Int):=by omega
  first
   |(rw[decide_eq_true q']at h5;exact absurd h5 (by decide))
   |(simp at h5;omega)
 cases hwl with
 |cons w1 w2=>
  cases w2;cases w1 with
  |list ho hall=>exact⟨_,_,ns,rfl,rfl,ho,lA ns _ hall,hlen⟩
theorem wR (l:OpenLaw) (args:List WData):l.row.toRowW.claim.post args (.bool true) args=true:=
 postW_of (r:=l.row.toRowW) (X:=(true==true))
  (show WShape.has [] (.bool true) .bool=true by first|rfl|decide|simp[WShape.has,WShape.arms,WShape.armsAll])
  (show(WTm.eq .res (.lit (.bool true))).value [] {args:=args,res:=some (.bool true),after:=args}=some (.bool (true==true))from w_eq_bool (w_res rfl) w_lit) rfl
theorem attach_call {l:OpenLaw} (hn:l.most=some n) (hdf:d.params.defaults=[]) (call:∀ (w:World) (s₀ s₁:Shared) (mg mb:Str->Option Value) (fa:Addr) (o:Obj) (pm cd doc:Value) (a:Addr) (vs:List Value) (ns:List Int),
   Ground q loose [] XP w s₀ mg mb s₁.heap->YP w s₁.heap->
   s₁.heap.get? fa=some o->o.data=.func (docDef d.name d.params d.body d.scope pm cd doc)->s₁.heap.CodeRec cd d.name->mg d.name=some (.ref fa)->
   s₁.heap.get? a=some {cls:=.type "list",data:=.seq vs.toArray}->IntsAre vs ns->ns.length<=n->s₁.gens=#[]->
   codeAny (model l.prog w) callerA (.call (.ref fa) ⟨[.ref a],[]⟩) (λr s'=>r=.ok (.ret (.bool true))/\OldK s₁.heap s'.heap/\s'.os=s₁.os/\AllBare s'.gens) s₁):
  WalkO q loose XP YP l.row.toRowW d [] (λf vs=>PySem.call f vs):=by
 intro w s₀ s₁ mg mb G ρ fa o pm cd doc dV kV ho hd hcd hD hmg hg args vals as hpre hlay hrd hwl hlo
 obtain rfl:dV=.none:=Dflts.none hD hdf
 obtain rfl:kV=.none:=Dflts.noKw hD
 obtain⟨a,vs,ns,rfl,rfl,hobj,hints,hlen⟩:=wQ hn hpre hwl
 refine enter_call (codeAny_mono (call w s₀ s₁ mg mb fa o pm cd doc a vs ns G ρ ho (fd_plain hd) hcd hmg hobj hints hlen hg) λr s' hq=>?_)
 obtain⟨rfl,h2,h3,h4⟩:=hq
 exact⟨.inl ⟨.bool true,.bool true,[],rfl,λ_=>rfl,.bool true,wR l _,λ_=>⟨List.Pairwise.nil,λ_ hm=>(nomatch hm)⟩⟩,h2,h3,h4⟩
section
variable {prog:Program} {w:World} {A:Around} {E:Value->Shared->Prop} {s:Shared} {K:Frag}
end
end Att
namespace L2
open PySem PySem.Spec PyProof.Rows
theorem oK:∀ {vs:List Value} {ns:List Int},IntsAre vs ns->Vals (ns.map V.int) vs
 |_,_,.nil=>.nil
 |_,_,.cons n t h=>.cons ⟨t,rfl⟩ (oK h)
def EN (H:Hp):Prop:=∀b,H b=none\/∃o xs,H b=some (.frz o (.lst xs))
theorem yj {K} (KX:K.In s₁.heap) (hns:s₁.heap.Ns mainGlobals mg) (hb:s₁.heap.Ns builtinsNs mb) (hbb:∀x:Str,x≠"__name__" ->mb x=bootBuiltins x) (hlim:s₁.heap.NoLimit) (hg:s₁.gens=#[]) (ha:s₁.heap.get? a=some {cls:=.type "list",data:=.seq vs.toArray}) (hi:IntsAre vs ns) (hl:ns.length<=sizeLine) (hr:Room k callerA) (F:∀base:Heap,K.In base->base.Ns mainGlobals mg->FnOk P w K mg base CX k fa fd [x] sp) (hbind:∀ (s:Shared) (u:Value),BindsTo s fd ⟨[u],[]⟩ [(x,u)]) (hsp:∀H:Hp,EN H->SqL K H a (ns.map V.int)->sp [.ref a] H (λv _=>v=.bl true) λ_ _ _=>False) (hCX:∀H e s',CX [] H s₁ (λ_ _ _=>False) e s'->False):
  codeAny (model P w) callerA (.call (.ref fa) ⟨[.ref a],[]⟩) (λr s'=>r=.ok (.ret (.bool true))/\OldK s₁.heap s'.heap/\s'.os=s₁.os/\AllBare s'.gens) s₁:=by
 have rv:=oK hi
 have lenV:=hi.length
 -- from an abstract heap in which nothing but the script may be tracked
 have core:∀H:Hp,EN H->SqL K H a (ns.map V.int)->HOk P w H s₁.heap->(∀b,H b≠none->b=a)->(H a≠none->K.lookup a=none)->
   codeAny (model P w) callerA (.call (.ref fa) ⟨[.ref a],[]⟩) (λr s'=>r=.ok (.ret (.bool true))/\OldK s₁.heap s'.heap/\s'.os=s₁.os/\AllBare s'.gens) s₁:=by
  intro H hO hS hok hA hK
  have base_of:∀ {b:Addr} {o:Obj},s₁.heap.get? b=some o->H b=none->(pJ s₁.heap H).get? b=some o:=λe n=>xM e n
  have noA:∀ {b:Addr} {o:Obj} {es:Array DictEntry} {ep:Nat},s₁.heap.get? b=some o->o.data=.dict es ep->H b=none:=λ{b o es ep} e d=>by
   cases q:H b with
   |none=>rfl
   |some u=>
    have e':b=a:=hA b (by rw[q];simp)
    subst e'
    rw[ha]at e;cases e
    have d':Data.seq vs.toArray _=Data.dict es ep:=d
    cases d'
  have nsK:∀ {b:Addr} {m:Str->Option Value},s₁.heap.Ns b m->(pJ s₁.heap H).Ns b m:=λ{b m} ⟨o,es,ep,e,d,r⟩=>⟨o,es,ep,base_of e (noA e d),d,r⟩
  have hKb:K.In (pJ s₁.heap H):=λb o e=>base_of (KX b o e) (by
   cases q:H b with
   |none=>rfl
   |some u=>
    have e':b=a:=hA b (by rw[q];simp)
    subst e'
    rw[hK (by rw[q];simp)]at e;cases e)
  have hM:Mod K mg (pJ s₁.heap H):=⟨hKb,nsK hns,⟨mb,nsK hb,hbb⟩,let⟨mc,h1,h2⟩:=hlim;⟨mc,nsK h1,h2⟩⟩
  have e0:Env0 P w K mg (pJ s₁.heap H) callerA [] s₁ H:=⟨rfl,hM,λb o e=>Br e,Nat.le_of_eq (wI _ _),trivial,λb hb=>absurd (show b∈([]:List Addr)from hb) (by simp),hok,.of_eq hg⟩
  refine codeAny_mono ((F _ hKb (nsK hns)).run callerA [] s₁ H ⟨[.ref a],[]⟩ [.ref a] [.ref a] _ _ hr e0 (hbind s₁ (.ref a)) (.cons rfl .nil) (hsp H hO hS)) λr s' h=>?_
  cases r with
  |error e=>exact(hCX H e s' h).elim
  |ok fl=>
   cases fl with
   |next=>exact False.elim h
   |brk=>exact False.elim h
   |cont=>exact False.elim h
   |ret u=>
    obtain⟨v,H',os,bare,un,hok',r',q⟩:=h
    have q':v=.bl true:=q
    subst q'
    obtain rfl:u=Value.bool true:=r'
    refine⟨rfl,OldK.of_keep λb o e=>?_,os,bare⟩
    cases q:H b with
    |none=>exact un.keep b o e q (by intro z;exact absurd (show b∈([]:List Addr)from z) (by simp)) (by simp)
    |some u=>
     rcases hO b with z|⟨ob,xs,z⟩
     ·rw[q]at z;cases z
     ·have z2:=un.frzs b ob _ z
      obtain⟨e1,_⟩:=hok b _ z
      obtain⟨e2,_⟩:=hok' b _ z2
      rw[e]at e1;cases e1
      exact e2
 cases hk:K.lookup a with
 |some o=>
  -- the script is one of the module's own objects
  have e:=KX a o hk
  rw[ha]at e
  cases e
  refine core (λ_=>none) (λ_=>.inl rfl) (.inr ⟨_,vs.toArray,_,hk,rfl,rfl,rfl,by rw[size_toArray,lenV];exact hl,by simpa using rv⟩) (λb u z=>by have z':(none:Option HO)=some u:=z;cases z') (λb z=>absurd rfl z) λz=>absurd rfl z
 |none=>
  refine core (λb=>if b=a then some (.frz {cls:=.type "list",data:=.seq vs.toArray} (.lst (ns.map V.int)))else none) (λb=>?_) (.inl (.inr ⟨{cls:=.type "list",data:=.seq vs.toArray},if_pos rfl⟩)) (λb u z=>?_) (λb z=>?_) λ_=>hk
  ·by_cases hb:b=a
   ·exact .inr ⟨_,_,if_pos hb⟩
   ·exact .inl (if_neg hb)
  ·by_cases hb:b=a
   ·have z':=(if_pos hb).symm.trans z
    cases z'
    subst hb
    exact⟨ha,by rw[length_map];exact hl,vs,_,rv,ha⟩
   ·have z':=(if_neg hb).symm.trans z
    cases z'
  ·by_cases hb:b=a
   ·exact hb
   ·exact absurd (if_neg hb) z
theorem walk_of {l:PySem.W.OpenLaw} {K:Params->Frag} {CX:World->CXT} {sp:World->Sp} (hn:l.most=some n) (hn2:n<=sizeLine) (hdf:d.params.defaults=[]) (hr:Room k callerA) (hY:∀ (w:World) (h:Heap),YP w h->(K w.params).In h) (F:∀ (w:World) (mg:Str->Option Value) (fa:Addr) (h:Heap),(K w.params).In h->h.Ns mainGlobals mg->mg d.name=some (.ref fa)->
   ∃fd:FuncData,(∀ (s:Shared) (u:Value),BindsTo s fd ⟨[u],[]⟩ [(x,u)])/\
    ∀base:Heap,(K w.params).In base->base.Ns mainGlobals mg->FnOk l.prog w (K w.params) mg base (CX w) k fa fd [x] (sp w)) (hsp:∀ (w:World) (H:Hp) (a:Addr) (ns:List Int),ns.length<=n->EN H->SqL (K w.params) H a (ns.map V.int)->sp w [.ref a] H (λv _=>v=.bl true) λ_ _ _=>False) (hCX:∀ (w:World) (H:Hp) (s:Shared) (e:Value) (s':Shared),CX w [] H s (λ_ _ _=>False) e s'->False):
  PySem.W.WalkO q loose XP YP l.row.toRowW d [] (λf vs=>PySem.call f vs):=by
 refine Att.attach_call hn hdf λw s₀ s₁ mg mb fa o pm cd doc a vs ns G ρ ho hd hcd hmg hobj hints hlen hg=>?_
 have KX:=hY w _ ρ
 obtain⟨fd,hb,hF⟩:=F w mg fa _ KX G.T.g hmg
 exact yj KX G.T.g G.T.b G.T.builtins G.T.nolimit hg hobj hints (Nat.le_trans hlen hn2) hr hF hb (λH hO hS=>hsp w H a ns hlen hO hS) λH e s'=>hCX w H s₁ e s'
def pR (s:Stmt) (j:Nat):Stmt:=match s with
 |.ClassDef _ _ _ body _ _ _ _ _ _ _=>body.getD j (.Pass ⟨0,0,0,0⟩)
 |_=>.Pass ⟨0,0,0,0⟩
def cy (s:Stmt):Arguments:=match s with
 |.FunctionDef _ a _ _ _ _ _ _ _ _=>a
 |_=>{posonlyargs:=[],args:=[],vararg:=none,kwonlyargs:=[],kw_defaults:=[],kwarg:=none,defaults:=[]}
def bj (s:Stmt):List Stmt:=match s with
 |.FunctionDef _ _ b _ _ _ _ _ _ _=>b
 |_=>[]
def aE (s:Stmt):Scope:=match s with
 |.FunctionDef _ _ _ _ _ _ sc _ _ _=>sc
 |_=>{kind:=.function,names:=[],isGenerator:=false,isCoroutine:=false}
abbrev CX0:CXT:=λ_ _ _ _ _ _=>False
abbrev E0:XK:=λ_ _ _=>False
theorem oM:iS CX0 X E0:=λ_ _ _ _ _ _ _ h=>h.elim
structure Fun (K:Frag) (x qual:Str) (st:Stmt) (f:Addr) (fd:FuncData):Prop where
 ex:∃ (oc:Value) (od:Option Addr) (kV doc pm:Value) (an:Option Addr) (cdv ct:Value) (osl:Array (Option Value)),
  fd=PySem.W.fnOf x qual (cy st) (bj st) (aE st) .none kV doc pm an cdv ct/\K.lookup f=some ⟨oc,od,.func fd,osl⟩/\PySem.W.codeIn K cdv qual=true
 kp:PySem.W.keepIn K (.ref f)=true
section
variable {P:Program} {w:World} {K:Frag} {mg:Str->Option Value} {base:Heap}
theorem Fun.ok {st} (F:Fun K x qual st f fd) (S:FnScope N ps (aE st)) (len:∀vs H Q E,sp vs H Q E->vs.length=ps.length) (hbody:∀ (cdv:Value) (A:Around) (outer:List Env) (s:Shared) (H:Hp) (vs:List V) (Q:VK) (E:XK),Room k (A.deeper (envOfC qual (aE st) s.heap.objs.size f cdv))->sp vs H Q E->
  ∃t,PSs (pN CX0 P w K mg base N qual (aE st) f cdv A outer s H E).nox (bj st) t/\t {nx:=λ_ H'=>Q .non H',rt:=Q} (gz N vs) H):FnOk P w K mg base CX0 (k+1) f fd ps sp:=by
 obtain⟨oc,od,kV,doc,pm,an,cdv,ct,osl,rfl,lk,hcd⟩:=F.ex
 refine Ip lk hcd S len λA outer s H vs Q E hr hsp=>?_
 obtain⟨t,h,q⟩:=hbody cdv A outer s H vs Q E hr hsp
 exact⟨t,h.nox,q⟩
theorem Fun.binds {st} (F:Fun K x qual st f fd) (h:∀ (kV doc pm:Value) (an:Option Addr) (cdv ct:Value) (us:List Value),us.length=ps.length->bindArgs (PySem.W.fnOf x qual (cy st) (bj st) (aE st) .none kV doc pm an cdv ct) ⟨us,[]⟩=pure (ps.zip us)):Binds K fd ps []:=by
 obtain⟨oc,od,kV,doc,pm,an,cdv,ct,osl,rfl,lk,hcd⟩:=F.ex;exact .all (h kV doc pm an cdv ct)
theorem pS {st} {kV doc pm cdv ct} (l:K.lookup f=some ⟨oc,od,.func (PySem.W.fnOf x qual (cy st) (bj st) (aE st) .none kV doc pm an cdv ct),osl⟩) (c:PySem.W.codeIn K cdv qual=true) (k:PySem.W.keepIn K (.ref f)=true):Fun K x qual st f (PySem.W.fnOf x qual (cy st) (bj st) (aE st) .none kV doc pm an cdv ct):=⟨⟨oc,od,kV,doc,pm,an,cdv,ct,osl,rfl,l,c⟩,k⟩
end
section
variable {X:Cx}
theorem pv (i:Nat) {pos} (hN:X.N[i]?=some x:=by rfl) (hv:Vis X.env.scope x:=by first|exact Or.inl rfl|exact Or.inr (Or.inl rfl)|exact Or.inr (Or.inr rfl)) (hd:(x==("__debug__":Str))=false:=by decide) (hcd:(x==("__classdict__":Str))=false:=by decide):PE X (.Name x pos) (HS i):=cF hN hv hd hcd
end
theorem EO {A B:Prop} (h:B):if false=true then A else B:=by
 rw[if_neg Bool.false_ne_true];exact h
theorem EQ {A B:Prop} (h:A):if true=true then A else B:=by
 rw[if_pos rfl];exact h
def Same (H H':Hp):Prop:=∀b o,H b=some o->H' b=some o
theorem Same.refl (H:Hp):Same H H:=λ_ _ h=>h
theorem Same.trans (a:Same H H1) (b:Same H1 H2):Same H H2:=λc o h=>b c o (a c o h)
theorem Same.free (e:Same H H') (h:H' l=Option.none):H l=Option.none:=by
 cases q:H l with
 |none=>rfl
 |some o=>
  rw[e l o q]at h;cases h
theorem Same.seq {K} (e:Same H H') (h:SqL K H a xs):SqL K H' a xs:=by
 rcases h with(h|⟨o,h⟩)|h
 ·exact .inl (.inl (e _ _ h))
 ·exact .inl (.inr ⟨o,e _ _ h⟩)
 ·exact .inr h
end L2
set_option maxHeartbeats 4000000
noncomputable section
namespace L2
open PySem PySem.Spec PyProof.Rows
theorem PE.imp (h:PE X e t) (k:∀σ H Q,t' σ H Q->t σ H Q):PE X e t':=λpins s σ H Q I q=>h pins s σ H Q I (k _ _ _ q)
theorem PT.imp (h:PT X e t) (k:∀σ H Q,t' σ H Q->t σ H Q):PT X e t':=λpins s σ H Q I q=>h pins s σ H Q I (k _ _ _ q)
theorem PA.imp (h:PA X e t) (k:∀σ H Q,t' σ H Q->t σ H Q):PA X e t':=λpos pins s σ H Q I q=>h pos pins s σ H Q I (k _ _ _ q)
theorem PS.imp {st} (h:PS X st t) (k:∀D σ H,t' D σ H->t D σ H):PS X st t':=λpins s σ H D I q=>h pins s σ H D I (k _ _ _ q)
theorem PSs.imp {st} (h:PSs X st t) (k:∀D σ H,t' D σ H->t D σ H):PSs X st t':=λpins s σ H D I q=>h pins s σ H D I (k _ _ _ q)
theorem PI.imp (h:PI X tg iter t) (k:∀σ H R,t' σ H R->t σ H R):PI X tg iter t':=λpins s σ H R I q=>h pins s σ H R I (k _ _ _ q)
theorem PG.imp (h:PG X tg t) (k:∀v σ H Q,t' v σ H Q->t v σ H Q):PG X tg t':=λpins s σ H v u Q I r q=>h pins s σ H v u Q I r (k _ _ _ _ q)
theorem kR {α β:Type} {f:α->β->Sem (ForInStep β)} {g}:∀ (l:List α) (c:β),(∀x∈l,∀c,f x c=pure (.yield (g c x)))->forIn l c f=pure (l.foldl g c)
 |[],_,_=>rfl
 |x::l,c,h=>by
  rw[List.forIn_cons,h x mem_cons_self,pure_bind];exact kR l _ λy hy=>h y (mem_cons_of_mem _ hy)
def fu (env:Env) (cs:List (Str×Addr)) (x:Str×NameKind):List (Str×Addr):=if x.2==.free then(x.1,(env.cells.lookup x.1).getD 0)::cs else cs
abbrev pT (env:Env) (scope:Scope):List (Str×Addr):=scope.names.foldl (fu env) []
theorem gD (h:(k==NameKind.free)=true):k=.free:=by
 cases k<;>first|rfl|exact absurd h (by decide)
theorem mv (h:∀y∈scope.names,y.2=.free->∃c,env.cells.lookup y.1=some c):closureFor scope env=pure (pT env scope):=by
 simp only[closureFor];rw[kR (g:=fu env) scope.names [] (λx hx c=>by
  obtain⟨n,k⟩:=x;unfold fu;cases hk:(k==NameKind.free)with
  |false=>simp
  |true=>
   obtain⟨a,e⟩:=h (n,k) hx (gD hk);have e':=e;simp[cellOf,e'])]
 rfl
theorem dY:∀ (l:List (Str×NameKind)) (cs:List (Str×Addr)),(∀x c,cs.lookup x=some c->env.cells.lookup x=some c)->(∀y∈l,y.2=.free->∃c,env.cells.lookup y.1=some c)->
  ∀x c,(l.foldl (fu env) cs).lookup x=some c->env.cells.lookup x=some c
 |[],_,h,_,x,c,e=>h x c e
 |(n,k)::l,cs,h,hl,x,c,e=>by
  refine dY l (fu env cs (n,k)) (λy d q=>?_) (λy hy=>hl y (mem_cons_of_mem _ hy)) x c e;unfold fu at q;cases hk:(k==NameKind.free)with
  |false=>rw[hk]at q;exact h y d (by simpa using q)
  |true=>
   rw[hk]at q;obtain⟨a,ea⟩:=hl (n,k) mem_cons_self (gD hk);have ea':env.cells.lookup n=some a:=ea;simp only[if_true,List.lookup_cons,ea',Option.getD_some]at q;cases hy:(y==n)with
   |true=>
    rw[hy]at q;have hyn:y=n:=by simpa using hy
    rw[hyn,ea'];exact q
   |false=>rw[hy]at q;exact h y d q
theorem iT:∀ (l:List (Str×NameKind)) (cs:List (Str×Addr)) (x:Str),((x,NameKind.free)∈l\/(cs.lookup x).isSome=true)->((l.foldl (fu env) cs).lookup x).isSome=true
 |[],_,_,h=>by
  rcases h with h|h
  ·cases h
  ·exact h
 |(n,k)::l,cs,x,h=>by
  refine iT l (fu env cs (n,k)) x ?_;rcases h with h|h
  ·rcases mem_cons.mp h with e|h
   ·cases e;refine .inr ?_;unfold fu;simp
   ·exact .inl h
  ·refine .inr ?_;unfold fu;split
   ·rw[List.lookup_cons];split
    ·rfl
    ·exact h
   ·exact h
theorem mw (h:(relabel scope env).names.lookup x=some k):∃k0,(x,k0)∈scope.names/\(k0=k\/(k0=.free/\k=.cell)):=by
 have h':(scope.names.map λ(n,k)=>if(k==NameKind.free&&env.scope.kind==.function&&env.kindOf n==some .cell)then(n,NameKind.cell)else(n,k)).lookup x=some k:=h;have hm:=PySem.mem_of_lookup h';obtain⟨⟨n,k0⟩,hn,e⟩:=List.mem_map.mp hm;by_cases hc:(k0==NameKind.free&&env.scope.kind==.function&&env.kindOf n==some .cell)=true
 ·have e':(n,NameKind.cell)=(x,k):=by
   have:=e;simp only[hc,if_true]at this;exact this
  cases e';have hf:=gD (by
   rw[and_eq_true,and_eq_true]at hc;exact hc.1.1)
  exact⟨k0,hn,.inr ⟨hf,rfl⟩⟩
 ·have e':(n,k0)=(x,k):=by
   have:=e;simp only[hc]at this;exact this
  cases e';exact⟨_,hn,.inl rfl⟩
def cxC (X:Cx) (scope:Scope) (C:Addr) (s:Shared) (H:Hp) (fp:List Addr):Cx where
 prog:=X.prog
 w:=X.w
 K:=X.K
 mg:=X.mg
 base:=X.base
 A:=X.A
 N:=X.N
 s₀:=s
 H₀:=H
 env:=compEnvC scope (pT X.env scope) C X.env
 outer:=X.stack
 stack:=X.stack
 ex:=fp
 fn:=λ_=>false
 calm:=X.calm
 pn:=[]
 xe:=λ_ _=>False
structure CSc (X:Cx) (scope:Scope) (ks:List Nat):Prop where
 kind:scope.kind=.function
 nocell:∀y∈scope.names,y.2≠.cell
 names:∀y∈scope.names,y.2=.local->scope.names.lookup y.1=some .local
 free:∀y∈scope.names,y.2=.free->X.env.scope.names.lookup y.1=some .cell\/X.env.scope.names.lookup y.1=some .free
 own:∀ (i:Nat) (x:Str),X.N[i]?=some x->scope.names.lookup x=some .local->i∈ks
def wipe {α:Type} (ks:List Nat) (σ:List (Option α)):List (Option α):=ks.foldl (λσ k=>σ.set k none) σ
theorem jk:∀ (ks:List Nat) (σ:List (Option α)),(wipe ks σ).length=σ.length
 |[],_=>rfl
 |k::ks,σ=>by
  show(wipe ks (σ.set k none)).length=_;rw[jk ks];simp
theorem mx:∀ (ks:List Nat) (σ:List (Option α)) (i:Nat) (v:α),(wipe ks σ)[i]?=some (some v)->σ[i]?=some (some v)/\i ∉ ks
 |[],_,_,_,h=>⟨h,by simp⟩
 |k::ks,σ,i,v,h=>by
  obtain⟨h1,h2⟩:=mx ks (σ.set k none) i v h;by_cases hk:k=i
  ·subst hk;rw[List.getElem?_set]at h1;simp only[if_true]at h1;split at h1<;>simp at h1
  ·rw[List.getElem?_set_ne hk]at h1;exact⟨h1,by simp[h2,Ne.symm hk]⟩
theorem rk:∀ (ks:List Nat) (σ:List (Option α)) (i:Nat) (v:α),σ[i]?=some (some v)->i ∉ ks->(wipe ks σ)[i]?=some (some v)
 |[],_,_,_,h,_=>h
 |k::ks,σ,i,v,h,hn=>by
  refine rk ks (σ.set k none) i v ?_ λz=>hn (mem_cons_of_mem _ z);rw[List.getElem?_set_ne (λz=>hn (by simp[z]))];exact h
section
variable {X:Cx} {pins:List (Addr×Obj)} {σ:St} {H:Hp} {s:Shared} {fp:List Addr} {scope:Scope} {ks:List Nat} {C D:Addr}
theorem Inv.cells_of (I:Inv X pins σ H s) (S:CSc X scope ks):∀y∈scope.names,y.2=.free->∃c,X.env.cells.lookup y.1=some c:=λy hy hf=>I.ok.has y.1 (S.free y hy hf)
theorem tR (I:Inv X pins σ H s) (S:CSc X scope ks) (hf:∀b∈fp,iR X pins H b) (hlt:∀b∈fp,b<s.heap.objs.size) (hC:s.heap.objs.size<=C):(cxC X scope C s H fp).Ok where
 mod:=I.ok.mod
 kind:=S.kind
 glob:=I.ok.glob
 blt:=I.ok.blt
 above:=hC
 inj:=λx y c h1 h2=>I.ok.inj x y c (dY _ [] (λ_ _ z=>nomatch z) (I.cells_of S) x c h1) (dY _ [] (λ_ _ z=>nomatch z) (I.cells_of S) y c h2)
 has:=λx hx=>by
  have q:∃k,(relabel scope X.env).names.lookup x=some k/\(k=.cell\/k=.free):=by
   rcases hx with h|h
   ·exact⟨_,h,.inl rfl⟩
   ·exact⟨_,h,.inr rfl⟩
  obtain⟨k,hk,hc⟩:=q;obtain⟨k0,hm,h0⟩:=mw hk;have hfree:k0=.free:=by
   rcases h0 with rfl|⟨h,_⟩
   ·rcases hc with z|z
    ·exact absurd z (S.nocell _ hm)
    ·exact z
   ·exact h
  subst hfree;exact Option.isSome_iff_exists.mp (iT scope.names [] x (.inl hm))
 cab:=λ_ _ z=>absurd z Bool.false_ne_true
 hd:=I.ok.hd
 frames:=I.ok.frames
 stk:=.inl rfl
 exf:=λb hb=>⟨Nat.ne_of_lt (lt_of_lt_of_le (hlt b hb) hC),λx c e=>(hf b hb).2.2.2.2.1 x c (dY _ [] (λ_ _ z=>nomatch z) (I.cells_of S) x c e)⟩
 bs:=I.bs
 bsz:=Nat.le_trans I.ok.bsz I.sz
 noex:=λb o e hb=>by
  rcases(hf b hb).2.2.2.1 with z|z
  ·exact I.ok.noex b o e z
  ·exact absurd (lt_of_lt_of_le (lt_of_lt_of_le (Heap.lt_size e) I.ok.bsz) z) (Nat.lt_irrefl _)
 exfs:=λb hb hs=>by
  rcases mem_cons.mp (I.stkSub b hs)with z|z
  ·exact(hf b hb).2.1 z
  ·exact(hf b hb).2.2.1 z
 funs:=I.stack
 frf:=I.stkFree
theorem wS {its:List Value} (I:Inv X pins σ H s) (S:CSc X scope ks) (hf:∀b∈fp,iR X pins H b) (hlt:∀b∈fp,b<s.heap.objs.size) (hD:s.heap.objs.size<=D) (hC:s.heap.objs.size<=C) (hDC:D≠C) (old:∀b o,s.heap.get? b=some o->h₁.get? b=some o) (hns:h₁.Ns C m) (hacc:h₁.get? D=some {cls:=.type "list",data:=.seq its.toArray n}):
  Inv (cxC X scope C s H fp) [(D,{cls:=.type "list",data:=.seq its.toArray n})] (wipe ks σ) H {s with heap:=h₁,toks:=tk}:=by
 have cs:=dY scope.names [] (λ_ _ z=>nomatch z) (I.cells_of S)
 refine⟨tR I S hf hlt hC,rfl,I.bare,Un.kept old,⟨m,hns,λi x v hN hσ hv=>?_⟩,λx c e=>?_,I.hok.fresh hC,λx c e=>I.freeC x c (cs x c e),λp hp=>?_,I.hok.kept old,?_⟩
 ·obtain⟨h1,h2⟩:=mx ks σ i v hσ;have hv':∃k,(relabel scope X.env).names.lookup x=some k/\(k=.local\/k=.cell\/k=.free):=by
   rcases hv with h|h|h
   ·exact⟨_,h,.inl rfl⟩
   ·exact⟨_,h,.inr (.inl rfl)⟩
   ·exact⟨_,h,.inr (.inr rfl)⟩
  obtain⟨k,hk,hkk⟩:=hv';obtain⟨k0,hm,h0⟩:=mw hk;have hfree:k0=.free:=by
   rcases h0 with e|⟨h,_⟩
   ·subst e;rcases hkk with z|z|z
    ·exact absurd (S.own i x hN (S.names _ hm z)) h2
    ·exact absurd z (S.nocell _ hm)
    ·exact z
   ·exact h
  subst hfree;have hX:=S.free _ hm rfl;obtain⟨m0,hn0,hl0⟩:=I.loc;obtain⟨u,r,l⟩:=hl0 i x v hN h1 (by rcases hX with z|z;exact .inr (.inl z);exact .inr (.inr z));refine⟨u,r,.inr ⟨?_,?_⟩⟩
  ·have hk2:k=.cell\/k=.free:=by
    rcases h0 with e|⟨_,e⟩
    ·exact .inr e.symm
    ·exact .inl e
   rcases hk2 with e|e
   ·subst e;exact .inl hk
   ·subst e;exact .inr hk
  ·rcases l with⟨hloc,_⟩|⟨_,c,ec,hcell⟩
   ·have hloc':X.env.scope.names.lookup x=some .local:=hloc;rcases hX with z|z
    ·rw[hloc']at z;cases z
    ·rw[hloc']at z;cases z
   ·obtain⟨c',ec'⟩:=Option.isSome_iff_exists.mp (iT scope.names [] x (.inl hm));have e2:=cs x c' ec';rw[ec]at e2;cases e2;obtain⟨o,ho,hd⟩:=hcell;exact⟨c,ec',o,old c o ho,hd⟩
 ·obtain⟨v,o,ho,hd⟩:=I.cell x c (cs x c e);exact⟨v,o,old c o ho,hd⟩
 ·have e:p=(D,{cls:=.type "list",data:=.seq its.toArray n}):=by
   have hp':p∈[]++[(D,({cls:=.type "list",data:=.seq its.toArray n}:Obj))]:=hp;simpa using hp'
  subst e;refine⟨hacc,I.hok.fresh hD,hDC,λhb=>?_,λv z=>?_⟩
  ·rcases mem_cons.mp (I.stkSub D hb)with z|z
   ·exact absurd (lt_of_lt_of_le I.lt hD) (by rw[z];exact Nat.lt_irrefl _)
   ·exact I.nofs hD z
  ·have z':Data.seq its.toArray n=Data.cell v:=z;cases z'
 ·show(wipe ks σ).length=X.N.length;rw[jk];exact I.len
theorem HOk.adopt (x:HOk P w H h) (hn:H a=none) (new:ObjOk P w (upd H a o) h a o):HOk P w (upd H a o) h:=λb u q=>by
 by_cases hb:b=a
 ·subst hb;rw[ar]at q;cases q;exact new
 ·rw[au hb]at q;refine(x b u q).stay (λ_ _ _ z=>z) (λc z=>?_) λc xs z=>?_
  ·rw[au (aH z hn)];exact z
  ·rw[au (aH z hn)];exact z
theorem BJ {σ':St} (I:Inv X pins σ H s) (J:Inv (cxC X scope C s H fp) pl σ' H' s') (hf:∀b∈fp,iR X pins H b) (hD:s.heap.objs.size<=D) (hDn:H' D=none) (hacc:s'.heap.get? D=some {cls:=.type "list",data:=.seq its.toArray n}) (r:Vals ys its) (hz:ys.length<=sizeLine):Inv X pins σ (upd H' D (.lst ys)) s':=by
 have B:=J.base;have ne:∀b o,s.heap.get? b=some o->b≠D:=λb o e=>Nat.ne_of_lt (lt_of_lt_of_le (Heap.lt_size e) hD);refine I.call' J.os ⟨B.keep,B.slot,λb o e q hx=>?_,B.there,λb xs q=>?_,λb o u q=>?_,λb ps q=>?_⟩ (J.hok.adopt hDn ⟨hz,its,n,r,hacc⟩) J.bare λb hb=>?_
 ·rw[au (ne b o e)];exact B.free b o e q hx
 ·have z:=B.tups b xs q;rw[au (aH z hDn)];exact z
 ·have z:=B.frzs b o u q;rw[au (aH z hDn)];exact z
 ·obtain⟨more,z⟩:=B.tbls b ps q;exact⟨more,by rw[au (aH z hDn)];exact z⟩
 ·obtain⟨_,f1,_,f3,f4,f5⟩:=hf b hb;exact⟨f3,f1,f4,f5⟩
end
def PTs (X:Cx) (ifs:List Expr) (t:TT):Prop:=
 ∀ (pins:List (Addr×Obj)) (s:Shared) (σ:St) (H:Hp) (Q:Bool->Hp->Prop),Inv X pins σ H s->t σ H Q->
  wpAny (model X.prog X.w) X.A (forIn ifs true λc r=>if r=true then do let ok<-isTrue c X.env (eval c X.env);pure (ForInStep.yield ok)else pure (ForInStep.yield r)) (TP X pins σ Q) X.xe s
def Lr:TT:=λ_ H Q=>Q true H
theorem pts_nil:PTs X [] Lr:=λ_ _ _ H _ I h=>wpAny_tests_nil ⟨H,I,h⟩
theorem BK (h:PT X c t):PTs X [c] t:=λpins s σ H Q I q=>wpAny_tests_one (h pins s σ H Q I q)
section
variable {prog:Program} {w:World} {A:Around} {R:Result->Shared->Prop} {s:Shared}
theorem tT (I:Nat->Shared->Prop) (turn:∀n s,I n s->wpAny (model prog w) A (pyNext it) (λr s1=>match r with
   |none=>R (.ok .next) s1
   |some v=>wpAny (model prog w) A (letOwnedTupleGo tg it v) (λ_ s2=>wpAny (model prog w) A (assign tg env v) (λ_ s3=>
    wpAny (model prog w) A (forIn ifs true λc r=>if r=true then do let ok<-isTrue c env (eval c env);pure (ForInStep.yield ok)else pure (ForInStep.yield r)) (λok s4=>
     if ok=true then wpAny (model prog w) A (eval elt env) (λx s5=>wpAny (model prog w) A (call (.builtin "list.append") [acc,x]) (λ_ s6=>∃m,m<n/\I m s6) (λ_ _=>False) s5) (λ_ _=>False) s4
     else∃m,m<n/\I m s4) (λ_ _=>False) s3) (λ_ _=>False) s2) (λ_ _=>False) s1) (λ_ _=>False) s) (n:Nat) (h:I n s):codeAny (model prog w) A (.compLoop (.ListComp elt [⟨tg,iter,ifs,0⟩] scope pos) 0 it acc env) R s:=by
 refine codeAny_loop rfl I (λk s' hI=>?_) n h
 show wpAny _ A ((compTurn (.ListComp elt [⟨tg,iter,ifs,0⟩] scope pos) 0 it acc env).onRaise (λx=>do noteFrame x env;theTreesLotGoes x)) _ _ s'
 refine wpAny_noted ?_
 rw[compTurn_list]
 refine wpAny_bind (wpAny_standAt (wpAny_bind (wpAny_mono (turn k s' hI) (λr s1 h1=>?_) λ_ _ z=>z.elim)))
 cases r with
 |none=>exact wpAny_pure h1
 |some v=>
  refine wpAny_bind (wpAny_mono h1 (λ_ s2 h2=>?_) λ_ _ z=>z.elim);refine wpAny_bind (wpAny_mono h2 (λ_ s3 h3=>?_) λ_ _ z=>z.elim);refine wpAny_bind (wpAny_mono h3 (λok s4 h4=>?_) λ_ _ z=>z.elim);cases ok with
  |false=>exact wpAny_pure ⟨rfl,h4⟩
  |true=>
   refine wpAny_bind (wpAny_bind (wpAny_mono h4 (λx s5 h5=>?_) λ_ _ z=>z.elim));exact wpAny_bind (wpAny_mono h5 (λ_ s6 h6=>wpAny_pure (wpAny_pure ⟨rfl,h6⟩)) λ_ _ z=>z.elim)
end
def Ls (σ σ':St):Prop:=σ'.length=σ.length/\∀ (i:Nat) (v:V),σ[i]?=some (some v)->σ'[i]?=some (some v)
def DN (J:It) (ks:List Nat) (g:TG) (tt:TT) (te:TE) (σ:St) (Fin:List V->Hp->Prop) (W:Nat->Nat->List V->Hp->Prop):Prop:=∀i m ys H2,W i m ys H2->
 (J.stop i H2/\ys.length<=sizeLine/\Fin ys H2)\/
 (J.go i H2/\ys.length<sizeLine/\∀x H3,J.yld i H2 x H3->g x (wipe ks σ) H3 λσ4 H4=>Ls (wipe ks σ) σ4/\tt σ4 H4 λc H5=>
  if c=true then te σ4 H5 λy H6=>∃m',m'<m/\W (i+1) m' (ys++[y]) H6 else∃m',m'<m/\W (i+1) m' ys H5)
def rp (wi:TI) (ks:List Nat) (g:TG) (tt:TT) (te:TE):TE:=λσ H Q=>wi σ H λJ H1=>∃W:Nat->Nat->List V->Hp->Prop,(∃m,W 0 m [] H1)/\
 DN J ks g tt te σ (λys H2=>∀p,H2 p=none->Q (.ref p) (upd H2 p (.lst ys))) W
section
variable {X:Cx} {scope:Scope} {ks:List Nat} {tg elt iter:Expr} {ifs:List Expr} {g:TG} {tt:TT} {te:TE} {pos:Pos}
theorem my {σ:St} {RR:Value->Addr->Result->Shared->Prop} {Fin} (hc:X.calm=true) (S:CSc X scope ks) (I2:Inv X pins σ H2 s2) (T:Turn X.prog X.w X.K tg J fp it tn) (st:tn 0 s2.heap) (f2:∀b∈fp,iR X pins H2 b) (hg:∀C s H,PG (cxC X scope C s H fp) tg g) (htt:∀C s H,PTs (cxC X scope C s H fp) ifs tt) (he:∀C s H,PE (cxC X scope C s H fp) elt te) (w0:∃m,W 0 m [] H2) (turn:DN J ks g tt te σ Fin W) (hR:∀D C H3 s3 m ys,Inv X pins σ (upd H3 D (.lst ys)) s3->H3 D=none->upd H3 D (.lst ys) C=none->C≠X.env.locals->s2.heap.objs.size<=C->s3.heap.Ns C m->Fin ys H3->RR (.ref D) C (.ok .next) s3):
  wpAny (model X.prog X.w) X.A (newList []) (λacc s₃=>wpAny (model X.prog X.w) X.A (newFunctionEnv scope X.env.globals (pT X.env scope) [] X.env.qual none .none (some X.env)) (λcenv s₄=>
   codeAny (model X.prog X.w) X.A (.compStart (.ListComp elt [⟨tg,iter,ifs,0⟩] scope pos) 0 (.ref it) acc {cenv with scope:=relabel scope X.env}) (RR acc cenv.locals) s₄) E s₃) E s2:=by
 have hlt:∀b∈fp,b<s2.heap.objs.size:=λb hb=>by
  obtain⟨o,e,_⟩:=T.obj _ _ st b hb
  exact Heap.lt_size e
 refine wpAny_newObj_type (wpAny_newFunctionEnv S.nocell (by intro y hy;simp at hy) (λh₁ hns₁ hsb₁=>?_) S.kind)
 generalize hH2:s2.heap.push {cls:=.type "list",dict:=none,data:=.seq ([]:List Value).toArray}=G at hns₁ hsb₁⊢
 have hCe:G.objs.size=s2.heap.objs.size+1:=by rw[<-hH2,Heap.size_push]
 have hDC:s2.heap.objs.size≠G.objs.size:=by rw[hCe];exact Nat.ne_of_lt (Nat.lt_succ_self _)
 have hC:s2.heap.objs.size<=G.objs.size:=by rw[hCe];exact Nat.le_succ _
 have old:∀b o,s2.heap.get? b=some o->h₁.get? b=some o:=λb o e=>
  hsb₁.extBut b o (Nat.ne_of_lt (lt_of_lt_of_le (Heap.lt_size e) hC)) (Heap.get?_push_of_some _ (hH2▸Heap.get?_push_of_some _ e))
 have hacc:h₁.get? s2.heap.objs.size=some {cls:=.type "list",data:=.seq ([]:List Value).toArray 0}:=hsb₁.extBut _ _ hDC (Heap.get?_push_of_some _ (hH2▸Heap.get?_push_size _ rfl))
 generalize hDn:s2.heap.objs.size=D at*
 generalize hCn:G.objs.size=C at*
 have st₁:=T.keep _ _ _ st λb hb o e=>old b o e
 let ρ:=cxC X scope C s2 H2 fp
 have fpY:∀ {pl:List (Addr×Obj)} {H':Hp},(∀b∈fp,H' b=none)->(∀p∈pl,D<=p.1)->∀b∈fp,iR ρ pl H' b:=λ{pl H'} hn hp b hb=>by
  refine⟨hn b hb,Nat.ne_of_lt (lt_of_lt_of_le (hlt b hb) hC),λz=>?_,.inl hb,((tR I2 S f2 (hDn▸hlt) (hDn▸hC)).exf b hb).2,λp hq=>?_⟩
  ·exact(tR I2 S f2 (hDn▸hlt) (hDn▸hC)).exfs b hb z
  ·have hq':p∈[]++pl:=hq
   have:=hp p (by simpa using hq')
   exact Nat.ne_of_gt (lt_of_lt_of_le (hlt b hb) this)
 have loop:∀tk,codeAny (model X.prog X.w) X.A (.compLoop (.ListComp elt [⟨tg,iter,ifs,0⟩] scope pos) 0 (.ref it) (.ref D) (compEnvC scope (pT X.env scope) C X.env)) (RR (.ref D) C) {s2 with heap:=h₁,toks:=tk}:=λtk=>by
  obtain⟨m0,w0⟩:=w0
  refine tT (λn s'=>∃i ys its cap H',Inv ρ [(D,{cls:=.type "list",data:=.seq (List.toArray its) cap})] _ H' s'/\Vals ys its/\tn i s'.heap/\(∀b∈fp,H' b=none)/\W i n ys H') ?_ m0
   ⟨0,[],[],0,H2,wS I2 S f2 (hDn▸hlt) (hDn▸le_refl _) (hDn▸hC) hDC old hns₁ hacc,.nil,st₁,λb hb=>(f2 b hb).1,w0⟩
  rintro n s3 ⟨i,ys,its,cap,H3,I3,rv,st3,fr3,w3⟩
  have pinD:∀p∈[(D,({cls:=.type "list",data:=.seq _ cap}:Obj))],D<=p.1:=λp hp=>by
   have e:p=(D,{cls:=.type "list",data:=.seq (List.toArray its) cap}):=by simpa using hp
   rw[e];exact le_refl _
  rcases turn i n ys H3 w3 with⟨stop,hz,fin⟩|⟨go,hz,step⟩
  ·refine thn (T.done ρ rfl rfl rfl hc i _ s3 _ H3 (λ_ _=>False) I3 (fpY fr3 pinD) st3 stop) λr s4 ⟨hr,I4⟩=>?_
   subst hr
   have hD4:=I4.pin (D,{cls:=.type "list",data:=.seq _ cap}) (mem_append_right _ mem_cons_self)
   obtain⟨m4,hn4,_⟩:=I4.loc
   have JX:=BJ I2 I4 f2 (Nat.le_of_eq hDn) hD4.2.1 hD4.1 rv hz
   exact hR D C H3 s4 m4 ys JX hD4.2.1 (by rw[au (Ne.symm hDC)];exact I4.free) (Nat.ne_of_gt (lt_of_lt_of_le I2.lt (hDn▸hC))) hC hn4 fin
  ·refine thn (T.item ρ rfl rfl rfl hc i _ s3 _ H3 (λ_ _=>False) I3 (fpY fr3 pinD) st3 go) λr s4 ⟨u,hr,h4⟩=>?_
   subst hr
   refine thn h4 λ_ s5 ⟨x,H5,I5,r5,y5,st5,fr5⟩=>?_
   have I5':=I5.pinned (fpY fr5 pinD) (T.obj _ _ st5)
   refine thn (hg C s2 H2 _ s5 _ H5 x u _ I5' r5 (step x H5 y5)) λ_ s6 ⟨σ6,H6,I6,kp,q6⟩=>?_
   refine thn (htt C s2 H2 _ s6 σ6 H6 _ I6 q6) λok s7 ⟨H7,I7,q7⟩=>?_
   -- the iterator's own objects stand
   have stay:∀ {H':Hp} {s':Shared},Inv ρ ([(D,({cls:=.type "list",data:=.seq (List.toArray its) cap}:Obj))]++l8 fp s5.heap) σ6 H' s'->tn (i+1) s'.heap/\∀b∈fp,H' b=none:=λ{H' s'} I'=>by
    refine⟨T.keep _ _ _ st5 λb hb o e=>(I'.pin (b,o) (mem_append_right _ (mem_append_right _ (fY hb e)))).1,λb hb=>?_⟩
    obtain⟨o,e,_⟩:=T.obj _ _ st5 b hb
    exact(I'.pin (b,o) (mem_append_right _ (mem_append_right _ (fY hb e)))).2.1
   cases ok with
   |false=>
    obtain⟨m',hm,w7⟩:=q7
    obtain⟨t7,n7⟩:=stay I7
    exact⟨m',hm,i+1,ys,its,cap,H7,I7.unpinned.weak kp.1.symm kp.2,rv,t7,n7,w7⟩
   |true=>
    refine thn (he C s2 H2 _ s7 σ6 H7 _ I7 q7) λy s8 ⟨yv,H8,I8,r8,m',hm,w8⟩=>?_
    obtain⟨t8,n8⟩:=stay I8
    have hD8:=I8.pin (D,{cls:=.type "list",data:=.seq _ cap}) (mem_append_right _ (mem_append_left _ mem_cons_self))
    have hlen:=rv.length
    refine append_at hD8.1 (λh9 sb hD9=>?_) (by rw[size_toArray];omega)
    have I9:Inv ρ [] σ6 H8 {s8 with heap:=h9,toks:=s8.toks}:=Inv.turned (I8.pins_of λp hp=>nomatch hp) (λb o hb e=>sb.extBut b o hb e) hD8.2.1 hD8.2.2.1 (.inr (Nat.le_of_eq hDn))
     (λx c e z=>by
      obtain⟨v,q⟩:=I8.cell x c e
      obtain⟨o,ho,hd⟩:=q
      rw[z,hD8.1]at ho
      cases ho
      exact hD8.2.2.2.2 v hd) (λp hp=>nomatch(hp))
    have e9:h9.get? D=some {cls:=.type "list",data:=.seq (List.toArray (its++[y])) (cap+1)}:=by
     rw[hD9];simp
    have I10:Inv ρ [(D,{cls:=.type "list",data:=.seq (List.toArray _) _})] σ6 H8 {s8 with heap:=h9,toks:=s8.toks}:=I9.pins_of λp hp=>by
     have e:p=(D,{cls:=.type "list",data:=.seq (List.toArray (its++[y])) (cap+1)}):=by simpa using hp
     subst e
     exact⟨e9,hD8.2.1,hD8.2.2.1,hD8.2.2.2.1,λv z=>by
      have z':=z
      cases z'⟩
    refine⟨m',hm,i+1,ys++[yv],its++[y],cap+1,H8,I10.weak kp.1.symm kp.2,rv.append (.cons r8 .nil),T.keep _ _ _ t8 λb hb o e=>sb.extBut b o (Nat.ne_of_lt (hlt b hb)) e,n8,w8⟩
 exact codeAny_compStart_list (loop _) (T.self _ 0 _ _ _ st₁ (loop _))
theorem BL (hc:X.calm=true) (S:CSc X scope ks) (hi:PI X tg iter wi) (hg:∀C s H fp,PG (cxC X scope C s H fp) tg g) (htt:∀C s H fp,PTs (cxC X scope C s H fp) ifs tt) (he:∀C s H fp,PE (cxC X scope C s H fp) elt te) (hs:∀x,foldedSetIterable iter X.env x=pure x:=by intro _;rfl):PE X (.ListComp elt [⟨tg,iter,ifs,0⟩] scope pos) (rp wi ks g tt te):=by
 intro pins s σ H Q I h;refine wpAny_comprehension_free rfl hs (mv (I.cells_of S)) S.kind S.names (thn (hi pins s σ H _ I h) λv s1 h1=>thn h1 λitv s2 h2=>?_);obtain⟨it,fp,tn,J,H2,e,I2,T,st2,f2,W,w0,turn⟩:=h2;subst e;refine my hc S I2 T st2 f2 (λC s H=>hg C s H fp) (λC s H=>htt C s H fp) (λC s H=>he C s H fp) w0 turn ?_;intro D C H3 s3 m ys I3 hD hC hCL hCz hns fin;refine⟨m,hns,λh' sb=>?_⟩;refine⟨.ref D,upd H3 D _,?_,rfl,fin D hD⟩;exact I3.turned (λb o hb e=>sb.extBut b o hb e) hC hCL (.inr (Nat.le_trans I2.sz hCz)) (λx c e z=>by
  obtain⟨v,o,ho,hd⟩:=I2.cell x c e;exact absurd (lt_of_lt_of_le (Heap.lt_size ho) hCz) (by rw[z];exact Nat.lt_irrefl _)) λp hp z=>absurd (lt_of_lt_of_le (Heap.lt_size (I2.pin p hp).1) hCz) (by rw[z];exact Nat.lt_irrefl _)
theorem BM (hN:X.N.Nodup) (hx:X.N[i]?=some x) (hl:X.env.scope.names.lookup x=some .local) (hc:X.calm=true) (S:CSc X scope ks) (hi:PI X tg iter wi) (hg:∀C s H fp,PG (cxC X scope C s H fp) tg g) (htt:∀C s H fp,PTs (cxC X scope C s H fp) ifs tt) (he:∀C s H fp,PE (cxC X scope C s H fp) elt te) (hsw:swapsWith (.ListComp elt [⟨tg,iter,ifs,0⟩] scope pos) (some (.Name x px)) spos.line X.env=pure true) (hs:∀x,foldedSetIterable iter X.env x=pure x:=by intro _;rfl):PS X (.Assign [.Name x px] (.ListComp elt [⟨tg,iter,ifs,0⟩] scope pos) spos) (xR (rp wi ks g tt te) (qZ i)):=by
 intro pins s σ H Q I h;rw[exec_Assign_Name_used _ _ _ _ hsw];refine wpAny_bind (wpAny_standAt (wpAny_bind ?_));refine wpAny_bind (wpAny_mono (wpAny_comprehension_free rfl hs (mv (I.cells_of S)) S.kind S.names
  (thn (hi pins s σ H _ I h) λv s1 h1=>thn h1 λitv s2 h2=>?_)) (λ_ s' hq=>wpAny_pure (wpAny_pure hq)) λ_ _ e=>e)
 obtain⟨it,fp,tn,J,H2,e,I2,T,st2,f2,W,w0,turn⟩:=h2;subst e;refine my hc S I2 T st2 f2 (λC s H=>hg C s H fp) (λC s H=>htt C s H fp) (λC s H=>he C s H fp) w0 turn ?_;intro D C H3 s3 m ys I3 hD hC hCL hCz hns fin;refine wpAny_assign_Name (oz (v:=.ref D) I3 hN hx (.inl hl) rfl (λs4 I4 ⟨a,sb,ha⟩=>?_) (.inr hl));have hCa:C≠a:=by
  rcases ha with z|z
  ·rw[z];exact hCL
  ·intro q;obtain⟨v,o,ho,hd⟩:=I2.cell x a z;exact absurd (lt_of_lt_of_le (Heap.lt_size ho) hCz) (by rw[q];exact Nat.lt_irrefl _)
 refine⟨m,hns.sameBut sb hCa,λh' sb'=>?_⟩;refine⟨σ.set i (some _),upd H3 D _,?_,fin D hD⟩;exact I4.turned (λb o hb e=>sb'.extBut b o hb e) hC hCL (.inr (Nat.le_trans I2.sz hCz)) (λx c e z=>by
   obtain⟨v,o,ho,hd⟩:=I2.cell x c e;exact absurd (lt_of_lt_of_le (Heap.lt_size ho) hCz) (by rw[z];exact Nat.lt_irrefl _)) λp hp z=>absurd (lt_of_lt_of_le (Heap.lt_size (I2.pin p hp).1) hCz) (by rw[z];exact Nat.lt_irrefl _)
end
section
variable {κ:Type} [DecidableEq κ]
def iC (kvs:List (κ×V)) (k:κ):Option V:=(kvs.find? λkv=>decide (kv.1=k)).map (·.2)
def wT (kvs:List (κ×V)) (k:κ) (v:V):List (κ×V):=
 if(kvs.any λkv=>decide (kv.1=k))=true then kvs.map (λkv=>if kv.1=k then(kv.1,v)else kv)else kvs++[(k,v)]
theorem jm {k:κ} (e:p.1=k):iC (p::r) k=some p.2:=by simp[iC,List.find?_cons,e]
theorem jn {k:κ} (e:¬p.1=k):iC (p::r) k=iC r k:=by simp[iC,List.find?_cons,e]
theorem rz (k:κ):∀kvs:List (κ×V),(kvs.any λkv=>decide (kv.1=k))=(iC kvs k).isSome
 |[]=>rfl
 |p::r=>by
  rw[List.any_cons];by_cases e:p.1=k
  ·simp only[jm e,decide_eq_true e,Bool.true_or,Option.isSome_some]
  ·rw[jn e,decide_eq_false e,Bool.false_or];exact rz k r
theorem rA (kvs:List (κ×V)) (k:κ) (v:V):(wT kvs k v).length<=kvs.length+1:=by
 unfold wT;split
 ·rw[length_map];omega
 ·rw[length_append,length_cons,List.length_nil];omega
theorem KV.val (r:KV kvs vs) (k:κ):RelO (iC kvs k) (valueAt vs k):=by
 unfold KV at r;induction r with
 |nil=>exact True.intro
 |@cons p q ps qs h t ih=>
  obtain⟨h1,h2⟩:=h;by_cases e:p.1=k
  ·have e':q.1=k:=h1.symm.trans e;have b:valueAt (q::qs) k=some q.2:=by simp[valueAt,List.find?_cons,e']
   rw[jm e,b];exact h2
  ·have e':¬q.1=k:=λz=>e (h1.trans z);have b:valueAt (q::qs) k=valueAt qs k:=by simp[valueAt,List.find?_cons,e']
   rw[jn e,b];exact ih
theorem KV.any (r:KV kvs vs) (k:κ):(kvs.any λkv=>decide (kv.1=k))=vs.any λkv=>decide (kv.1=k):=by
 unfold KV at r;induction r with
 |nil=>rfl
 |cons h t ih=>rw[List.any_cons,List.any_cons,ih,h.1]
theorem KV.repl (r:KV kvs vs) (k:κ) (ry:RelV y u):
  KV (kvs.map λkv=>if kv.1=k then(kv.1,y)else kv) (vs.map λkv=>if kv.1=k then(kv.1,u)else kv):=by
 unfold KV at r⊢
 induction r with
 |nil=>exact .nil
 |@cons p q ps qs h t ih=>
  rw[List.map_cons,List.map_cons];refine .cons ?_ ih;obtain⟨h1,h2⟩:=h;by_cases e:p.1=k
  ·rw[if_pos e,if_pos (h1.symm.trans e)];exact⟨h1,ry⟩
  ·rw[if_neg e,if_neg (λz=>e (h1.trans z))];exact⟨h1,h2⟩
theorem KV.put (r:KV kvs vs) (k:κ) (ry:RelV y u):KV (wT kvs k y) (stored vs k u):=by
 unfold wT stored;rw[r.any k];by_cases e:(vs.any λkv=>decide (kv.1=k))=true
 ·rw[if_pos e,if_pos e];exact r.repl k ry
 ·rw[if_neg e,if_neg e];exact Paired.snoc r ⟨rfl,ry⟩
theorem KV.length {vs:List (κ×Value)} (r:KV kvs vs):kvs.length=vs.length:=Paired.length r
end
theorem DO (r:RelV (kV k) u):(cR P w).is k u=true:=by
 cases k with
 |inl i=>obtain⟨t,e⟩:=(show∃t,u=Value.int i t from r);subst e;exact qV P w i t
 |inr x=>obtain⟨t,e⟩:=(show∃t,u=Value.str x t from r);subst e;exact qW P w x t
section
variable {P:Program} {w:World} {H:Hp} {h:Heap} {a:Addr}
theorem Iy (ok:HOk P w H h) (e:Rd H a u):ObjOk P w H h a u:=e.ok ok
theorem DP (ok:HOk P w H h) (e:Rd H a (.dK kvs)):kvs.length<=sizeLine/\(a==sysModules)=false/\∃vs,KV kvs vs/\h.DictOf (cR P w) a vs:=
 show ObjOk P w H h a (.dK kvs)from Iy ok e
theorem DQ (ok:HOk P w H h) (e:H a=some (.dK kvs)):kvs.length<=sizeLine/\(a==sysModules)=false/\∃vs,KV kvs vs/\h.DictOf (cR P w) a vs:=DP ok (.inl e)
end
section
variable {X:Cx} {pins:List (Addr×Obj)} {σ:St} {H:Hp} {s:Shared} {a:Addr} {y v:V} {u r:Value} {o:Option V} {A:Around} {E:Value->Shared->Prop}
theorem Inv.big (I:Inv X pins σ H s):sysModules<s.heap.objs.size:=by
 have h:mainGlobals<s.heap.objs.size:=(I.mod.glob.keeps I.bk).lt;exact Nat.lt_trans (by decide) h
theorem BN (I:Inv X pins σ H s) (mu:Mut (H a)) (hs:Heap.SameBut a s.heap h') (he:∃q,h'.get? a=some q) (new:ObjOk X.prog X.w (upd H a ob) h' a ob):
  Inv X pins σ (upd H a ob) {s with heap:=h',toks:=t'}:=
 I.write (x:=a) (e:=a) mu (.inl rfl) (λb q hb z=>(hs.2 b hb).trans z) he new
theorem ER (z:kvs.length<=sizeLine) (hd:(a==sysModules)=false) (rel:KV kvs vs) (dd:h'.DictOf (cR P w) a vs):
 ObjOk P w H' h' a (.dK kvs):=⟨z,hd,vs,rel,dd⟩
end
section
variable {X:Cx} {pins:List (Addr×Obj)} {σ:St} {H:Hp} {s:Shared} {a:Addr} {kvs:List (Key×V)} {k:Key} {u:Value} {A:Around} {E:Value->Shared->Prop}
end
section
variable {X:Cx} {o i e value:Expr} {pos pos' tpos:Pos} {td ty tv:TE}
end
theorem yk (h:Heap) (hb:sysModules<h.objs.size):ObjOk P w H (h.push {cls:=.type "dict",data:=.dict #[]}) h.objs.size (.dK []):=
 ⟨Nat.zero_le _,beq_eq_false_iff_ne.mpr (Ne.symm (Nat.ne_of_lt hb)),[],.nil,Heap.DictOf.new h⟩
def ES:TE:=λ_ H Q=>∀p,H p=none->Q (.ref p) (upd H p (.dK []))
section
variable {X:Cx} {pos:Pos}
theorem pe_dnewK:PE X (.Dict [] [] pos) ES:=λpins s σ H Q I h=>
 wpAny_Dict_empty ⟨.ref s.heap.objs.size,_,I.laid (a:=s.heap.objs.size) (o:=.dK []) (t':=s.toks) (λ_ _ q=>Heap.get?_push_of_some _ q) (le_refl _) (yk s.heap I.big),rfl,h _ (I.hok.fresh (le_refl _))⟩
end
section
variable {X:Cx}
end
inductive D where
 |non
 |bl (b:Bool)
 |int (i:Int)
 |str (x:Str)
 |ty (n:String)
 |adr (a:Addr)
 |tup (ds:List D)
 |lst (ds:List D)
 |obj (C:Str) (ns:List Str) (ds:List D)
 |dct (ks:List Key) (ds:List D)
mutual
noncomputable def Is (K:Frag) (H:Hp):D->V->Prop
 |.non,v=>v=.non
 |.bl b,v=>v=.bl b
 |.int i,v=>v=.int i
 |.str x,v=>v=.str x
 |.ty n,v=>v=.ty n
 |.adr a,v=>v=.ref a
 |.tup ds,v=>∃a xs,v=.ref a/\SqT K H a xs/\IsL K H ds xs
 |.lst ds,v=>∃a xs,v=.ref a/\SqL K H a xs/\IsL K H ds xs
 |.obj C ns ds,v=>∃a Ca dx fs,v=.ref a/\nsIn K mainGlobals C=some (some (.ref Ca))/\H a=some (.ins Ca dx fs)/\fs.map (·.1)=ns/\IsL K H ds (fs.map (·.2))
 |.dct ks ds,v=>∃a kvs,v=.ref a/\H a=some (.dK kvs)/\kvs.map (·.1)=ks/\IsL K H ds (kvs.map (·.2))
noncomputable def IsL (K:Frag) (H:Hp):List D->List V->Prop
 |[],xs=>xs=[]
 |d::ds,xs=>∃x r,xs=x::r/\Is K H d x/\IsL K H ds r
end
theorem Same.seqT {K} (e:Same H H') (h:SqT K H a xs):SqT K H' a xs:=by
 rcases h with(h|⟨o,h⟩)|h
 ·exact .inl (.inl (e _ _ h))
 ·exact .inl (.inr ⟨o,e _ _ h⟩)
 ·exact .inr h
mutual
theorem Is.mono {K:Frag} {H H':Hp} (s:Same H H'):∀ (d:D) (v:V),Is K H d v->Is K H' d v
 |.non,_,h=>h
 |.bl _,_,h=>h
 |.int _,_,h=>h
 |.str _,_,h=>h
 |.ty _,_,h=>h
 |.adr _,_,h=>h
 |.tup ds,_,⟨a,xs,e,q,l⟩=>⟨a,xs,e,s.seqT q,IsL.mono s ds xs l⟩
 |.lst ds,_,⟨a,xs,e,q,l⟩=>⟨a,xs,e,s.seq q,IsL.mono s ds xs l⟩
 |.obj _ _ ds,_,⟨a,Ca,dx,fs,e,c,q,z,l⟩=>⟨a,Ca,dx,fs,e,c,s _ _ q,z,IsL.mono s ds _ l⟩
 |.dct _ ds,_,⟨a,kvs,e,q,z,l⟩=>⟨a,kvs,e,s _ _ q,z,IsL.mono s ds _ l⟩
theorem IsL.mono {K:Frag} {H H':Hp} (s:Same H H'):∀ (ds:List D) (xs:List V),IsL K H ds xs->IsL K H' ds xs
 |[],_,h=>h
 |d::ds,_,⟨x,r,e,h,l⟩=>⟨x,r,e,Is.mono s d x h,IsL.mono s ds r l⟩
end
theorem IsL.paired {K}:∀ {ds:List D} {xs:List V},IsL K H ds xs->Paired (Is K H) ds xs
 |[],_,h=>by cases(show _=[]from h);exact .nil
 |_::_,_,⟨_,_,e,h,l⟩=>by cases e;exact .cons h (IsL.paired l)
theorem IsL.of {K}:∀ {ds:List D} {xs:List V},Paired (Is K H) ds xs->IsL K H ds xs
 |_,_,.nil=>rfl
 |_,_,.cons h l=>⟨_,_,rfl,h,IsL.of l⟩
theorem IsL.len {K} (h:IsL K H ds xs):ds.length=xs.length:=Paired.length h.paired
theorem mz:∀ {a c:List α} {b d:List β},Paired F a b->Paired F c d->Paired F (a++c) (b++d)
 |_,_,_,_,.nil,h=>h
 |_,_,_,_,.cons h l,q=>.cons h (mz l q)
theorem mB:∀ {a:List α} {b:List β} {i:Nat} {x:α},Paired F a b->a[i]?=some x->∃y,b[i]?=some y/\F x y
 |_,_,_,_,.nil,e=>by simp at e
 |_,_,0,_,.cons h _,e=>by simp at e;subst e;exact⟨_,rfl,h⟩
 |_,_,i+1,_,.cons _ l,e=>by
  obtain⟨y,h1,h2⟩:=mB (i:=i) l (by simpa using e);exact⟨y,by simpa using h1,h2⟩
theorem paired_get':∀ {a:List α} {b:List β} {i:Nat} {y:β},Paired F a b->b[i]?=some y->∃x,a[i]?=some x/\F x y
 |_,_,_,_,.nil,e=>by simp at e
 |_,_,0,_,.cons h _,e=>by simp at e;subst e;exact⟨_,rfl,h⟩
 |_,_,i+1,_,.cons _ l,e=>by
  obtain⟨y,h1,h2⟩:=paired_get' (i:=i) l (by simpa using e);exact⟨y,by simpa using h1,h2⟩
theorem mD {x:α} {y:β} (h:F x y):∀ {a:List α} {b:List β} (i:Nat),Paired F a b->Paired F (a.set i x) (b.set i y)
 |_,_,_,.nil=>.nil
 |_,_,0,.cons _ l=>.cons h l
 |_,_,i+1,.cons q l=>.cons q (mD h i l)
theorem kS:∀ {a:List α} {b:List β} (n:Nat),Paired F a b->Paired F (a.take n) (b.take n)
 |_,_,0,_=>.nil
 |_,_,_+1,.nil=>.nil
 |_,_,n+1,.cons h l=>.cons h (kS n l)
theorem kT:∀ {a:List α} {b:List β} (n:Nat),Paired F a b->Paired F (a.drop n) (b.drop n)
 |_,_,0,h=>h
 |_,_,_+1,.nil=>.nil
 |_,_,n+1,.cons _ l=>kT n l
theorem IsL.app {K} (h:IsL K H ds xs) (q:IsL K H es ys):IsL K H (ds++es) (xs++ys):=.of (mz h.paired q.paired)
theorem IsL.get {K} {i:Nat} (h:IsL K H ds xs) (e:ds[i]?=some d):∃x,xs[i]?=some x/\Is K H d x:=mB h.paired e
theorem IsL.get' {K} {i:Nat} (h:IsL K H ds xs) (e:xs[i]?=some x):∃d,ds[i]?=some d/\Is K H d x:=paired_get' h.paired e
def msk (O:Addr->Bool) (H:Hp):Hp:=λb=>if O b=true then none else H b
theorem bv (h:msk O H b=some o):O b=false/\H b=some o:=by
 unfold msk at h;split at h
 ·cases h
 ·rename_i q;exact⟨by simpa using q,h⟩
theorem aS (h:O b=false):msk O H b=H b:=by unfold msk;rw[if_neg (by simp[h])]
theorem msk_le:Same (msk O H) H:=λ_ _ h=>(bv h).2
theorem Same.msk (s:Same H H'):Same (msk O H) (msk O H'):=λb o h=>by
 obtain⟨h1,h2⟩:=bv h;rw[aS h1];exact s b o h2
theorem f9 (h:O a=true):msk O (upd H a o)=msk O H:=by
 funext b;unfold L2.msk;by_cases hb:b=a
 ·subst hb;rw[if_pos h,if_pos h]
 ·rw[au hb]
theorem lS (h:O a=false):msk O (upd H a o)=upd (msk O H) a o:=by
 funext b;by_cases hb:b=a
 ·subst hb;rw[aS h,ar,ar]
 ·rw[au hb];unfold L2.msk;rw[au hb]
theorem Same.new (h:H a=none):Same H (upd H a o):=λb u q=>by rw[au (aH q h)];exact q
theorem Is.full {K} (h:Is K (msk O H) d v):Is K H d v:=Is.mono msk_le d v h
theorem IsL.full {K} (h:IsL K (msk O H) d v):IsL K H d v:=IsL.mono msk_le d v h
abbrev Vv:=List (Option D)
def Hid (o:Option HO):Prop:=(∃xs,o=some (.lst xs))\/(∃C dx fs,o=some (.ins C dx fs))\/∃kvs,o=some (.dK kvs)
theorem Hid.ne (h:Hid o):o≠none:=by
 rcases h with⟨xs,e⟩|⟨C,dx,fs,e⟩|⟨kvs,e⟩<;>rw[e]<;>simp
theorem Hid.same (s:Same H H') (h:Hid (H b)):Hid (H' b):=by
 rcases h with⟨xs,e⟩|⟨C,dx,fs,e⟩|⟨kvs,e⟩
 ·exact .inl ⟨xs,s _ _ e⟩
 ·exact .inr (.inl ⟨C,dx,fs,s _ _ e⟩)
 ·exact .inr (.inr ⟨kvs,s _ _ e⟩)
structure VE (K:Frag) (O:Addr->Bool) (σ:St) (H:Hp) (Y:Vv):Prop where
 lis:∀b,O b=true->Hid (H b)
 len:σ.length=Y.length
 sh:∀ (i:Nat) (d:D),Y[i]?=some (some d)->∃v,σ[i]?=some (some v)/\Is K (msk O H) d v
section
variable {K:Frag} {O:Addr->Bool} {σ:St} {H H':Hp} {Y:Vv}
theorem VE.dom (E:VE K O σ H Y):∀b,O b=true->H b≠none:=λb h=>(E.lis b h).ne
theorem VE.grow (E:VE K O σ H Y) (s:Same H H'):VE K O σ H' Y where
 lis:=λb h=>(E.lis b h).same s
 len:=E.len
 sh:=λi d h=>let⟨v,e,q⟩:=E.sh i d h;⟨v,e,Is.mono s.msk d v q⟩
theorem fL (hd:∀b,O b=true->H b≠none) (h:H p=none):O p=false:=by
 cases e:O p with
 |false=>rfl
 |true=>exact absurd h (hd p e)
theorem VE.fresh (E:VE K O σ H Y) (h:H p=none):O p=false:=fL E.dom h
theorem get_set_some {α:Type} {l:List (Option α)} {x} {y} (h:(l.set i x)[j]?=some (some y)):(j=i/\x=some y)\/(j≠i/\l[j]?=some (some y)):=by
 by_cases hj:i=j
 ·subst hj;rw[List.getElem?_set]at h;simp only[if_true]at h;split at h
  ·exact .inl ⟨rfl,Option.some.inj h⟩
  ·cases h
 ·rw[List.getElem?_set_ne hj]at h;exact .inr ⟨Ne.symm hj,h⟩
theorem oN {α:Type} {l:List (Option α)} {x} {y} (h:(l.set i x)[i]?=some y):i<l.length:=by
 have:=(List.getElem?_eq_some_iff.mp h).1;simpa using this
theorem VE.set (E:VE K O σ H Y) {i:Nat} {d:D} {v:V} (h:Is K (msk O H) d v):VE K O (σ.set i (some v)) H (Y.set i (some d)) where
 lis:=E.lis
 len:=by simpa using E.len
 sh:=λj d' q=>by
  rcases get_set_some q with⟨e,q'⟩|⟨e,q'⟩
  ·cases q';subst e;have hi:j<σ.length:=by rw[E.len];exact oN q
   exact⟨v,by simp[hi],h⟩
  ·obtain⟨v',e',q2⟩:=E.sh j d' q';exact⟨v',by rw[List.getElem?_set_ne (Ne.symm e)];exact e',q2⟩
theorem wipe_iff {σ} {v:α}:(wipe ks σ)[i]?=some (some v)↔σ[i]?=some (some v)/\i ∉ ks:=⟨mx ks σ i v,λh=>rk ks σ i v h.1 h.2⟩
theorem VE.wiped (E:VE K O σ H Y) (ks:List Nat):VE K O (wipe ks σ) H (wipe ks Y) where
 lis:=E.lis
 len:=by rw[jk,jk];exact E.len
 sh:=λi d q=>by
  obtain⟨q1,q2⟩:=wipe_iff.mp q;obtain⟨v,e,r⟩:=E.sh i d q1;exact⟨v,wipe_iff.mpr ⟨e,q2⟩,r⟩
end
def tP (K:Frag) (O:Addr->Bool) (Y:Vv) (o:Option D):TE:=λσ H Q=>VE K O σ H Y/\∃d,o=some d/\∀v H',Same H H'->Is K (msk O H') d v->Q v H'
def tPF (K:Frag) (O:Addr->Bool) (Y:Vv) (o:Option (List D)):TE:=λσ H Q=>VE K O σ H Y/\∃ds,o=some ds/\∀p xs H',Same H H'->H' p=none->IsL K (msk O H') ds xs->Q (.ref p) (upd H' p (.lst xs))
def tPT (K:Frag) (O:Addr->Bool) (Y:Vv) (o:Option Bool):TT:=λσ H Q=>VE K O σ H Y/\∃b,o=some b/\∀H',Same H H'->Q b H'
def tPA (K:Frag) (O:Addr->Bool) (Y:Vv) (o:Option (List D)):TA:=λσ H Q=>VE K O σ H Y/\∃ds,o=some ds/\∀vs H',Same H H'->IsL K (msk O H') ds vs->Q vs H'
def PP (X:Cx) (e:Expr) (f:Vv->Option D):Prop:=∀O Y,PE X e (tP X.K O Y (f Y))
def PF (X:Cx) (e:Expr) (f:Vv->Option (List D)):Prop:=∀O Y,PE X e (tPF X.K O Y (f Y))
def PQ (X:Cx) (e:Expr) (f:Vv->Option Bool):Prop:=∀O Y,PT X e (tPT X.K O Y (f Y))
def PX (X:Cx) (es:List Expr) (f:Vv->Option (List D)):Prop:=∀O Y,PA X es (tPA X.K O Y (f Y))
def dD (Y:Vv) (i:Nat):Option D:=match Y[i]? with
 |some (some d)=>some d
 |_=>none
theorem wU (h:dD Y i=some d):Y[i]?=some (some d):=by
 unfold dD at h;split at h
 ·cases h;assumption
 ·cases h
section
variable {X:Cx} {pos:Pos}
theorem ET (i:Nat) (hN:X.N[i]?=some x:=by rfl) (hv:Vis X.env.scope x:=by first|exact Or.inl rfl|exact Or.inr (Or.inl rfl)|exact Or.inr (Or.inr rfl)) (hd:(x==("__debug__":Str))=false:=by decide) (hcd:(x==("__classdict__":Str))=false:=by decide):PP X (.Name x pos) (λY=>dD Y i):=λO Y=>(cF hN hv hd hcd).imp λσ H Q ⟨E,d,e,k⟩=>by
 obtain⟨v,e1,e2⟩:=E.sh i d (wU e);exact⟨v,e1,k v H (Same.refl _) e2⟩
theorem pp_int:PP X (.Constant (.int i) j pos) (λ_=>some (.int i)):=λO Y=>pe_int.imp λσ H Q ⟨E,d,e,k⟩=>by
 cases e;exact k _ H (Same.refl _) rfl
theorem pp_bl:PP X (.Constant (.bool b) j pos) (λ_=>some (.bl b)):=λO Y=>pe_bl.imp λσ H Q ⟨E,d,e,k⟩=>by
 cases e;exact k _ H (Same.refl _) rfl
theorem pp_non:PP X (.Constant .none j pos) (λ_=>some .non):=λO Y=>pe_non.imp λσ H Q ⟨E,d,e,k⟩=>by
 cases e;exact k _ H (Same.refl _) rfl
theorem pp_str:PP X (.Constant (.str x) j pos) (λ_=>some (.str x)):=λO Y=>pe_str.imp λσ H Q ⟨E,d,e,k⟩=>by
 cases e;exact k _ H (Same.refl _) rfl
theorem Iz (hg:Gl X x) (hm:X.mg x=none) (hv:bootBuiltins x=some (.type n)) (hn:x≠"__name__":=by decide) (hd:(x==("__debug__":Str))=false:=by decide):PP X (.Name x pos) (λ_=>some (.ty n)):=
 λO Y=>(Bu (v:=.ty n) hg hm hv rfl hn hd).imp λσ H Q ⟨E,d,e,k⟩=>by
 cases e;exact k _ H (Same.refl _) rfl
theorem BO (hg:Gl X x) (hm:X.mg x=some u) (r:RelV v u) (h:∀H,Is X.K H d v) (hd:(x==("__debug__":Str))=false:=by decide):PP X (.Name x pos) (λ_=>some d):=
 λO Y=>(uY hg hm r hd).imp λσ H Q ⟨E,d',e,k⟩=>by
 cases e;exact k _ H (Same.refl _) (h _)
def R2D (K:Frag) (r:R2) (g:D->D->Option D):Prop:=∀ (O:Addr->Bool) (H:Hp) (x y:V) (dx dy d:D) (Q:VK),(∀b,O b=true->H b≠none)->Is K (msk O H) dx x->Is K (msk O H) dy y->g dx dy=some d->
 (∀v H',Same H H'->Is K (msk O H') d v->Q v H')->r x y H Q
def ac (g:D->D->Option D) (fa fb:Vv->Option D):Vv->Option D:=λY=>(fa Y).bind λx=>(fb Y).bind λy=>g x y
theorem bind_some {α β:Type} {o} {f:α->Option β} {b} (h:o.bind f=some b):∃a,o=some a/\f a=some b:=by
 cases o with
 |none=>cases h
 |some a=>exact⟨a,rfl,h⟩
theorem lT (hr:R2D X.K r g) (h:tP X.K O Y (ac g fa fb Y) σ H Q):
  tOp r (tP X.K O Y (fa Y)) (tP X.K O Y (fb Y)) σ H Q:=by
 obtain⟨E,d,e,k⟩:=h
 obtain⟨dx,e1,e⟩:=bind_some e
 obtain⟨dy,e2,e3⟩:=bind_some e
 refine⟨E,dx,e1,λx H1 s1 i1=>⟨E.grow s1,dy,e2,λy H2 s2 i2=>?_⟩⟩
 exact hr O H2 x y dx dy d Q (E.grow (s1.trans s2)).dom (Is.mono s2.msk dx x i1) i2 e3 λv H' s3 i3=>k v H' (s1.trans (s2.trans s3)) i3
theorem kU (ho:OpR X (binaryOp op) r) (hr:R2D X.K r g) (ha:PP X a fa) (hb:PP X b fb):PP X (.BinOp a op b pos) (ac g fa fb):=
 λO Y=>(xS ho (ha O Y) (hb O Y)).imp λσ H Q h=>lT hr h
theorem pp_cmp (ho:OpR X (compareOp op) r) (hr:R2D X.K r g) (ha:PP X a fa) (hb:PP X b fb) (hm:behindInMarks op b=false):PP X (.Compare a [op] [b] pos) (ac g fa fb):=
 λO Y=>(Bx ho (ha O Y) (hb O Y) hm).imp λσ H Q h=>lT hr h
def D.asB:D->Option Bool
 |.bl b=>some b
 |_=>none
theorem asB_some {d:D} (h:d.asB=some b):d=.bl b:=by
 cases d<;>first|(cases h;rfl)|cases h
def aD (f:Vv->Option D):Vv->Option Bool:=λY=>(f Y).bind D.asB
theorem pq_cmp (ho:OpR X (compareOp op) r) (hr:R2D X.K r g) (ha:PP X a fa) (hb:PP X b fb) (hm:behindInMarks op b=false):PQ X (.Compare a [op] [b] pos) (aD (ac g fa fb)):=
 λO Y=>(By ho (ha O Y) (hb O Y) hm).imp λσ H Q h=>by
 obtain⟨E,b,e,k⟩:=h
 obtain⟨d,e1,e2⟩:=bind_some e
 cases asB_some e2
 refine lT hr ⟨E,.bl b,e1,λv H' s i=>?_⟩
 cases(i)
 exact⟨b,rfl,k H' s⟩
def cG (g g':D->D->Option D) (fa fb fc:Vv->Option D):Vv->Option D:=λY=>(fa Y).bind λx=>(fb Y).bind λy=>(g x y).bind λz=>z.asB.bind λk=>if k=true then(fc Y).bind λw=>g' y w else some (.bl false)
theorem oO (hr:R2D X.K r g) (hr':R2D X.K r' g') (h:tP X.K O Y (cG g g' fa fb fc Y) σ H Q):
  tw r r' (tP X.K O Y (fa Y)) (tP X.K O Y (fb Y)) (tP X.K O Y (fc Y)) σ H Q:=by
 obtain⟨E,d,ea,k⟩:=h
 obtain⟨dx,e1,eb⟩:=bind_some ea
 obtain⟨dy,e2,ec⟩:=bind_some eb
 obtain⟨dz,e3,ed⟩:=bind_some ec
 obtain⟨b,e4,e⟩:=bind_some ed
 clear ea eb ec ed
 cases asB_some e4
 refine⟨E,dx,e1,λx H1 s1 i1=>⟨E.grow s1,dy,e2,λy H2 s2 i2=>?_⟩⟩
 refine hr O H2 x y dx dy _ _ (E.grow (s1.trans s2)).dom (Is.mono s2.msk dx x i1) i2 e3 λv H3 s3 i3=>⟨b,i3,?_⟩
 cases b with
 |true=>
  obtain⟨dw,e5,e6⟩:=bind_some e;refine⟨E.grow (s1.trans (s2.trans s3)),dw,e5,λw' H4 s4 i4=>?_⟩;exact hr' O H4 y w' dy dw d Q (E.grow (s1.trans (s2.trans (s3.trans s4)))).dom (Is.mono (s3.trans s4).msk dy y i2) i4 e6 λv' H5 s5 i5=>k v' H5 (s1.trans (s2.trans (s3.trans (s4.trans s5)))) i5
 |false=>
  cases e;exact k _ H3 (s1.trans (s2.trans s3)) rfl
theorem ym (ho:OpR X (compareOp op) r) (ho':OpR X (compareOp op') r') (hr:R2D X.K r g) (hr':R2D X.K r' g') (ha:PP X a fa) (hb:PP X b fb) (hc:PP X c fc) (hm:lastMarks [op,op'] [b,c]=false:=by with_unfolding_all rfl):PP X (.Compare a [op,op'] [b,c] pos) (cG g g' fa fb fc):=λO Y=>(xV ho ho' (ha O Y) (hb O Y) (hc O Y) hm).imp λσ H Q h=>oO hr hr' h
theorem rB (ho:OpR X (compareOp op) r) (ho':OpR X (compareOp op') r') (hr:R2D X.K r g) (hr':R2D X.K r' g') (ha:PP X a fa) (hb:PP X b fb) (hc:PP X c fc) (hm:lastMarks [op,op'] [b,c]=false:=by with_unfolding_all rfl):PQ X (.Compare a [op,op'] [b,c] pos) (aD (cG g g' fa fb fc)):=λO Y=>(xW ho ho' (ha O Y) (hb O Y) (hc O Y) hm).imp λσ H Q h=>by
 obtain⟨E,b,e,k⟩:=h;obtain⟨d,e1,e2⟩:=bind_some e;cases asB_some e2;refine oO hr hr' ⟨E,.bl b,e1,λv H' s i=>?_⟩;cases(i);exact⟨b,rfl,k H' s⟩
def IA:D->D->Option D
 |.int i,.int j=>some (.int (i+j))
 |_,_=>none
def ga:D->D->Option D
 |.int i,.int j=>some (.int (i-j))
 |_,_=>none
instance (i j:Int):Decidable (CMul i j):=Classical.propDecidable _
instance (i j:Int):Decidable (wM i j):=Classical.propDecidable _
instance (i j:Int):Decidable (pL i j):=Classical.propDecidable _
def cq:D->D->Option D
 |.int i,.int j=>if CMul i j then some (.int (i*j))else none
 |_,_=>none
def cV:D->D->Option D
 |.int i,.int j=>if wM i j then some (.int (i/j))else none
 |_,_=>none
def bA:D->D->Option D
 |.int i,.int j=>if 0<j then some (.int (i%j))else none
 |_,_=>none
def EU:D->D->Option D
 |.int i,.int j=>if pL i j then some (.int (i^j.toNat))else none
 |_,_=>none
def EV:D->D->Option D
 |.int i,.int j=>if pL i j then some (.int (i*2^j.toNat))else none
 |_,_=>none
def dZ:List D->Option (List Int)
 |[]=>some []
 |.int i::ds=>(dZ ds).bind λxs=>some (i::xs)
 |_::_=>none
def ltI:D->D->Option D
 |.int i,.int j=>some (.bl (decide (i<j)))
 |_,_=>none
def ltT:D->D->Option D
 |.tup ds,.tup es=>(dZ ds).bind λxs=>(dZ es).bind λys=>some (.bl (HT.lexLt xs ys))
 |_,_=>none
def ltD (x y:D):Option D:=match ltI x y with
 |some d=>some d
 |none=>ltT x y
def leD:D->D->Option D
 |.int i,.int j=>some (.bl (decide (i<=j)))
 |_,_=>none
def gtD:D->D->Option D
 |.int i,.int j=>some (.bl (decide (j<i)))
 |_,_=>none
def geD:D->D->Option D
 |.int i,.int j=>some (.bl (decide (j<=i)))
 |_,_=>none
theorem vd {K} {g:Int->Int->Int} (hf:∀x y d,f x y=some d->∃i j,x=.int i/\y=.int j/\d=.int (g i j)):R2D K (rI0 λi j=>.int (g i j)) f:=λO H x y dx dy d Q _ ix iy e k=>by
 obtain⟨i,j,rfl,rfl,rfl⟩:=hf dx dy d e;exact⟨i,j,ix,iy,k _ H (Same.refl _) rfl⟩
theorem jo {K} {g:Int->Int->Bool} (hf:∀x y d,f x y=some d->∃i j,x=.int i/\y=.int j/\d=.bl (g i j)):R2D K (rI0 λi j=>.bl (g i j)) f:=λO H x y dx dy d Q _ ix iy e k=>by
 obtain⟨i,j,rfl,rfl,rfl⟩:=hf dx dy d e;exact⟨i,j,ix,iy,k _ H (Same.refl _) rfl⟩
theorem jp {K} {g:Int->Int->Int} (hf:∀x y d,f x y=some d->∃i j,x=.int i/\y=.int j/\C i j/\d=.int (g i j)):R2D K (rI C λi j=>.int (g i j)) f:=λO H x y dx dy d Q _ ix iy e k=>by
 obtain⟨i,j,rfl,rfl,hc,rfl⟩:=hf dx dy d e;exact⟨i,j,ix,iy,hc,k _ H (Same.refl _) rfl⟩
theorem d7 {f:Int->Int->Option D} {x y d:D} (h:(match x,y with|.int i,.int j=>f i j|_,_=>none)=some d):∃i j,x=.int i/\y=.int j/\f i j=some d:=by
 cases x<;>cases y<;>first|exact⟨_,_,rfl,rfl,h⟩|cases h
theorem IB {K}:R2D K (rI0 λi j=>.int (i+j)) IA:=vd λx y d e=>by
 obtain⟨i,j,h1,h2,e⟩:=d7 e;cases e;exact⟨_,_,h1,h2,rfl⟩
theorem IC {K}:R2D K (rI0 λi j=>.int (i-j)) ga:=vd λx y d e=>by
 obtain⟨i,j,h1,h2,e⟩:=d7 e;cases e;exact⟨_,_,h1,h2,rfl⟩
theorem ax {α:Type} [Decidable c] {a b:α} (h:(if c then some a else none)=some b):c/\a=b:=by
 split at h
 ·exact⟨by assumption,Option.some.inj h⟩
 ·cases h
theorem ID {K}:R2D K (rI CMul λi j=>.int (i*j)) cq:=jp λx y d e=>by
 obtain⟨i,j,h1,h2,e⟩:=d7 e;obtain⟨c,e⟩:=ax e;cases e;exact⟨_,_,h1,h2,c,rfl⟩
theorem IE {K}:R2D K (rI wM λi j=>.int (i/j)) cV:=jp λx y d e=>by
 obtain⟨i,j,h1,h2,e⟩:=d7 (f:=λi j=>if wM i j then some (.int (i/j))else none) e;obtain⟨c,e⟩:=ax e;cases e;exact⟨_,_,h1,h2,c,rfl⟩
theorem IF {K}:R2D K (rI (λ_ j=>0<j) λi j=>.int (i%j)) bA:=jp λx y d e=>by
 obtain⟨i,j,h1,h2,e⟩:=d7 e;obtain⟨c,e⟩:=ax e;cases e;exact⟨_,_,h1,h2,c,rfl⟩
theorem IG {K}:R2D K (rI pL λi j=>.int (i^j.toNat)) EU:=jp λx y d e=>by
 obtain⟨i,j,h1,h2,e⟩:=d7 (f:=λi j=>if pL i j then some (.int (i^j.toNat))else none) e;obtain⟨c,e⟩:=ax e;cases e;exact⟨_,_,h1,h2,c,rfl⟩
theorem IH {K}:R2D K (rI pL λi j=>.int (i*2^j.toNat)) EV:=jp λx y d e=>by
 obtain⟨i,j,h1,h2,e⟩:=d7 (f:=λi j=>if pL i j then some (.int (i*2^j.toNat))else none) e;obtain⟨c,e⟩:=ax e;cases e;exact⟨_,_,h1,h2,c,rfl⟩
theorem r_ltI {K}:R2D K (rI0 λi j=>.bl (decide (i<j))) ltI:=jo λx y d e=>by
 obtain⟨i,j,h1,h2,e⟩:=d7 e;cases e;exact⟨_,_,h1,h2,rfl⟩
theorem tU {K}:R2D K (rI0 λi j=>.bl (decide (i<=j))) leD:=jo λx y d e=>by
 obtain⟨i,j,h1,h2,e⟩:=d7 e;cases e;exact⟨_,_,h1,h2,rfl⟩
theorem II {K}:R2D K (rI0 λi j=>.bl (decide (j<i))) gtD:=jo λx y d e=>by
 obtain⟨i,j,h1,h2,e⟩:=d7 (f:=λi j=>some (.bl (decide (j<i)))) e;cases e;exact⟨_,_,h1,h2,rfl⟩
theorem IJ {K}:R2D K (rI0 λi j=>.bl (decide (j<=i))) geD:=jo λx y d e=>by
 obtain⟨i,j,h1,h2,e⟩:=d7 e;cases e;exact⟨_,_,h1,h2,rfl⟩
theorem fM {K}:∀ {ds:List D} {ns:List Int} {xs:List V},dZ ds=some ns->IsL K H ds xs->xs=ns.map V.int
 |[],ns,xs,e,h=>by cases e;exact h
 |.int i::ds,ns,xs,e,⟨x,r,e1,h1,l⟩=>by
  obtain⟨ms,e2,e3⟩:=bind_some (show(dZ ds).bind (λxs=>some (i::xs))=some ns from e);cases e3;cases(show x=.int i from h1);rw[e1,fM e2 l];rfl
theorem EW {K}:R2D K (λx y H Q=>rI0 (λi j=>.bl (decide (i<j))) x y H Q\/Ir K x y H Q) ltD:=λO H x y dx dy d Q hd ix iy e k=>by
 unfold ltD at e;cases h:ltI dx dy with
 |some z=>rw[h]at e;cases e;exact .inl (r_ltI O H x y dx dy _ Q hd ix iy h k)
 |none=>
  rw[h]at e;have e:ltT dx dy=some d:=e;unfold ltT at e;split at e
  ·obtain⟨ns,e1,e⟩:=bind_some e;obtain⟨ms,e2,e⟩:=bind_some e;cases e;obtain⟨a,xs,rfl,t1,l1⟩:=ix;obtain⟨b,ys,rfl,t2,l2⟩:=iy;rw[fM e1 l1]at t1;rw[fM e2 l2]at t2;exact .inr ⟨a,b,ns,ms,rfl,rfl,msk_le.seqT t1,msk_le.seqT t2,k _ H (Same.refl _) rfl⟩
  ·cases e
theorem BP (ha:PP X a fa) (hb:PP X b fb):PP X (.BinOp a .Add b pos) (ac IA fa fb):=kU Ez IB ha hb
theorem EX (ha:PP X a fa) (hb:PP X b fb):PP X (.BinOp a .Sub b pos) (ac ga fa fb):=kU EA IC ha hb
theorem EY (ha:PP X a fa) (hb:PP X b fb):PP X (.BinOp a .Mult b pos) (ac cq fa fb):=kU EB ID ha hb
theorem EZ (ha:PP X a fa) (hb:PP X b fb):PP X (.BinOp a .FloorDiv b pos) (ac cV fa fb):=kU Bw IE ha hb
theorem E7 (ha:PP X a fa) (hb:PP X b fb):PP X (.BinOp a .Mod b pos) (ac bA fa fb):=kU EC IF ha hb
theorem E8 (ha:PP X a fa) (hb:PP X b fb):PP X (.BinOp a .Pow b pos) (ac EU fa fb):=kU ED IG ha hb
theorem E9 (ha:PP X a fa) (hb:PP X b fb):PP X (.BinOp a .LShift b pos) (ac EV fa fb):=kU EF IH ha hb
theorem IK (hu:X.A.units<cLine) (ha:PP X a fa) (hb:PP X b fb):PP X (.Compare a [.Lt] [b] pos) (ac ltD fa fb):=pp_cmp (op_lt.or (tN hu)) EW ha hb (dC _)
theorem IL (ha:PP X a fa) (hb:PP X b fb):PP X (.Compare a [.LtE] [b] pos) (ac leD fa fb):=pp_cmp l9 tU ha hb (dC _)
theorem IM (ha:PP X a fa) (hb:PP X b fb):PP X (.Compare a [.Gt] [b] pos) (ac gtD fa fb):=pp_cmp DH II ha hb (dC _)
theorem IN (ha:PP X a fa) (hb:PP X b fb):PP X (.Compare a [.GtE] [b] pos) (ac geD fa fb):=pp_cmp DI IJ ha hb (dC _)
theorem IP (hu:X.A.units<cLine) (ha:PP X a fa) (hb:PP X b fb):PQ X (.Compare a [.Lt] [b] pos) (aD (ac ltD fa fb)):=pq_cmp (op_lt.or (tN hu)) EW ha hb (dC _)
theorem IQ (ha:PP X a fa) (hb:PP X b fb):PQ X (.Compare a [.LtE] [b] pos) (aD (ac leD fa fb)):=pq_cmp l9 tU ha hb (dC _)
theorem IR (ha:PP X a fa) (hb:PP X b fb):PQ X (.Compare a [.Gt] [b] pos) (aD (ac gtD fa fb)):=pq_cmp DH II ha hb (dC _)
theorem IS (ha:PP X a fa) (hb:PP X b fb):PQ X (.Compare a [.GtE] [b] pos) (aD (ac geD fa fb)):=pq_cmp DI IJ ha hb (dC _)
theorem pp_lele (ha:PP X a fa) (hb:PP X b fb) (hc:PP X c fc) (hm:lastMarks [.LtE,.LtE] [b,c]=false:=by with_unfolding_all rfl):PP X (.Compare a [.LtE,.LtE] [b,c] pos) (cG leD leD fa fb fc):=ym l9 l9 tU tU ha hb hc hm
theorem pq_lele (ha:PP X a fa) (hb:PP X b fb) (hc:PP X c fc) (hm:lastMarks [.LtE,.LtE] [b,c]=false:=by with_unfolding_all rfl):PQ X (.Compare a [.LtE,.LtE] [b,c] pos) (aD (cG leD leD fa fb fc)):=rB l9 l9 tU tU ha hb hc hm
theorem pq_lelt (hu:X.A.units<cLine) (ha:PP X a fa) (hb:PP X b fb) (hc:PP X c fc) (hm:lastMarks [.LtE,.Lt] [b,c]=false):PQ X (.Compare a [.LtE,.Lt] [b,c] pos) (aD (cG leD ltD fa fb fc)):=rB l9 (op_lt.or (tN hu)) tU EW ha hb hc hm
def lB (fa fb:Vv->Option D):Vv->Option D:=λY=>(fa Y).bind λx=>x.asB.bind λc=>if c=true then fb Y else some (.bl false)
def orF (fa fb:Vv->Option D):Vv->Option D:=λY=>(fa Y).bind λx=>x.asB.bind λc=>if c=true then some (.bl true)else fb Y
def BQ (fa:Vv->Option D):Vv->Option D:=λY=>(fa Y).bind λx=>x.asB.bind λc=>some (.bl (!c))
def nU (fa fb:Vv->Option Bool):Vv->Option Bool:=λY=>(fa Y).bind λc=>if c=true then fb Y else some false
def orQ (fa fb:Vv->Option Bool):Vv->Option Bool:=λY=>(fa Y).bind λc=>if c=true then some true else fb Y
def bP (fa:Vv->Option Bool):Vv->Option Bool:=λY=>(fa Y).map (!·)
def ifF (fc:Vv->Option Bool) (fa fb:Vv->Option D):Vv->Option D:=λY=>(fc Y).bind λc=>if c=true then fa Y else fb Y
variable {a b c:Expr} {rest:List Expr}
theorem Fa (h:PP X a f):PP X (.BoolOp op [a] pos) f:=λO Y=>Er (h O Y)
theorem Fb (ha:PP X a fa) (hb:PP X (.BoolOp .And (b::rest) pos) fb):PP X (.BoolOp .And (a::b::rest) pos) (lB fa fb):=λO Y=>(Es (ha O Y) (hb O Y)).imp λσ H Q ⟨E,d,e,k⟩=>by
 obtain⟨dx,e1,eb⟩:=bind_some e;obtain⟨c,e2,ec⟩:=bind_some eb;clear e eb;have e:=ec;cases asB_some e2;refine⟨E,_,e1,λv H1 s1 i1=>⟨c,i1,?_⟩⟩;cases c with
 |true=>rw[if_pos rfl]at e⊢;exact⟨E.grow s1,d,e,λv' H2 s2 i2=>k v' H2 (s1.trans s2) i2⟩
 |false=>rw[if_neg Bool.false_ne_true]at e⊢;cases e;exact k _ H1 s1 rfl
theorem IT (ha:PP X a fa) (hb:PP X (.BoolOp .Or (b::rest) pos) fb):PP X (.BoolOp .Or (a::b::rest) pos) (orF fa fb):=λO Y=>(HW (ha O Y) (hb O Y)).imp λσ H Q ⟨E,d,e,k⟩=>by
 obtain⟨dx,e1,eb⟩:=bind_some e;obtain⟨c,e2,ec⟩:=bind_some eb;clear e eb;have e:=ec;clear ec;cases asB_some e2;refine⟨E,_,e1,λv H1 s1 i1=>⟨c,i1,?_⟩⟩;cases c with
 |true=>rw[if_pos rfl]at e⊢;cases e;exact k _ H1 s1 rfl
 |false=>rw[if_neg Bool.false_ne_true]at e⊢;exact⟨E.grow s1,d,e,λv' H2 s2 i2=>k v' H2 (s1.trans s2) i2⟩
theorem Fc (ha:PP X a fa):PP X (.UnaryOp .Not a pos) (BQ fa):=λO Y=>(Et (ha O Y)).imp λσ H Q ⟨E,d,e,k⟩=>by
 obtain⟨dx,e1,eb⟩:=bind_some e;obtain⟨c,e2,ec⟩:=bind_some eb;have e:=ec;cases asB_some e2;cases e;exact⟨E,_,e1,λv H1 s1 i1=>⟨c,i1,k _ H1 s1 rfl⟩⟩
def PWQ (X:Cx) (e:Expr) (f:Vv->Option Bool):Prop:=∀O Y,PW X e (tPT X.K O Y (f Y))
theorem PWQ.pq (h:PWQ X a f):PQ X a f:=λO Y=>(h O Y).pt
theorem PW.imp (h:PW X e t) (k:∀σ H Q,t' σ H Q->t σ H Q):PW X e t':=λwh pins s σ H Q I q=>h wh pins s σ H Q I (k _ _ _ q)
theorem pw_and1D (h:PQ X a f):PWQ X (.BoolOp .And [a] pos) f:=λO Y=>pw_and1 (h O Y)
theorem pw_or1D (h:PQ X a f):PWQ X (.BoolOp .Or [a] pos) f:=λO Y=>pw_or1 (h O Y)
theorem pw_andD (ha:PQ X a fa) (hb:PWQ X (.BoolOp .And (b::rest) pos) fb):PWQ X (.BoolOp .And (a::b::rest) pos) (nU fa fb):=λO Y=>(pw_and (ha O Y) (hb O Y)).imp λσ H Q ⟨E,d,e,k⟩=>by
 obtain⟨c,e1,eb⟩:=bind_some e;have e:=eb;refine⟨E,c,e1,λH1 s1=>?_⟩;cases c with
 |true=>rw[if_pos rfl]at e⊢;exact⟨E.grow s1,d,e,λH2 s2=>k H2 (s1.trans s2)⟩
 |false=>rw[if_neg Bool.false_ne_true]at e⊢;cases e;exact k H1 s1
theorem pw_orD (ha:PQ X a fa) (hb:PWQ X (.BoolOp .Or (b::rest) pos) fb):PWQ X (.BoolOp .Or (a::b::rest) pos) (orQ fa fb):=λO Y=>(pw_or (ha O Y) (hb O Y)).imp λσ H Q ⟨E,d,e,k⟩=>by
 obtain⟨c,e1,eb⟩:=bind_some e;have e:=eb;refine⟨E,c,e1,λH1 s1=>?_⟩;cases c with
 |true=>rw[if_pos rfl]at e⊢;cases e;exact k H1 s1
 |false=>rw[if_neg Bool.false_ne_true]at e⊢;exact⟨E.grow s1,d,e,λH2 s2=>k H2 (s1.trans s2)⟩
theorem Fd (ha:PQ X a fa):PQ X (.UnaryOp .Not a pos) (bP fa):=λO Y=>(Ep (ha O Y)).imp λσ H Q ⟨E,d,e,k⟩=>by
 unfold bP at e;cases q:fa Y with
 |none=>rw[q]at e;cases e
 |some c=>rw[q]at e;cases e;exact⟨E,c,rfl,λH1 s1=>k H1 s1⟩
theorem IU (hc:PQ X c fc) (ha:PP X a fa) (hb:PP X b fb):PP X (.IfExp c a b pos) (ifF fc fa fb):=λO Y=>(xN (hc O Y) (ha O Y) (hb O Y)).imp λσ H Q ⟨E,d,e,k⟩=>by
 obtain⟨c,e1,eb⟩:=bind_some e;have e:=eb;refine⟨E,c,e1,λH1 s1=>?_⟩;cases c with
 |true=>rw[if_pos rfl]at e⊢;exact⟨E.grow s1,d,e,λv' H2 s2 i2=>k v' H2 (s1.trans s2) i2⟩
 |false=>rw[if_neg Bool.false_ne_true]at e⊢;exact⟨E.grow s1,d,e,λv' H2 s2 i2=>k v' H2 (s1.trans s2) i2⟩
def rC:D->Option Bool
 |.bl b=>some b
 |.int i=>some (i !=0)
 |.non=>some false
 |.lst ds=>some (!ds.isEmpty)
 |.tup ds=>some (!ds.isEmpty)
 |_=>none
theorem kW {α β:Type} {a:List α} {b:List β} (h:a.length=b.length):a.isEmpty=b.isEmpty:=by
 cases a<;>cases b<;>first|rfl|simp at h
theorem pq_val (h:PP X a f) (he:∀whole,isTrue a X.env whole=(do let v<-whole;standAt a.pos;holding [v] (truthy v)):=by intro _;rfl):PQ X a (λY=>(f Y).bind rC):=λO Y=>(xX (h O Y) he).imp λσ H Q ⟨E,b,e,k⟩=>by
 obtain⟨d,e1,e⟩:=bind_some e;refine⟨E,d,e1,λv H1 s1 i1=>⟨b,?_,k H1 s1⟩⟩;cases d with
 |bl c=>cases e;cases(i1);rfl
 |int i=>cases e;cases(i1);rfl
 |non=>cases e;cases(i1);rfl
 |lst ds=>
  cases e;obtain⟨p,xs,rfl,q,l⟩:=i1;exact .inl ⟨xs,msk_le.seq q,by rw[kW l.len]⟩
 |tup ds=>
  cases e;obtain⟨p,xs,rfl,q,l⟩:=i1;exact .inr (.inl ⟨xs,msk_le.seqT q,by rw[kW l.len]⟩)
 |_=>cases e
end
def big:Nat:=16777216
theorem gb:sizeLine=big:=sizeLine_eq
section
variable {X:Cx} {pos:Pos} {a b c e:Expr} {es:List Expr}
theorem Fe:PX X [] (λ_=>some []):=λO Y=>pa_nil.imp λσ H Q ⟨E,ds,e,k⟩=>by
 cases e;exact k [] H (Same.refl _) rfl
def aa (f:Vv->Option D) (g:Vv->Option (List D)):Vv->Option (List D):=λY=>(f Y).bind λd=>(g Y).bind λr=>some (d::r)
theorem px_cons (h:PP X e f) (hr:PX X es g) (hs:starEach (e::es) X.env=(false,eval e X.env)::starEach es X.env:=by rfl):PX X (e::es) (aa f g):=
 λO Y=>(bx (h O Y) (hr O Y) hs).imp λσ H Q ⟨E,ds,q,k⟩=>by
 obtain⟨d,e1,q⟩:=bind_some q
 obtain⟨r,e2,q⟩:=bind_some q
 cases q
 exact⟨E,d,e1,λv H1 s1 i1=>⟨E.grow s1,r,e2,λvs H2 s2 i2=>k _ H2 (s1.trans s2) ⟨v,vs,rfl,Is.mono s2.msk d v i1,i2⟩⟩⟩
def bZ (o:Option (List D)):Option (List D):=o.bind λds=>if ds.length<big then some ds else none
theorem da (h:bZ o=some ds):o=some ds/\ds.length<sizeLine:=by
 obtain⟨d,e1,e2⟩:=bind_some h;obtain⟨h1,h2⟩:=ax e2;subst h2;exact⟨e1,by rw[gb];exact h1⟩
theorem Ff {x1} (h:PX X es g):PP X (.Tuple es x1 pos) (λY=>(bZ (g Y)).bind λds=>some (.tup ds)):=λO Y=>(tH (h O Y)).imp λσ H Q ⟨E,d,q,k⟩=>by
 obtain⟨ds,z,q2⟩:=bind_some q;cases q2;obtain⟨e1,e2⟩:=da z;refine⟨E,ds,e1,λvs H1 s1 l=>⟨by rw[<-l.len];exact Nat.le_of_lt e2,λp hp=>?_⟩⟩;have hO:=(E.grow s1).fresh hp;have le:Same (msk O H1) (msk O (upd H1 p (.tup vs))):=by rw[lS hO];exact Same.new (by rw[aS hO];exact hp)
 exact k _ _ (s1.trans (Same.new hp)) ⟨p,vs,rfl,.of (by rw[aS hO,ar]),IsL.mono le _ _ l⟩
theorem Fg (h:PX X es g):PF X (.List es pos) (λY=>bZ (g Y)):=λO Y=>(x6 (h O Y)).imp λσ H Q ⟨E,ds,q,k⟩=>by
 obtain⟨e1,e2⟩:=da q;exact⟨E,ds,e1,λvs H1 s1 l=>⟨by rw[<-l.len];exact Nat.le_of_lt e2,λp hp=>k p vs H1 s1 hp l⟩⟩
def BR:D->Option Key
 |.int i=>some (.inl i)
 |.str x=>some (.inr x)
 |_=>none
theorem ve {K} (e:BR d=some k) (h:Is K H d v):v=kV k:=by
 cases d with
 |int i=>cases e;exact h
 |str x=>cases e;exact h
 |_=>cases e
def rD:List Key->List D->Key->Option D
 |k::ks,d::ds,j=>if k=j then some d else rD ks ds j
 |_,_,_=>none
theorem valD_val {K}:∀ {kvs:List (Key×V)} {ds:List D},IsL K H ds (kvs.map (·.2))->(rD (kvs.map (·.1)) ds j=none/\iC kvs j=none)\/∃d v,rD (kvs.map (·.1)) ds j=some d/\iC kvs j=some v/\Is K H d v
 |[],ds,_=>.inl ⟨by cases ds<;>rfl,rfl⟩
 |p::r,[],h=>by cases(show(p::r).map (·.2)=[]from h)
 |p::r,d::ds,⟨x,t,z,h,l⟩=>by
  have z':p.2::r.map (·.2)=x::t:=z;cases z';show((if p.1=j then some d else rD (r.map (·.1)) ds j)=none/\_)\/∃d' v,(if p.1=j then some d else rD (r.map (·.1)) ds j)=some d'/\_;by_cases e:p.1=j
  ·rw[if_pos e,jm e];exact .inr ⟨d,p.2,rfl,rfl,h⟩
  ·rw[if_neg e,jn e];exact valD_val l
def IV:R2:=λx y H Q=>∃p kvs k v,x=.ref p/\y=kV k/\H p=some (.dK kvs)/\iC kvs k=some v/\Q v H
theorem BS:IxR X IV:=by
 intro value slice pins s σ H x y v u Q I rx ry h hs;obtain⟨p,kvs,k,z,rfl,rfl,e,l,q⟩:=h;cases rx;obtain⟨_,hd,vs,rel,dd⟩:=DQ I.hok e;obtain⟨w',hw,rw'⟩:=RelO.some_of (v:=z) (o:=valueAt vs k) (by rw[<-l];exact rel.val k);exact tail_any dd.typeIs PySem.F.slot_dict_getitem.lookup (wpAny_getItem_of (DO ry) dd.mapOf hw ⟨z,H,I.tok _,rw',q⟩) hs
def ixD:D->D->Option D
 |.lst ds,.int i=>atI ds i
 |.tup ds,.int i=>atI ds i
 |.dct ks ds,e=>(BR e).bind (rD ks ds)
 |_,_=>none
theorem vf {xs:List β} {d:α} (hl:ds.length=xs.length) (h:atI ds i=some d):∃j:Nat,ds[j]?=some d/\atI xs i=xs[j]?:=by
 obtain⟨j,e1,e2⟩:=bind_some h;refine⟨j,e2,?_⟩;show(ixN xs.length i).bind _=_;rw[<-hl,e1];rfl
theorem Lu {K}:R2D K (λx y H Q=>rIx K x y H Q\/IV x y H Q) ixD:=λO H x y dx dy d Q hd ix iy e k=>by
 cases dx with
 |lst ds=>
  cases dy with
  |int i=>
   obtain⟨p,xs,rfl,q,l⟩:=ix;cases(show y=.int i from iy);obtain⟨j,e1,e2⟩:=vf l.len (show atI ds i=some d from e);obtain⟨v,e3,iv⟩:=l.get e1;exact .inl (.inl ⟨p,xs,i,v,rfl,rfl,msk_le.seq q,e2.trans e3,k v H (Same.refl _) iv⟩)
  |_=>cases e
 |tup ds=>
  cases dy with
  |int i=>
   obtain⟨p,xs,rfl,q,l⟩:=ix;cases(show y=.int i from iy);obtain⟨j,e1,e2⟩:=vf l.len (show atI ds i=some d from e);obtain⟨v,e3,iv⟩:=l.get e1;exact .inl (.inr (.inl ⟨p,xs,i,v,rfl,rfl,msk_le.seqT q,e2.trans e3,k v H (Same.refl _) iv⟩))
  |_=>cases e
 |dct ks ds=>
  obtain⟨p,kvs,rfl,q,rfl,l⟩:=ix;obtain⟨j,e1,e2⟩:=bind_some (show(BR dy).bind _=some d from e);rcases valD_val (j:=j) l with⟨z,_⟩|⟨d',v,z,hv,iv⟩
  ·rw[z]at e2;cases e2
  ·rw[z]at e2;cases e2;exact .inr ⟨p,kvs,j,v,rfl,ve e1 iy,msk_le _ _ q,hv,k v H (Same.refl _) iv⟩
 |_=>cases e
theorem pp_ix (ha:PP X a fa) (hb:PP X b fb) (hs:dN b:=by exactλ_ _=>rfl):PP X (.Subscript a b pos) (ac ixD fa fb):=λO Y=>(oI (ix_seq.or BS) (ha O Y) (hb O Y) hs).imp λσ H Q h=>lT Lu h
def RnD (K:Frag) (r:List V->Hp->VK->Prop) (g:List D->Option D):Prop:=∀ (O:Addr->Bool) (H:Hp) (xs:List V) (ds:List D) (d:D) (Q:VK),(∀b,O b=true->H b≠none)->IsL K (msk O H) ds xs->g ds=some d->
 (∀v H',Same H H'->Is K (msk O H') d v->Q v H')->r xs H Q
variable {x:Str} {p:Pos} {bid T:String} {r:List V->Hp->VK->Prop} {g:List D->Option D} {fa:Vv->Option (List D)}
theorem pp_callB (hc:dM X (.builtin bid) r) (hr:RnD X.K r g) (hg:Gl X x) (hm:X.mg x=none) (hv:bootBuiltins x=some (.builtin bid)) (ha:PX X (e::es) fa) (hn:x≠"__name__":=by decide) (hdb:(x==("__debug__":Str))=false:=by decide)
  (he:starEach (e::es) X.env=(false,eval e X.env)::starEach es X.env:=by rfl) (hpl:(backTo pos (starEach es X.env)).any (·.1)=false:=by rfl):PP X (.Call (.Name x p) (e::es) [] pos) (λY=>(fa Y).bind g):=
 λO Y=>(jh hc hg hm hv (ha O Y) hn hdb he hpl).imp λσ H Q ⟨E,d,q,k⟩=>by
 obtain⟨ds,e1,q⟩:=bind_some q
 exact⟨E,ds,e1,λvs H1 s1 l=>hr O H1 vs ds d Q (E.grow s1).dom l q λv H2 s2 i2=>k v H2 (s1.trans s2) i2⟩
theorem pp_callTy (hc:dM X (.type T) r) (hr:RnD X.K r g) (hg:Gl X x) (hm:X.mg x=none) (hv:bootBuiltins x=some (.type T)) (ha:PX X (e::es) fa) (hn:x≠"__name__":=by decide) (hdb:(x==("__debug__":Str))=false:=by decide)
  (he:starEach (e::es) X.env=(false,eval e X.env)::starEach es X.env:=by rfl) (hpl:(backTo pos (starEach es X.env)).any (·.1)=false:=by rfl):PP X (.Call (.Name x p) (e::es) [] pos) (λY=>(fa Y).bind g):=
 λO Y=>(oH hc hg hm hv (ha O Y) hn hdb he hpl).imp λσ H Q ⟨E,d,q,k⟩=>by
 obtain⟨ds,e1,q⟩:=bind_some q
 exact⟨E,ds,e1,λvs H1 s1 l=>hr O H1 vs ds d Q (E.grow s1).dom l q λv H2 s2 i2=>k v H2 (s1.trans s2) i2⟩
def un1 {α:Type} (g:D->Option α) (ds:List D):Option α:=match ds with
 |[d]=>g d
 |_=>none
def un2 {α:Type} (g:D->D->Option α) (ds:List D):Option α:=match ds with
 |[c,d]=>g c d
 |_=>none
theorem bw {g} {r:α} (h:un1 g ds=some r):∃d,ds=[d]/\g d=some r:=by
 cases ds with
 |nil=>cases h
 |cons d t=>
  cases t with
  |nil=>exact⟨d,rfl,h⟩
  |cons _ _=>cases h
theorem gE {g} {r:α} (h:un2 g ds=some r):∃c d,ds=[c,d]/\g c d=some r:=by
 cases ds with
 |nil=>cases h
 |cons c t=>
  cases t with
  |nil=>cases h
  |cons d u=>
   cases u with
   |nil=>exact⟨c,d,rfl,h⟩
   |cons _ _=>cases h
theorem is1 {K} (l:IsL K H [d] xs):∃v,xs=[v]/\Is K H d v:=by
 obtain⟨v,r,z,h,z2⟩:=l;cases(z2);exact⟨v,z,h⟩
theorem is2 {K} {c d} (l:IsL K H [c,d] xs):∃u v,xs=[u,v]/\Is K H c u/\Is K H d v:=by
 obtain⟨u,r,z,h,l2⟩:=l;obtain⟨v,z2,h2⟩:=is1 l2;subst z2;exact⟨u,v,z,h,h2⟩
def seqD:D->Option (List D)
 |.lst ds=>some ds
 |.tup ds=>some ds
 |_=>none
theorem gc {K} (e:seqD d=some ds) (h:Is K H d v):∃p xs,v=.ref p/\(SqL K H p xs\/SqT K H p xs)/\IsL K H ds xs:=by
 cases d with
 |lst es=>cases e;obtain⟨p,xs,z,q,l⟩:=h;exact⟨p,xs,z,.inl q,l⟩
 |tup es=>cases e;obtain⟨p,xs,z,q,l⟩:=h;exact⟨p,xs,z,.inr q,l⟩
 |_=>cases e
theorem Same.both {K} {a} (s:Same H H') (h:SqL K H a xs\/SqT K H a xs):SqL K H' a xs\/SqT K H' a xs:=by
 rcases h with h|h
 ·exact .inl (s.seq h)
 ·exact .inr (s.seqT h)
def b8:List D->Option D:=un1 λd=>(seqD d).bind λds=>some (.int ds.length)
theorem rn_len:RnD X.K (λxs H Q=>∃p ys,xs=[.ref p]/\(SqL X.K H p ys\/SqT X.K H p ys)/\Q (.int ys.length) H) b8:=λO H xs ds d Q hd l e k=>by
 obtain⟨c,rfl,e⟩:=bw e;obtain⟨es,e1,e2⟩:=bind_some e;cases e2;obtain⟨v,rfl,h⟩:=is1 l;obtain⟨p,ys,rfl,q,l2⟩:=gc e1 h;exact⟨p,ys,rfl,msk_le.both q,k _ H (Same.refl _) (by show V.int ys.length=.int es.length;rw[l2.len])⟩
def oP:List D->Option (List D):=un1 seqD
theorem BU (hg:Gl X "list") (hm:X.mg "list"=none) (hv:bootBuiltins "list"=some (.type "list")) (ha:PX X [e] fa) (he:starEach [e] X.env=[(false,eval e X.env)]:=by rfl):PF X (.Call (.Name "list" p) [e] [] pos) (λY=>(fa Y).bind oP):=
 λO Y=>(oH pQ hg hm hv (ha O Y) (by decide) (by decide) he rfl).imp λσ H Q ⟨E,ds,q,k⟩=>by
 obtain⟨as,e1,q⟩:=bind_some q
 refine⟨E,as,e1,λvs H1 s1 l=>?_⟩
 obtain⟨c,rfl,q2⟩:=bw q
 obtain⟨v,rfl,h⟩:=is1 l
 obtain⟨p,ys,rfl,t,l2⟩:=gc q2 h
 exact⟨p,ys,rfl,msk_le.both t,λb hb=>k b ys H1 s1 hb l2⟩
def aY:List D->Option D:=un1 λd=>(seqD d).bind λds=>some (.tup ds)
theorem rn_tuple:RnD X.K (λxs H Q=>∃p ys,xs=[.ref p]/\((SqL X.K H p ys/\∀l,H l=none->Q (.ref l) (upd H l (.tup ys)))\/(SqT X.K H p ys/\Q (.ref p) H))) aY:=λO H xs ds d Q hd l e k=>by
 obtain⟨c,rfl,e⟩:=bw e;obtain⟨es,e1,e2⟩:=bind_some e;cases e2;obtain⟨v,rfl,h⟩:=is1 l;obtain⟨p,ys,rfl,q,l2⟩:=gc e1 h;refine⟨p,ys,rfl,?_⟩;rcases q with q|q
 ·refine .inl ⟨msk_le.seq q,λc hc=>?_⟩;have hO:=fL hd hc;have le:Same (msk O H) (msk O (upd H c (.tup ys))):=by rw[lS hO];exact Same.new (by rw[aS hO];exact hc)
  exact k _ _ (Same.new hc) ⟨c,ys,rfl,.of (by rw[aS hO,ar]),IsL.mono le _ _ l2⟩
 ·exact .inr ⟨msk_le.seqT q,k _ H (Same.refl _) ⟨p,ys,rfl,q,l2⟩⟩
theorem mE:∀ {bs:List Bool} {us:List Value},Vals (bs.map V.bl) us->us=bs.map Value.bool
 |[],_,.nil=>rfl
 |b::bs,_,.cons r t=>by
  cases(show _=Value.bool b from r);rw[mE t];rfl
theorem oQ:∀ (bs:List Bool),((List.range bs.length).all λi=>bs.getD i true)=bs.all (λz=>z)
 |[]=>rfl
 |b::bs=>by
  rw[length_cons,List.range_succ_eq_map,List.all_cons,List.all_map,List.all_cons,<-oQ bs];rfl
theorem call_all (hc:X.calm=true):dM X (.builtin "all") (λxs H Q=>∃ (p:Addr) (bs:List Bool),xs=[.ref p]/\SqL X.K H p (bs.map V.bl)/\Q (.bl (bs.all (λz=>z))) H):=by
 intro pins s σ H xs us Q I r h;obtain⟨l,bs,rfl,hl,q⟩:=h;obtain⟨u,rfl,ru⟩:=fK r;cases ru;obtain⟨its,rv,pl,hz⟩:=I.list hl;have eb:=mE rv;subst eb;have hL:=pl.isList;have hlt:l<s.heap.objs.size:=by obtain⟨_,e,_⟩:=hL;exact Heap.lt_size e
 refine call_all_walk (wpAny_pyIter_list hL ?_);refine⟨s.heap.objs.size,[s.heap.objs.size,l],[s.heap.objs.size],_,_,_,λi=>bs.getD i true,rfl,Walks.list (A:=X.A.in1) (I.ok.hd hc) _ l (Nat.ne_of_lt hlt) (bs.map Value.bool).toArray,
  ⟨⟨_,Heap.get?_push_size _ rfl,rfl,rfl⟩,hL.push _⟩,λi v s' Q' E' hP hQ=>?_,λh' tk hk=>?_⟩
 ·have hP':(bs.map Value.bool)[i]?=some v:=by simpa using hP
  rw[getElem?_map]at hP';cases e:bs[i]? with
  |none=>rw[e]at hP';cases hP'
  |some b=>
   rw[e]at hP';cases hP';have e':bs.getD i true=b:=by rw[List.getD_eq_getElem?_getD,e];rfl
   dsimp only at hQ;rw[e']at hQ;exact wpAny_truthy_bool hQ
 ·have e:((List.range (bs.map Value.bool).toArray.size).all λi=>bs.getD i true)=bs.all (λz=>z):=by
   rw[size_toArray,length_map];exact oQ bs
  rw[e];exact⟨.bl _,H,I.kept λb o ho=>hk b o (λhm=>by rw[mem_singleton.mp hm]at ho;exact Nat.lt_irrefl _ (Heap.lt_size ho)) (Heap.get?_push_of_some _ ho),rfl,q⟩
def wV:List D->Option (List Bool)
 |[]=>some []
 |d::ds=>d.asB.bind λb=>(wV ds).bind λr=>some (b::r)
def fN:D->Option (List D)
 |.lst ds=>some ds
 |_=>none
theorem dO {K} (e:fN d=some ds) (h:Is K H d v):∃p xs,v=.ref p/\SqL K H p xs/\IsL K H ds xs:=by
 cases d with
 |lst es=>cases e;exact h
 |_=>cases e
def mF:List D->Option D:=un1 λd=>(fN d).bind λds=>(wV ds).bind λbs=>some (.bl (bs.all (λz=>z)))
theorem pU {K}:∀ {ds:List D} {bs:List Bool} {xs:List V},wV ds=some bs->IsL K H ds xs->xs=bs.map V.bl
 |[],_,_,e,l=>by cases e;exact l
 |d::ds,_,_,e,⟨x,r,z,h,l⟩=>by
  obtain⟨b,e1,e⟩:=bind_some e;obtain⟨bs,e2,e⟩:=bind_some e;cases e;cases asB_some e1;rw[z,pU e2 l,show x=.bl b from h];rfl
theorem rn_all:RnD X.K (λxs H Q=>∃ (p:Addr) (bs:List Bool),xs=[.ref p]/\SqL X.K H p (bs.map V.bl)/\Q (.bl (bs.all (λz=>z))) H) mF:=λO H xs ds d Q hd l e k=>by
 obtain⟨c,rfl,e⟩:=bw e;obtain⟨es,e1,e2⟩:=bind_some e;obtain⟨bs,e3,e4⟩:=bind_some e2;cases e4;obtain⟨v,rfl,h⟩:=is1 l;obtain⟨p,ys,rfl,q,l2⟩:=dO e1 h;rw[pU e3 l2]at q;exact⟨p,bs,rfl,msk_le.seq q,k _ H (Same.refl _) rfl⟩
def bq:D->Bool
 |.non=>true
 |.bl _=>true
 |.int _=>true
 |.str _=>true
 |_=>false
def toV:D->V
 |.non=>.non
 |.bl b=>.bl b
 |.int i=>.int i
 |.str x=>.str x
 |_=>.non
theorem ii {K} (f:bq d=true) (h:Is K H d v):v=toV d/\gA v=true:=by
 cases d<;>first|(cases(h);exact⟨rfl,rfl⟩)|cases f
theorem gG {K}:∀ {ds:List D} {xs:List V},ds.all bq=true->IsL K H ds xs->xs=ds.map toV/\xs.all gA=true
 |[],_,_,l=>by cases(show _=[]from l);exact⟨rfl,rfl⟩
 |d::ds,_,f,⟨x,r,z,h,l⟩=>by
  rw[List.all_cons,and_eq_true]at f;obtain⟨e1,e2⟩:=ii f.1 h;obtain⟨e3,e4⟩:=gG f.2 l;rw[z];exact⟨by rw[e1,e3];rfl,by rw[List.all_cons,e2,e4];rfl⟩
def inL (x:D) (ds:List D):Bool:=inV (toV x) (ds.map toV)
def inD:D->D->Option D
 |x,.lst ds=>if bq x&&ds.all bq then some (.bl (inL x ds))else none
 |x,.tup ds=>if bq x&&ds.all bq then some (.bl (inL x ds))else none
 |_,_=>none
theorem r_in {K}:R2D K (rIn K false) inD:=λO H x y dx dy d Q hd ix iy e k=>by
 cases dy with
 |lst ds=>
  obtain⟨h1,h2⟩:=ax (show(if(bq dx&&ds.all bq)=true then _ else none)=some d from e);rw[and_eq_true]at h1;subst h2;obtain⟨p,xs,rfl,q,l⟩:=iy;obtain⟨e1,e2⟩:=ii h1.1 ix;obtain⟨e3,e4⟩:=gG h1.2 l;exact⟨p,xs,rfl,.inl (msk_le.seq q),e2,e4,k _ H (Same.refl _) (by rw[e1,e3];rfl)⟩
 |tup ds=>
  obtain⟨h1,h2⟩:=ax (show(if(bq dx&&ds.all bq)=true then _ else none)=some d from e);rw[and_eq_true]at h1;subst h2;obtain⟨p,xs,rfl,q,l⟩:=iy;obtain⟨e1,e2⟩:=ii h1.1 ix;obtain⟨e3,e4⟩:=gG h1.2 l;exact⟨p,xs,rfl,.inr (msk_le.seqT q),e2,e4,k _ H (Same.refl _) (by rw[e1,e3];rfl)⟩
 |_=>cases e
def cW:D->Option String
 |.non=>some "NoneType"
 |.bl _=>some "bool"
 |.int _=>some "int"
 |.str _=>some "str"
 |.tup _=>some "tuple"
 |.lst _=>some "list"
 |_=>none
def isI (T n:String):Bool:=T==n||(T=="bool"&&n=="int")
def vg (n:String):Bool:=["int","bool","str","list","tuple","dict"].contains n
theorem yn (K:Frag) (hT:cW d=some T) (hn:vg n=true):PySem.W.kitOne K (.type T) (.type n)=some (isI T n):=by
 have hn':n="int"\/n="bool"\/n="str"\/n="list"\/n="tuple"\/n="dict":=by
  simpa [vg] using hn
 cases d<;>first
  |(cases hT;rcases hn' with rfl|rfl|rfl|rfl|rfl|rfl<;>rfl)
  |cases hT
theorem BV {σ:St} {x} {u c} {b} (I:Inv X pins σ H s) (h:Is X.K H d x) (rx:RelV x u) (hT:cW d=some T) (e:PySem.W.kitOne X.K (.type T) c=some b) (hq:∀tk,Q (.bool b) {s with toks:=tk}):wpAny (model X.prog X.w) A (call (.builtin "isinstance") [u,c]) Q E s:=by
 cases d with
 |non=>cases hT;cases(h);cases(rx);exact PySem.W.kia_one PySem.W.kitx_none I.kIn True.intro e (λz=>nomatch z) hq
 |bl y=>cases hT;cases(h);cases(rx);exact PySem.W.kia_one PySem.W.kitx_bool I.kIn True.intro e (λz=>nomatch z) hq
 |int i=>cases hT;cases(h);obtain⟨t,q⟩:=(rx);cases q;exact PySem.W.kia_one PySem.W.kitx_int I.kIn True.intro e (λz=>nomatch z) hq
 |str i=>cases hT;cases(h);obtain⟨t,q⟩:=(rx);cases q;exact PySem.W.kia_one PySem.W.kitx_str I.kIn True.intro e (λz=>nomatch z) hq
 |tup ds=>
  cases hT;obtain⟨a,xs,rfl,q,l⟩:=h;cases(show u=Value.ref a from rx);obtain⟨its,_,⟨o,h1,h2,_⟩,_⟩:=I.tuple q;exact PySem.W.kia_one PySem.W.kitx_tuple I.kIn ⟨o,h1,h2⟩ e (λz=>nomatch z) hq
 |lst ds=>
  cases hT;obtain⟨a,xs,rfl,q,l⟩:=h;cases(show u=Value.ref a from rx);obtain⟨its,_,⟨o,n,h1,h2,_⟩,_⟩:=I.list q;exact PySem.W.kia_one PySem.W.kitx_list I.kIn ⟨o,h1,h2⟩ e (λz=>nomatch z) hq
 |_=>cases hT
theorem BW {σ:St} {x} {b} (I:Inv X pins σ H s) (h:Is X.K H d x) (rx:RelV x u) (hT:cW d=some T) (htp:s.heap.get? tp=some ⟨.type "tuple",dd,.seq its.toArray n,sl⟩) (e:PySem.W.kitAny X.K (.type T) its=some b) (hq:∀tk,Q (.bool b) {s with toks:=tk}):wpAny (model X.prog X.w) A (call (.builtin "isinstance") [u,.ref tp]) Q E s:=by
 cases d with
 |non=>cases hT;cases(h);cases(rx);exact PySem.W.kia_tup PySem.W.kitx_none I.kIn True.intro htp e (λz=>nomatch z) hq
 |bl y=>cases hT;cases(h);cases(rx);exact PySem.W.kia_tup PySem.W.kitx_bool I.kIn True.intro htp e (λz=>nomatch z) hq
 |int i=>cases hT;cases(h);obtain⟨t,q⟩:=(rx);cases q;exact PySem.W.kia_tup PySem.W.kitx_int I.kIn True.intro htp e (λz=>nomatch z) hq
 |str i=>cases hT;cases(h);obtain⟨t,q⟩:=(rx);cases q;exact PySem.W.kia_tup PySem.W.kitx_str I.kIn True.intro htp e (λz=>nomatch z) hq
 |tup ds=>
  cases hT;obtain⟨a,xs,rfl,q,l⟩:=h;cases(show u=Value.ref a from rx);obtain⟨its,_,⟨o,h1,h2,_⟩,_⟩:=I.tuple q;exact PySem.W.kia_tup PySem.W.kitx_tuple I.kIn ⟨o,h1,h2⟩ htp e (λz=>nomatch z) hq
 |lst ds=>
  cases hT;obtain⟨a,xs,rfl,q,l⟩:=h;cases(show u=Value.ref a from rx);obtain⟨its,_,⟨o,n,h1,h2,_⟩,_⟩:=I.list q;exact PySem.W.kia_tup PySem.W.kitx_list I.kIn ⟨o,h1,h2⟩ htp e (λz=>nomatch z) hq
 |_=>cases hT
def tyD:D->Option String
 |.ty n=>if vg n then some n else none
 |_=>none
theorem rE (h:tyD d=some n):d=.ty n/\vg n=true:=by
 cases d with
 |ty m=>obtain⟨h1,h2⟩:=ax h;subst h2;exact⟨rfl,h1⟩
 |_=>cases h
def yo:List D->Option (List String)
 |[]=>some []
 |d::ds=>(tyD d).bind λn=>(yo ds).bind λr=>some (n::r)
def Fh:D->Option (List D)
 |.tup ds=>some ds
 |_=>none
theorem BX {K} (e:Fh d=some ds) (h:Is K H d v):∃p xs,v=.ref p/\SqT K H p xs/\IsL K H ds xs:=by
 cases d with
 |tup es=>cases e;exact h
 |_=>cases e
def clsD (c:D):Option (List String):=match tyD c with
 |some n=>some [n]
 |none=>(Fh c).bind yo
def eX:List D->Option D:=un2 λd c=>(cW d).bind λT=>(clsD c).bind λns=>some (.bl (ns.any (isI T)))
theorem oR {K} (hT:cW d=some T):∀ {cs:List D} {ns:List String} {xs:List V} {us:List Value},yo cs=some ns->IsL K H cs xs->Vals xs us->PySem.W.kitAny K (.type T) us=some (ns.any (isI T))
 |[],_,_,_,e,l,r=>by
  cases e;cases(show _=[]from l);cases r;rfl
 |c::cs,ns,_,_,e,⟨x,xr,z,h,l⟩,r=>by
  obtain⟨n,e1,e2⟩:=bind_some e;obtain⟨ms,e3,e4⟩:=bind_some e2;cases e4;obtain⟨rfl,hk⟩:=rE e1;subst z;cases r with
  |cons r1 r2=>
   cases(show x=.ty n from h);cases(show _=Value.type n from r1);show(match PySem.W.kitOne K (.type T) (.type n)with|some true=>some true|some false=>PySem.W.kitAny K (.type T) _|none=>none)=_;rw[yn K hT hk,oR hT e3 l r2,List.any_cons];cases isI T n<;>rfl
theorem call_isi:dM X (.builtin "isinstance") (λxs H Q=>∃d c T ns,IsL X.K H [d,c] xs/\cW d=some T/\clsD c=some ns/\Q (.bl (ns.any (isI T))) H):=by
 intro pins s σ H xs us Q I r h;obtain⟨d,c,T,ns,l,hT,e,q⟩:=h;obtain⟨x,y,rfl,hx,hy⟩:=is2 l;obtain⟨u,w',rfl,r1,r2⟩:=oB r;unfold clsD at e;split at e
 ·rename_i n hn;cases e;obtain⟨rfl,hk⟩:=rE hn;cases(hy);cases(r2);refine BV I hx r1 hT (yn X.K hT hk) λtk=>⟨.bl _,H,I.tok tk,rfl,?_⟩;have e1:([n].any (isI T))=isI T n:=by simp
  rw[e1]at q;exact q
 ·obtain⟨cs,e1,e2⟩:=bind_some e;obtain⟨tp,ys,rfl,hq,hl⟩:=BX e1 hy;cases(r2);obtain⟨its,rv,⟨o,h1,h2,n,h3⟩,_⟩:=I.tuple hq;obtain⟨oc,od,oda,osl⟩:=o;cases(h2);cases(h3);exact BW I hx r1 hT h1 (oR hT e2 hl rv) λtk=>⟨.bl _,H,I.tok tk,rfl,q⟩
theorem rn_isi:RnD X.K (λxs H Q=>∃d c T ns,IsL X.K H [d,c] xs/\cW d=some T/\clsD c=some ns/\Q (.bl (ns.any (isI T))) H) eX:=λO H xs ds d Q hd l e k=>by
 obtain⟨d0,c,rfl,e⟩:=gE e;obtain⟨T,e1,e2⟩:=bind_some e;obtain⟨ns,e3,e4⟩:=bind_some e2;cases e4;exact⟨d0,c,T,ns,l.full,e1,e3,k _ H (Same.refl _) rfl⟩
end
theorem PE.ex {ι:Type} {t:ι->TE} (h:∀z,PE X e (t z)):PE X e (λσ H Q=>∃z,t z σ H Q):=λpins s σ H Q I ⟨z,q⟩=>h z pins s σ H Q I q
theorem PTs.ex {ι:Type} {t:ι->TT} (h:∀z,PTs X e (t z)):PTs X e (λσ H Q=>∃z,t z σ H Q):=λpins s σ H Q I ⟨z,q⟩=>h z pins s σ H Q I q
theorem PG.ex {ι:Type} {t:ι->TG} (h:∀z,PG X e (t z)):PG X e (λv σ H Q=>∃z,t z v σ H Q):=λpins s σ H v u Q I r ⟨z,q⟩=>h z pins s σ H v u Q I r q
theorem PSs.ex {ι:Type} {t:ι->TS} (h:∀z,PSs X e (t z)):PSs X e (λD σ H=>∃z,t z D σ H):=λpins s σ H D I ⟨z,q⟩=>h z pins s σ H D I q
def kX (K:Frag) (Hm:Hp) (J:It) (ds:List D):Prop:=∀ (i:Nat) (H:Hp) (O:Addr->Bool),Same Hm (msk O H)->(∀b,O b=true->H b≠none)->
 (∀d,ds[i]?=some d->J.go i H/\∀x H3,J.yld i H x H3->Same H H3/\Is K (msk O H3) d x)/\(ds.length<=i->J.stop i H)
def tJ (K:Frag) (O:Addr->Bool) (Y:Vv) (o:Option (List D)):TI:=λσ H R=>VE K O σ H Y/\∃ds,o=some ds/\∀J H',Same H H'->kX K (msk O H') J ds->R J H'
def PJ (X:Cx) (tg iter:Expr) (f:Vv->Option (List D)):Prop:=∀O Y,PI X tg iter (tJ X.K O Y (f Y))
section
variable {X:Cx} {tg l e:Expr} {pos:Pos}
def Lv (K:Frag) (tl:TE):TI:=λσ H R=>tl σ H λx H1=>∃a,x=.ref a/\(((∃xs,SqL K H1 a xs)/\R (Itl K a) H1)\/((∃xs,SqT K H1 a xs)/\R (Itt K a) H1))
theorem Fi (hl:PE X l tl):PI X tg l (Lv X.K tl):=by
 intro pins s σ H R I h;refine thn (hl pins s σ H _ I h) λv s1 ⟨x,H1,I1,r1,q1⟩=>?_;obtain⟨a,e,q⟩:=q1;subst e;cases r1;have fin:∀b∈[s1.heap.objs.size],iR X pins H1 b:=λb hb=>by
  have e:b=s1.heap.objs.size:=by simpa using hb
  subst e;exact I1.fpOk (le_refl _) (I1.hok.fresh (le_refl _))
 rcases q with⟨⟨xs,hq⟩,q⟩|⟨⟨xs,hq⟩,q⟩
 ·obtain⟨its,rv,p,hz⟩:=I1.list hq;refine wpAny_pyIter_list p.isList ?_;exact⟨s1.heap.objs.size,[s1.heap.objs.size],_,_,H1,rfl,I1.kept λb o e=>Heap.get?_push_of_some _ e,wJ a _,⟨_,Heap.get?_push_size _ rfl,rfl,rfl⟩,fin,q⟩
 ·obtain⟨its,rv,p,hz⟩:=I1.tuple hq;refine wpAny_pyIter_tuple (p) ?_;exact⟨s1.heap.objs.size,[s1.heap.objs.size],_,_,H1,rfl,I1.kept λb o e=>Heap.get?_push_of_some _ e,tm a _,⟨_,Heap.get?_push_size _ rfl,rfl,rfl⟩,fin,q⟩
theorem wW {K} (q:SqL K Hm a xs) (il:IsL K Hm ds xs):kX K Hm (Itl K a) ds:=λi H O s hd=>by
 have q':=(s.trans msk_le).seq q;refine⟨λd hi=>?_,λhi=>⟨xs,q',by rw[<-il.len];exact hi⟩⟩;obtain⟨x,hx,ix⟩:=il.get hi;refine⟨⟨xs,x,q',hx⟩,λy H3 ⟨e,hy⟩=>?_⟩;subst e;have:=hy xs q';rw[hx]at this;cases this;exact⟨Same.refl _,Is.mono s d x ix⟩
theorem yq {K} (q:SqT K Hm a xs) (il:IsL K Hm ds xs):kX K Hm (Itt K a) ds:=λi H O s hd=>by
 have q':=(s.trans msk_le).seqT q;refine⟨λd hi=>?_,λhi=>⟨xs,q',by rw[<-il.len];exact hi⟩⟩;obtain⟨x,hx,ix⟩:=il.get hi;refine⟨⟨xs,x,q',hx⟩,λy H3 ⟨e,hy⟩=>?_⟩;subst e;have:=hy xs q';rw[hx]at this;cases this;exact⟨Same.refl _,Is.mono s d x ix⟩
theorem Fj (h:PP X l f):PJ X tg l (λY=>(f Y).bind seqD):=λO Y=>(Fi (h O Y)).imp λσ H R ⟨E,ds,q,k⟩=>by
 obtain⟨d,e1,q⟩:=bind_some q;refine⟨E,d,e1,λv H1 s1 i1=>?_⟩;obtain⟨a,xs,rfl,t,il⟩:=gc q i1;rcases t with t|t
 ·exact⟨a,rfl,.inl ⟨⟨xs,msk_le.seq t⟩,k _ H1 s1 (wW t il)⟩⟩
 ·exact⟨a,rfl,.inr ⟨⟨xs,msk_le.seqT t⟩,k _ H1 s1 (yq t il)⟩⟩
def lC (lo:Int) (n:Nat):List D:=(List.range n).map λ(i:Nat)=>D.int (lo+(i:Int))
theorem iU {K} {lo}:kX K Hm (Itr lo n) (lC lo n):=λi H O s hd=>by
 have hl:(lC lo n).length=n:=by simp[lC]
 refine⟨λd hi=>?_,λhi=>by rw[hl]at hi;exact hi⟩;have hin:i<n:=by
  have:=(List.getElem?_eq_some_iff.mp hi).1;rw[hl]at this;exact this
 refine⟨hin,λx H3 ⟨e,hx⟩=>?_⟩;subst e hx;have:d=.int (lo+(i:Int)):=by
  simp[lC,hin]at hi;exact hi.symm
 subst this;exact⟨Same.refl _,rfl⟩
def gH:D->Option Int
 |.int i=>some i
 |_=>none
theorem intD_some (h:gH d=some i):d=.int i:=by
 cases d<;>first|(cases h;rfl)|cases h
def inR (j:Int):Prop:=-(2^62)<=j/\j<2^62
instance (j:Int):Decidable (inR j):=Classical.propDecidable _
def lD:List D->Option (List D):=un1 λd=>(gH d).bind λj=>if inR j then some (lC 0 j.toNat)else none
def IW:List D->Option (List D):=un2 λc d=>(gH c).bind λi=>(gH d).bind λj=>if inR i/\inR j then some (lC i (j-i).toNat)else none
theorem wX (hg:Gl X "range") (hm:X.mg "range"=none) (ha:PX X [e] fa) (hs:starEach [e] X.env=[(false,eval e X.env)]:=by rfl):PJ X tg (.Call (.Name "range" p) [e] [] pos) (λY=>(fa Y).bind lD):=
 λO Y=>(oA hg hm (ha O Y) hs).imp λσ H R ⟨E,ds,q,k⟩=>by
 obtain⟨as,e1,q⟩:=bind_some q
 refine⟨E,as,e1,λvs H1 s1 il=>?_⟩
 obtain⟨c,rfl,q1⟩:=bw q
 obtain⟨j,q2,q3⟩:=bind_some q1
 obtain⟨h1,h2⟩:=ax q3
 subst h2
 obtain⟨v,rfl,iv⟩:=is1 il
 cases intD_some q2
 have h1':=h1
 exact⟨j,by rw[show v=.int j from iv],h1'.1,h1'.2,k _ H1 s1 iU⟩
theorem wY {p} (hg:Gl X "range") (hm:X.mg "range"=none) (ha:PX X [a,b] fa) (hs:starEach [a,b] X.env=[(false,eval a X.env),(false,eval b X.env)]:=by rfl) (hs2:starEach [b] X.env=[(false,eval b X.env)]:=by rfl):
  PJ X tg (.Call (.Name "range" p) [a,b] [] pos) (λY=>(fa Y).bind IW):=
 λO Y=>(wK hg hm (ha O Y) hs hs2).imp λσ H R ⟨E,ds,q,k⟩=>by
 obtain⟨as,e1,q⟩:=bind_some q
 refine⟨E,as,e1,λvs H1 s1 il=>?_⟩
 obtain⟨c,d,rfl,q1⟩:=gE q
 obtain⟨i,q2,q3⟩:=bind_some q1
 obtain⟨j,q4,q5⟩:=bind_some q3
 obtain⟨h1,h2⟩:=ax q5
 subst h2
 obtain⟨u,v,rfl,iu,iv⟩:=is2 il
 cases intD_some q2
 cases intD_some q4
 have h1':-(2^62)<=i/\i<2^62:=h1.1
 have h2':-(2^62)<=j/\j<2^62:=h1.2
 exact⟨i,j,by rw[show u=.int i from iu,show v=.int j from iv],⟨h1'.1,h1'.2,h2'.1,h2'.2⟩,k _ H1 s1 iU⟩
def tG (K:Frag) (O:Addr->Bool) (Y:Vv) (d:D) (ks:List Nat) (o:Option Vv):TG:=λv σ H Q=>VE K O σ H Y/\Is K (msk O H) d v/\∃Y',o=some Y'/\
 ∀σ',VE K O σ' H Y'->σ'.length=σ.length->(∀ (j:Nat) (w:V),j ∉ ks->σ[j]?=some (some w)->σ'[j]?=some (some w))->Q σ' H
def PGD (X:Cx) (ks:List Nat) (tg:Expr) (g:D->Vv->Option Vv):Prop:=∀O Y d,PG X tg (tG X.K O Y d ks (g d Y))
def tGs (K:Frag) (O:Addr->Bool) (Y:Vv) (ds:List D) (ks:List Nat) (o:Option Vv):TGs:=λvs σ H Q=>VE K O σ H Y/\IsL K (msk O H) ds vs/\∃Y',o=some Y'/\
 ∀σ',VE K O σ' H Y'->σ'.length=σ.length->(∀ (j:Nat) (w:V),j ∉ ks->σ[j]?=some (some w)->σ'[j]?=some (some w))->Q σ' H
def wZ (X:Cx) (ks:List Nat) (ts:List Expr) (g:List D->Vv->Option Vv):Prop:=∀O Y ds,PGs X ts (tGs X.K O Y ds ks (g ds Y))
def gNm (i:Nat):D->Vv->Option Vv:=λd Y=>some (Y.set i (some d))
theorem BY (hN:X.N.Nodup) (hi:X.N[i]?=some x) (hx:Loc X.env.scope x) (hk:i∈ks) (hf:X.fn x=true\/X.env.scope.names.lookup x=some .local:=by first|exact .inl rfl|exact .inr rfl|assumption):PGD X ks (.Name x pos) (gNm i):=
 λO Y d=>(uZ hN hi hx hf).imp λv σ H Q ⟨E,iv,Y',e,k⟩=>by
 cases e
 refine k _ (E.set iv) (by simp) λj w hj hw=>?_
 rw[List.getElem?_set_ne (λ(z:i=j)=>hj (by rw[<-z];exact hk))];exact hw
theorem PGs.imp (h:PGs X ts t) (k:∀v σ H Q,t' v σ H Q->t v σ H Q):PGs X ts t':=λpins s σ H vs us Q I r q=>h pins s σ H vs us Q I r (k _ _ _ _ q)
def b6:List D->Vv->Option Vv:=λds Y=>match ds with|[]=>some Y|_=>none
def aK (g:D->Vv->Option Vv) (gs:List D->Vv->Option Vv):List D->Vv->Option Vv:=λds Y=>match ds with|d::r=>(g d Y).bind λY1=>gs r Y1|_=>none
theorem BZ:wZ X ks [] b6:=λO Y ds=>pgs_nil.imp λvs σ H Q ⟨E,il,Y',e,k⟩=>by
 cases ds with
 |nil=>cases e;exact⟨il,k σ E rfl λ_ _ _ h=>h⟩
 |cons _ _=>cases e
theorem PGs.ex {e} {ι:Type} {t:ι->TGs} (h:∀z,PGs X e (t z)):PGs X e (λv σ H Q=>∃z,t z v σ H Q):=λpins s σ H v u Q I r ⟨z,q⟩=>h z pins s σ H v u Q I r q
theorem gsd_cons (h1:PGD X ks e g) (h2:wZ X ks ts gs) (hs:(assignEach (e::ts) X.env).map (·.2)=assign e X.env::(assignEach ts X.env).map (·.2):=by rfl):wZ X ks (e::ts) (aK g gs):=λO Y ds=>by
 cases ds with
 |nil=>exactλpins s σ H vs us Q I r ⟨_,_,Y',e,_⟩=>by cases e
 |cons d r=>
  refine(q0 (h1 O Y d) (PGs.ex λz:Vv=>h2 O z r) hs).imp λvs σ H Q ⟨E,⟨x,xr,z,ix,il⟩,Y',e,k⟩=>?_;obtain⟨Y1,e1,e2⟩:=bind_some (e);refine⟨x,xr,z,E,ix,Y1,e1,λσ1 E1 l1 k1=>⟨Y1,E1,il,Y',e2,λσ2 E2 l2 k2=>?_⟩⟩;exact k σ2 E2 (l2.trans l1) λj w hj hw=>k2 j w hj (k1 j w hj hw)
def gTp (n:Nat) (gs:List D->Vv->Option Vv):D->Vv->Option Vv:=λd Y=>match d with|.tup ds=>if ds.length=n then gs ds Y else none|_=>none
theorem Fk {k n} (hc:X.calm=true) (h:wZ X ks ts gs) (hn:(assignEach ts X.env).length=n:=by rfl) (hst:(assignEach ts X.env).findIdx? (·.1)=none:=by rfl):PGD X ks (.Tuple ts k pos) (gTp n gs):=λO Y d=>by
 refine(xQ hc (PGs.ex λz:List D=>h O Y z) hn hst).imp λv σ H Q ⟨E,iv,Y',e,k⟩=>?_;cases d with
 |tup ds=>
  obtain⟨a,xs,rfl,t,il⟩:=iv;have e':(if ds.length=n then gs ds Y else none)=some Y':=e;split at e'
  ·exact⟨a,xs,rfl,msk_le.seqT t,by rw[<-il.len];assumption,ds,E,il,Y',e',k⟩
  ·cases e'
 |_=>cases e
end
def iH (step:D->Option (Option D)):List D->Option (List D)
 |[]=>some []
 |d::ds=>(step d).bind λo=>(iH step ds).bind λr=>some (match o with|some y=>y::r|none=>r)
def gI (g:D->Vv->Option Vv) (ft:Vv->Option Bool) (fe:Vv->Option D) (Y:Vv) (d:D):Option (Option D):=(g d Y).bind λY1=>(ft Y1).bind λc=>if c=true then(fe Y1).bind λy=>some (some y)else some none
def ak (ks:List Nat) (fi:Vv->Option (List D)) (g:D->Vv->Option Vv) (ft:Vv->Option Bool) (fe:Vv->Option D):Vv->Option (List D):=λY=>(fi Y).bind λds=>bZ (iH (gI g ft fe (wipe ks Y)) ds)
def PQs (X:Cx) (ifs:List Expr) (f:Vv->Option Bool):Prop:=∀O Y,PTs X ifs (tPT X.K O Y (f Y))
theorem PTs.imp (h:PTs X ifs t) (k:∀σ H Q,t' σ H Q->t σ H Q):PTs X ifs t':=λpins s σ H Q I q=>h pins s σ H Q I (k _ _ _ q)
theorem B0:PQs X [] (λ_=>some true):=λO Y=>pts_nil.imp λσ H Q ⟨E,b,e,k⟩=>by cases e;exact k H (Same.refl _)
theorem B3 (h:PQ X c f):PQs X [c] f:=λO Y=>BK (h O Y)
section
variable {X:Cx} {tg iter elt:Expr} {pos:Pos}
abbrev xG (K:Frag) (ks:List Nat) (g:D->Vv->Option Vv):TG:=λv σ H Q=>∃z:(Addr->Bool)×Vv×D,tG K z.1 z.2.1 z.2.2 ks (g z.2.2 z.2.1) v σ H Q
abbrev xT (K:Frag) (f:Vv->Option Bool):TT:=λσ H Q=>∃z:(Addr->Bool)×Vv,tPT K z.1 z.2 (f z.2) σ H Q
abbrev xE (K:Frag) (f:Vv->Option D):TE:=λσ H Q=>∃z:(Addr->Bool)×Vv,tP K z.1 z.2 (f z.2) σ H Q
theorem yt {K} (h:tPF K O Y (ak ks fi g ft fe Y) σ H Q):
  rp (tJ K O Y (fi Y)) ks (xG K ks g) (xT K ft) (xE K fe) σ H Q:=by
 obtain⟨E,tot,e,k⟩:=h
 obtain⟨ds,e1,e⟩:=bind_some e
 obtain⟨e2,hz⟩:=da e
 refine⟨E,ds,e1,λJ H1 s1 it=>⟨λi m ys H2=>i<=ds.length/\m=ds.length-i/\Same H1 H2/\∃rs rest,IsL K (msk O H2) rs ys/\iH (gI g ft fe _) (ds.drop i)=some rest/\tot=rs++rest,
  ⟨ds.length,Nat.zero_le _,by simp,Same.refl _,[],tot,rfl,by simpa using e2,rfl⟩,?_⟩⟩
 rintro i m ys H2 ⟨hi,rfl,s2,rs,rest,il,er,et⟩
 have E2:=E.grow (s1.trans s2)
 have hit:=it i H2 O s2.msk E2.dom
 have hlen:ys.length<sizeLine:=by
  rw[<-il.len];have:rs.length<=tot.length:=by rw[et,length_append];omega
  omega
 by_cases hlt:i<ds.length
 ·refine .inr ?_;have hd:=getElem?_eq_getElem hlt;obtain⟨go,yl⟩:=hit.1 _ hd;refine⟨go,hlen,λx H3 hy=>?_⟩;obtain⟨s3,ix⟩:=yl x H3 hy;rw[List.drop_eq_getElem_cons hlt]at er;obtain⟨o,eo,er⟩:=bind_some (er);obtain⟨rest',er',er⟩:=bind_some er;obtain⟨Y1,g1,eo⟩:=bind_some eo;obtain⟨c,c1,eo⟩:=bind_some eo;refine⟨⟨O,wipe ks Y,ds[i]⟩,(E2.grow s3).wiped ks,ix,Y1,g1,λσ4 E4 l4 k4=>⟨⟨l4,λj w hw=>?_⟩,⟨O,Y1⟩,E4,c,c1,λH5 s5=>?_⟩⟩
  ·exact k4 j w (wipe_iff.mp hw).2 hw
  ·have hm:ds.length-(i+1)<ds.length-i:=by omega
   cases c with
   |true=>
    refine EQ ?_;obtain⟨y,y1,eo⟩:=bind_some eo;cases eo;refine⟨⟨O,Y1⟩,E4.grow s5,y,y1,λv H6 s6 iv=>⟨_,hm,hlt,rfl,s2.trans (s3.trans (s5.trans s6)),rs++[y],rest',?_,er',?_⟩⟩
    ·exact(IsL.mono (s3.trans (s5.trans s6)).msk _ _ il).app ⟨v,[],rfl,iv,rfl⟩
    ·rw[et,<-Option.some.inj er,List.append_assoc];rfl
   |false=>
    refine EO ?_;cases eo;refine⟨_,hm,hlt,rfl,s2.trans (s3.trans s5),rs,rest',IsL.mono (s3.trans s5).msk _ _ il,er',?_⟩;rw[et,<-Option.some.inj er]
 ·have hie:i=ds.length:=by omega
  subst hie;refine .inl ⟨hit.2 (le_refl _),Nat.le_of_lt hlen,λp hp=>?_⟩;rw[List.drop_of_length_le (le_refl _)]at er;cases er;rw[List.append_nil]at et;subst et;exact k p ys H2 (s1.trans s2) hp il
end
mutual
noncomputable def eqD:D->D->Bool
 |.non,.non=>true
 |.bl a,.bl b=>a==b
 |.bl a,.int b=>(if a then 1 else 0)==b
 |.int a,.bl b=>a==(if b then 1 else 0)
 |.int a,.int b=>a==b
 |.str a,.str b=>a==b
 |.tup a,.tup b=>eqL a b
 |.lst a,.lst b=>eqL a b
 |_,_=>false
noncomputable def eqL:List D->List D->Bool
 |[],[]=>true
 |a::as,b::bs=>eqD a b&&eqL as bs
 |_,_=>false
end
mutual
noncomputable def dep:D->Nat
 |.tup ds=>dP ds+1
 |.lst ds=>dP ds+1
 |_=>0
noncomputable def dP:List D->Nat
 |[]=>0
 |d::ds=>max (dep d) (dP ds)
end
mutual
noncomputable def okE:D->Bool
 |.non=>true
 |.bl _=>true
 |.int _=>true
 |.str _=>true
 |.ty _=>false
 |.adr _=>false
 |.tup ds=>okL ds
 |.lst ds=>okL ds
 |.obj _ _ _=>false
 |.dct _ _=>false
noncomputable def okL:List D->Bool
 |[]=>true
 |d::ds=>okE d&&okL ds
end
mutual
theorem rF:∀d:D,okE d=true->eqD d d=true
 |.non,_=>rfl
 |.bl a,_=>by show(a==a)=true;simp
 |.int a,_=>by show(a==a)=true;simp
 |.str a,_=>by show(a==a)=true;simp
 |.ty _,h=>by cases h
 |.adr _,h=>by cases h
 |.tup ds,h=>gJ ds h
 |.lst ds,h=>gJ ds h
 |.obj _ _ _,h=>by cases h
 |.dct _ _,h=>by cases h
theorem gJ:∀ds:List D,okL ds=true->eqL ds ds=true
 |[],_=>rfl
 |d::ds,h=>by
  have h':(okE d&&okL ds)=true:=h;rw[and_eq_true]at h';show(eqD d d&&eqL ds ds)=true;rw[rF d h'.1,gJ ds h'.2];rfl
end
section
variable {X:Cx} {pins:List (Addr×Obj)} {σ:St} {H:Hp} {s:Shared}
theorem Inv.notBoth (I:Inv X pins σ H s) (h:SqT X.K H a xs) (h':SqL X.K H a ys):False:=by
 obtain⟨_,_,⟨o,e,c,_⟩,_⟩:=I.tuple h;obtain⟨_,_,⟨o',n,e',c',_⟩,_⟩:=I.list h';rw[e]at e';cases e';rw[c]at c';have:("tuple":String)="list":=by injection c'
 exact absurd this (by decide)
mutual
theorem Is.inj (I:Inv X pins σ H s):∀ (d e:D) (v:V),okE d=true->okE e=true->Is X.K H d v->Is X.K H e v->d=e
 |d,e,v,hd,he,h,h'=>by
  cases d with
  |non=>cases(show v=_ from h);cases e<;>first|exact(Bool.false_ne_true he).elim|rfl|(exact absurd (show V.non=_ from h') (by intro z;cases z))|(obtain⟨_,_,z,_⟩:=h';cases z)|cases he
  |bl b=>cases(show v=_ from h);cases e<;>first|exact(Bool.false_ne_true he).elim|(cases(show V.bl b=_ from h');rfl)|(exact absurd (show V.bl b=_ from h') (by intro z;cases z))|(obtain⟨_,_,z,_⟩:=h';cases z)|cases he
  |int b=>cases(show v=_ from h);cases e<;>first|exact(Bool.false_ne_true he).elim|(cases(show V.int b=_ from h');rfl)|(exact absurd (show V.int b=_ from h') (by intro z;cases z))|(obtain⟨_,_,z,_⟩:=h';cases z)|cases he
  |str b=>cases(show v=_ from h);cases e<;>first|exact(Bool.false_ne_true he).elim|(cases(show V.str b=_ from h');rfl)|(exact absurd (show V.str b=_ from h') (by intro z;cases z))|(obtain⟨_,_,z,_⟩:=h';cases z)|cases he
  |ty _=>cases hd
  |adr _=>cases hd
  |obj _ _ _=>cases hd
  |dct _ _=>cases hd
  |tup ds=>
   obtain⟨a,xs,rfl,q,l⟩:=h;cases e with
   |tup es=>
    obtain⟨a',ys,z,q',l'⟩:=h';cases z;cases I.tuple_inj q q';rw[IsL.inj I ds es xs hd he l l']
   |lst es=>
    obtain⟨a',ys,z,q',l'⟩:=h';cases z;exact(I.notBoth q q').elim
   |non=>exact absurd (show V.ref a=_ from h') (by intro z;cases z)
   |bl _=>exact absurd (show V.ref a=_ from h') (by intro z;cases z)
   |int _=>exact absurd (show V.ref a=_ from h') (by intro z;cases z)
   |str _=>exact absurd (show V.ref a=_ from h') (by intro z;cases z)
   |ty _=>cases he
   |adr _=>cases he
   |obj _ _ _=>cases he
   |dct _ _=>cases he
  |lst ds=>
   obtain⟨a,xs,rfl,q,l⟩:=h;cases e with
   |lst es=>
    obtain⟨a',ys,z,q',l'⟩:=h';cases z;cases I.list_inj q q';rw[IsL.inj I ds es xs hd he l l']
   |tup es=>
    obtain⟨a',ys,z,q',l'⟩:=h';cases z;exact(I.notBoth q' q).elim
   |non=>exact absurd (show V.ref a=_ from h') (by intro z;cases z)
   |bl _=>exact absurd (show V.ref a=_ from h') (by intro z;cases z)
   |int _=>exact absurd (show V.ref a=_ from h') (by intro z;cases z)
   |str _=>exact absurd (show V.ref a=_ from h') (by intro z;cases z)
   |ty _=>cases he
   |adr _=>cases he
   |obj _ _ _=>cases he
   |dct _ _=>cases he
theorem IsL.inj (I:Inv X pins σ H s):∀ (ds es:List D) (vs:List V),okL ds=true->okL es=true->IsL X.K H ds vs->IsL X.K H es vs->ds=es
 |[],[],_,_,_,_,_=>rfl
 |[],e::es,vs,_,_,h,⟨x,r,z,_⟩=>by cases(show vs=[]from h);cases z
 |d::ds,[],vs,_,_,⟨x,r,z,_⟩,h=>by cases(show vs=[]from h);cases z
 |d::ds,e::es,vs,hd,he,⟨x,r,z,h1,h2⟩,⟨x',r',z',h1',h2'⟩=>by
  cases z;cases z';have hd':(okE d&&okL ds)=true:=hd;have he':(okE e&&okL es)=true:=he;rw[and_eq_true]at hd' he';rw[Is.inj I d e x hd'.1 he'.1 h1 h1',IsL.inj I ds es r hd'.2 he'.2 h2 h2']
end
theorem bX:∀ (ds es:List D),(((List.range (min ds.length es.length)).all λj=>eqD (ds.getD j .non) (es.getD j .non))&&ds.length==es.length)=eqL ds es
 |[],[]=>rfl
 |[],e::es=>by simp[eqL]
 |d::ds,[]=>by simp[eqL]
 |d::ds,e::es=>by
  have ih:=bX ds es;show(((List.range (min (ds.length+1) (es.length+1))).all _)&&_)=(eqD d e&&eqL ds es);rw[<-ih,show min (ds.length+1) (es.length+1)=min ds.length es.length+1 by omega,List.range_succ_eq_map,List.all_cons,List.all_map];have e1:((d::ds).length==(e::es).length)=(ds.length==es.length):=by simp
  rw[e1,Bool.and_assoc];rfl
end
section
variable {X:Cx} {pins:List (Addr×Obj)} {σ:St} {H:Hp} {s:Shared}
theorem jW (A:Around):A.in1.units=A.units+1:=rfl
theorem lU:∀ {ds:List D} {i:Nat} {d:D},ds[i]?=some d->dep d<=dP ds
 |[],_,_,h=>by simp at h
 |c::ds,0,d,h=>by
  simp at h;subst h;show dep c<=max (dep c) (dP ds);omega
 |c::ds,i+1,d,h=>by
  have:=lU (ds:=ds) (i:=i) (by simpa using h);show dep d<=max (dep c) (dP ds);omega
theorem iV:∀ {ds:List D} {i:Nat} {d:D},okL ds=true->ds[i]?=some d->okE d=true
 |[],_,_,_,h=>by simp at h
 |c::ds,0,d,ho,h=>by
  simp at h;subst h;have ho':(okE c&&okL ds)=true:=ho;rw[and_eq_true]at ho';exact ho'.1
 |c::ds,i+1,d,ho,h=>by
  have ho':(okE c&&okL ds)=true:=ho;rw[and_eq_true]at ho';exact iV (ds:=ds) (i:=i) ho'.2 (by simpa using h)
theorem getD_some {ds:List D} (h:ds[i]?=some d):ds.getD i .non=d:=by rw[List.getD_eq_getElem?_getD,h];rfl
theorem fO (go:∀ (i:Nat) (d e:D) (x y:V) (u w:Value),ds[i]?=some d->es[i]?=some e->Is X.K H d x->Is X.K H e y->RelV x u->RelV y w->SeqAt.EqAt A s u w (eqD d e)) (il:IsL X.K H ds xs) (jl:IsL X.K H es ys) (r:Vals xs us) (q:Vals ys ws) (j:Nat) (h1:j<us.toArray.size) (h2:j<ws.toArray.size):SeqAt.EqAt A s us.toArray[j] ws.toArray[j] (eqD (ds.getD j .non) (es.getD j .non)):=by
 have hx:us[j]?=some us.toArray[j]:=by simp at h1⊢
 have hy:ws[j]?=some ws.toArray[j]:=by simp at h2⊢
 obtain⟨x,e1,r1⟩:=paired_get' r hx;obtain⟨y,e2,r2⟩:=paired_get' q hy;obtain⟨d,e3,i3⟩:=il.get' e1;obtain⟨e,e4,i4⟩:=jl.get' e2;rw[getD_some e3,getD_some e4];exact go j d e x y _ _ e3 e4 i3 i4 r1 r2
theorem jY (h:Is X.K H d x) (f:bq d=true):gA x=true/\x=toV d:=let⟨a,b⟩:=ii f h;⟨b,a⟩
theorem B4 (f:bq d=true) (g:bq e=true):eqV (toV d) (toV e)=eqD d e:=by
 cases d<;>cases e<;>first|exact(Bool.false_ne_true f).elim|exact(Bool.false_ne_true g).elim|rfl
theorem jZ (ds es:List D) (h:ds.length=es.length):((List.range ds.length).all λj=>eqD (ds.getD j .non) (es.getD j .non))=eqL ds es:=by
 have:=bX ds es;rw[<-this,h];simp
theorem pV (h:ds.length≠es.length):eqL ds es=false:=by
 rw[<-bX];have:(ds.length==es.length)=false:=by simpa using h
 rw[this,Bool.and_false]
theorem Fl (I:Inv X pins σ H s):∀ (n:Nat) (A:Around) (d e:D) (x y:V) (u w:Value),dep d<=n->A.units+n<cLine->okE d=true->okE e=true->Is X.K H d x->Is X.K H e y->RelV x u->RelV y w->SeqAt.EqAt A s u w (eqD d e):=by
 intro n;induction n with
 |zero=>
  intro A d e x y u w hn hu od oe hx hy rx ry;have fd:bq d=true:=by
   cases d with
   |tup ds=>exact absurd (show dP ds+1<=0 from hn) (by omega)
   |lst ds=>exact absurd (show dP ds+1<=0 from hn) (by omega)
   |ty _=>cases od
   |adr _=>cases od
   |obj _ _ _=>cases od
   |dct _ _=>cases od
   |_=>rfl
  have hu':A.units<cLine:=by omega
  cases fe:bq e with
  |true=>
   obtain⟨f1,e1⟩:=jY hx fd;obtain⟨f2,e2⟩:=jY hy fe;rw[<-B4 fd fe,<-e1,<-e2];exact ye rx ry f1 f2
  |false=>
   cases e with
   |tup es=>
    obtain⟨b,ys,rfl,q,l⟩:=hy;cases ry;obtain⟨its,rv,p,_⟩:=I.tuple q;cases d with
    |non=>cases(hx);cases rx;exact SeqAt.EqAt.none_tuple p hu'
    |bl c=>cases(hx);cases rx;exact SeqAt.EqAt.bool_tuple c p hu'
    |int c=>cases(hx);obtain⟨t,rfl⟩:=rx;exact SeqAt.EqAt.int_tuple c t p hu'
    |str c=>cases(hx);obtain⟨t,rfl⟩:=rx;exact SeqAt.EqAt.str_tuple c t p hu'
    |_=>cases fd
   |lst es=>
    obtain⟨b,ys,rfl,q,l⟩:=hy;cases ry;obtain⟨its,rv,p,_⟩:=I.list q;cases d with
    |non=>cases(hx);cases rx;exact SeqAt.EqAt.none_list p.isList hu'
    |bl c=>cases(hx);cases rx;exact SeqAt.EqAt.bool_list c p.isList hu'
    |int c=>cases(hx);obtain⟨t,rfl⟩:=rx;exact SeqAt.EqAt.int_list c t p.isList hu'
    |str c=>cases(hx);obtain⟨t,rfl⟩:=rx;exact SeqAt.EqAt.str_list c t p.isList hu'
    |_=>cases fd
   |ty _=>cases oe
   |adr _=>cases oe
   |obj _ _ _=>cases oe
   |dct _ _=>cases oe
   |_=>cases fe
 |succ n ih=>
  intro A d e x y u w hn hu od oe hx hy rx ry;have hu':A.units<cLine:=by omega
  cases fd:bq d with
  |true=>
   have h0:dep d<=n:=by
    cases d<;>first|exact Nat.zero_le _|cases fd
   exact ih A d e x y u w h0 (by omega) od oe hx hy rx ry
  |false=>
   cases d with
   |tup ds=>
    have hdn:=Nat.le_of_succ_le_succ (hn);obtain⟨a,xs,rfl,q,l⟩:=hx;cases rx;obtain⟨its,rv,p,_⟩:=I.tuple q;cases e with
    |tup es=>
     obtain⟨b,ys,rfl,q',l'⟩:=hy;cases ry;obtain⟨its',rv',p',_⟩:=I.tuple q';by_cases hab:a=b
     ·subst hab;cases I.tuple_inj q q';cases IsL.inj I ds es xs od oe l l';rw[show eqD (.tup ds) (.tup ds)=true from gJ ds od];exact SeqAt.EqAt.same _
     ·refine SeqAt.EqAt.of_refs hab ?_;have h:=SeqAt.RcAt.tuples p p' hu' λj h1 h2=>fO (λi d e x y u w e1 e2 i1 i2 r1 r2=>ih A.in1 d e x y u w (Nat.le_trans (lU e1) hdn) (by rw[jW];omega) (iV od e1) (iV oe e2) i1 i2 r1 r2) l l' rv rv' j h1 h2;have e1:its.toArray.size=ds.length:=by rw[size_toArray,<-rv.length,l.len]
      have e2:its'.toArray.size=es.length:=by rw[size_toArray,<-rv'.length,l'.len]
      rw[e1,e2,bX]at h;exact h
    |lst es=>
     obtain⟨b,ys,rfl,q',l'⟩:=hy;cases ry;obtain⟨its',rv',p',_⟩:=I.list q';exact SeqAt.EqAt.tuple_list p p'.isList hu'
    |non=>cases(hy);cases ry;exact SeqAt.EqAt.tuple_none p hu'
    |bl c=>cases(hy);cases ry;exact SeqAt.EqAt.tuple_bool c p hu'
    |int c=>cases(hy);obtain⟨t,rfl⟩:=ry;exact SeqAt.EqAt.tuple_int c t p hu'
    |str c=>cases(hy);obtain⟨t,rfl⟩:=ry;exact SeqAt.EqAt.tuple_str c t p hu'
    |ty _=>cases oe
    |adr _=>cases oe
    |obj _ _ _=>cases oe
    |dct _ _=>cases oe
   |lst ds=>
    have hdn:=Nat.le_of_succ_le_succ (hn);obtain⟨a,xs,rfl,q,l⟩:=hx;cases rx;obtain⟨its,rv,p,_⟩:=I.list q;cases e with
    |lst es=>
     obtain⟨b,ys,rfl,q',l'⟩:=hy;cases ry;obtain⟨its',rv',p',_⟩:=I.list q';have e1:its.toArray.size=ds.length:=by rw[size_toArray,<-rv.length,l.len]
     have e2:its'.toArray.size=es.length:=by rw[size_toArray,<-rv'.length,l'.len]
     by_cases hab:a=b
     ·subst hab;cases I.list_inj q q';cases IsL.inj I ds es xs od oe l l';rw[show eqD (.lst ds) (.lst ds)=true from gJ ds od];exact SeqAt.EqAt.same _
     ·refine SeqAt.EqAt.of_refs hab ?_;by_cases hl:ds.length=es.length
      ·have h:=SeqAt.RcAt.lists p.isList p'.isList (by rw[e1,e2,hl]) hu' λj h1 h2=>fO (λi d e x y u w e1 e2 i1 i2 r1 r2=>ih A.in1 d e x y u w (Nat.le_trans (lU e1) hdn) (by rw[jW];omega) (iV od e1) (iV oe e2) i1 i2 r1 r2) l l' rv rv' j h1 h2;rw[e1,jZ ds es hl]at h;exact h
      ·rw[show eqD (.lst ds) (.lst es)=false from pV hl];exact SeqAt.RcAt.lists_lengths p.isList p'.isList (by rw[e1,e2];simpa using hl) hu'
    |tup es=>
     obtain⟨b,ys,rfl,q',l'⟩:=hy;cases ry;obtain⟨its',rv',p',_⟩:=I.tuple q';exact SeqAt.EqAt.list_tuple p.isList p' hu'
    |non=>cases(hy);cases ry;exact SeqAt.EqAt.list_none p.isList hu'
    |bl c=>cases(hy);cases ry;exact SeqAt.EqAt.list_bool c p.isList hu'
    |int c=>cases(hy);obtain⟨t,rfl⟩:=ry;exact SeqAt.EqAt.list_int c t p.isList hu'
    |str c=>cases(hy);obtain⟨t,rfl⟩:=ry;exact SeqAt.EqAt.list_str c t p.isList hu'
    |ty _=>cases oe
    |adr _=>cases oe
    |obj _ _ _=>cases oe
    |dct _ _=>cases oe
   |ty _=>cases od
   |adr _=>cases od
   |obj _ _ _=>cases od
   |dct _ _=>cases od
   |_=>cases fd
def Fm:D->D->Bool
 |.tup _,.tup _=>true
 |.lst _,.lst _=>true
 |_,_=>false
def jq (d e:D):Option Bool:=if(bq d&&bq e&&xU (toV d) (toV e))=true then some (decide (toV d=toV e))else if(Fm d e&&okE d&&okE e&&decide (dep d<=50))=true then some (eqD d e)else none
def Fo (K:Frag) (neg:Bool):R2:=λx y H Q=>∃d e b,Is K H d x/\Is K H e y/\jq d e=some b/\Q (.bl (if neg then !b else b)) H
theorem cmpEq_cases (h:jq d e=some b):(bq d=true/\bq e=true/\xU (toV d) (toV e)=true/\b=decide (toV d=toV e))\/(Fm d e=true/\okE d=true/\okE e=true/\dep d<=50/\b=eqD d e):=by
 unfold jq at h;split at h
 ·rename_i c;rw[and_eq_true,and_eq_true]at c;exact .inl ⟨c.1.1,c.1.2,c.2,(Option.some.inj h).symm⟩
 ·split at h
  ·rename_i _ c;rw[and_eq_true,and_eq_true,and_eq_true]at c;exact .inr ⟨c.1.1.1,c.1.1.2,c.1.2,of_decide_eq_true c.2,(Option.some.inj h).symm⟩
  ·cases h
theorem im (I:Inv X pins σ H s) (hu:X.A.units+60<cLine) (od:okL ds=true) (oe:okL es=true) (hd:dP ds<=50):∀ (i:Nat) (d e:D) (x y:V) (u w:Value),ds[i]?=some d->es[i]?=some e->Is X.K H d x->Is X.K H e y->RelV x u->RelV y w->SeqAt.EqAt X.A.in1 s u w (eqD d e):=
 λi d e x y u w e1 e2 i1 i2 r1 r2=>Fl I 50 X.A.in1 d e x y u w (Nat.le_trans (lU e1) hd) (by rw[jW];omega) (iV od e1) (iV oe e2) i1 i2 r1 r2
theorem yu (hu:X.A.units+60<cLine):OpR X (compareOp .Eq) (Fo X.K false):=by
 intro pins s σ H x y v u Q I rx ry h;obtain⟨d,e,b,hx,hy,hb,q⟩:=h;have hu':X.A.units<cLine:=by omega
 rcases cmpEq_cases hb with⟨f1,f2,sc,rfl⟩|⟨sq,od,oe,hd,rfl⟩
 ·obtain⟨_,e1⟩:=jY hx f1;obtain⟨_,e2⟩:=jY hy f2;exact Ij pins s σ H x y v u Q I rx ry ⟨by rw[e1,e2];exact sc,by rw[e1,e2];exact q⟩
 ·cases d with
  |tup ds=>
   cases e with
   |tup es=>
    obtain⟨a,xs,rfl,q1,l⟩:=hx;obtain⟨c,ys,rfl,q2,l'⟩:=hy;cases rx;cases ry;obtain⟨its,rv,p,_⟩:=I.tuple q1;obtain⟨its',rv',p',_⟩:=I.tuple q2;have hd':dP ds<=50:=by have:dP ds+1<=50:=hd;omega
    have e1:its.toArray.size=ds.length:=by rw[size_toArray,<-rv.length,l.len]
    have e2:its'.toArray.size=es.length:=by rw[size_toArray,<-rv'.length,l'.len]
    have hh:=SeqAt.RcAt.tuples p p' hu' λj h1 h2=>fO (im I hu od oe hd') l l' rv rv' j h1 h2;rw[e1,e2,bX]at hh;exact hh X.prog X.w X.xe _ ⟨.bl _,H,I,rfl,q⟩
   |_=>cases sq
  |lst ds=>
   cases e with
   |lst es=>
    obtain⟨a,xs,rfl,q1,l⟩:=hx;obtain⟨c,ys,rfl,q2,l'⟩:=hy;cases rx;cases ry;obtain⟨its,rv,p,_⟩:=I.list q1;obtain⟨its',rv',p',_⟩:=I.list q2;have hd':dP ds<=50:=by have:dP ds+1<=50:=hd;omega
    have e1:its.toArray.size=ds.length:=by rw[size_toArray,<-rv.length,l.len]
    have e2:its'.toArray.size=es.length:=by rw[size_toArray,<-rv'.length,l'.len]
    by_cases hl:ds.length=es.length
    ·have hh:=SeqAt.RcAt.lists p.isList p'.isList (by rw[e1,e2,hl]) hu' λj h1 h2=>fO (im I hu od oe hd') l l' rv rv' j h1 h2;rw[e1,jZ ds es hl]at hh;exact hh X.prog X.w X.xe _ ⟨.bl _,H,I,rfl,q⟩
    ·have hh:SeqAt.RcAt X.A s (.ref a) (.ref c) false:=SeqAt.RcAt.lists_lengths p.isList p'.isList (by rw[e1,e2];simpa using hl) hu';rw[show eqD (.lst ds) (.lst es)=false from pV hl]at q;exact hh X.prog X.w X.xe _ ⟨.bl _,H,I,rfl,q⟩
   |_=>cases sq
  |_=>cases sq
theorem yw (hu:X.A.units+60<cLine):OpR X (compareOp .NotEq) (Fo X.K true):=by
 intro pins s σ H x y v u Q I rx ry h;obtain⟨d,e,b,hx,hy,hb,q⟩:=h;have hu':X.A.units<cLine:=by omega
 rcases cmpEq_cases hb with⟨f1,f2,sc,rfl⟩|⟨sq,od,oe,hd,rfl⟩
 ·obtain⟨_,e1⟩:=jY hx f1;obtain⟨_,e2⟩:=jY hy f2;exact Ik pins s σ H x y v u Q I rx ry ⟨by rw[e1,e2];exact sc,by rw[e1,e2];exact q⟩
 ·cases d with
  |tup ds=>
   cases e with
   |tup es=>
    obtain⟨a,xs,rfl,q1,l⟩:=hx;obtain⟨c,ys,rfl,q2,l'⟩:=hy;cases rx;cases ry;obtain⟨its,rv,p,_⟩:=I.tuple q1;obtain⟨its',rv',p',_⟩:=I.tuple q2;have hd':dP ds<=50:=by have:dP ds+1<=50:=hd;omega
    have e1:its.toArray.size=ds.length:=by rw[size_toArray,<-rv.length,l.len]
    have e2:its'.toArray.size=es.length:=by rw[size_toArray,<-rv'.length,l'.len]
    have hh:=SeqAt.RcNeAt.tuples p p' hu' λj h1 h2=>fO (im I hu od oe hd') l l' rv rv' j h1 h2;rw[e1,e2,bX]at hh;exact hh X.prog X.w X.xe _ ⟨.bl _,H,I,rfl,q⟩
   |_=>cases sq
  |lst ds=>
   cases e with
   |lst es=>
    obtain⟨a,xs,rfl,q1,l⟩:=hx;obtain⟨c,ys,rfl,q2,l'⟩:=hy;cases rx;cases ry;obtain⟨its,rv,p,_⟩:=I.list q1;obtain⟨its',rv',p',_⟩:=I.list q2;have hd':dP ds<=50:=by have:dP ds+1<=50:=hd;omega
    have e1:its.toArray.size=ds.length:=by rw[size_toArray,<-rv.length,l.len]
    have e2:its'.toArray.size=es.length:=by rw[size_toArray,<-rv'.length,l'.len]
    by_cases hl:ds.length=es.length
    ·have hh:=SeqAt.RcNeAt.lists p.isList p'.isList (by rw[e1,e2,hl]) hu' λj h1 h2=>fO (im I hu od oe hd') l l' rv rv' j h1 h2;rw[e1,jZ ds es hl]at hh;exact hh X.prog X.w X.xe _ ⟨.bl _,H,I,rfl,q⟩
    ·have hh:SeqAt.RcNeAt X.A s (.ref a) (.ref c) true:=SeqAt.RcNeAt.lists_lengths p.isList p'.isList (by rw[e1,e2];simpa using hl) hu';rw[show eqD (.lst ds) (.lst es)=false from pV hl]at q;exact hh X.prog X.w X.xe _ ⟨.bl _,H,I,rfl,q⟩
   |_=>cases sq
  |_=>cases sq
end
def aQ (neg:Bool) (d e:D):Option D:=(jq d e).bind λb=>some (.bl (if neg then !b else b))
theorem vh {K}:R2D K (Fo K neg) (aQ neg):=λO H x y dx dy d Q hd ix iy e k=>by
 obtain⟨b,e1,e2⟩:=bind_some e;cases e2;exact⟨dx,dy,b,ix.full,iy.full,e1,k _ H (Same.refl _) rfl⟩
section
variable {X:Cx} {pos:Pos} {a b e:Expr}
theorem room60 (r:Room k A):A.units+60<cLine:=by have:=r.un;omega
theorem IX (r:Room k X.A) (ha:PP X a fa) (hb:PP X b fb):PP X (.Compare a [.Eq] [b] pos) (ac (aQ false) fa fb):=pp_cmp (yu (room60 r)) vh ha hb (dC _)
theorem IY (r:Room k X.A) (ha:PP X a fa) (hb:PP X b fb):PP X (.Compare a [.NotEq] [b] pos) (ac (aQ true) fa fb):=pp_cmp (yw (room60 r)) vh ha hb (dC _)
theorem IZ (r:Room k X.A) (ha:PP X a fa) (hb:PP X b fb):PQ X (.Compare a [.Eq] [b] pos) (aD (ac (aQ false) fa fb)):=pq_cmp (yu (room60 r)) vh ha hb (dC _)
theorem I0 (r:Room k X.A) (ha:PP X a fa) (hb:PP X b fb):PQ X (.Compare a [.NotEq] [b] pos) (aD (ac (aQ true) fa fb)):=pq_cmp (yw (room60 r)) vh ha hb (dC _)
structure Cn (K:Frag) (mg:Str->Option Value) (x:Str) (d:D):Prop where
 ex:∃v u,mg x=some u/\RelV v u/\∀H,Is K H d v
theorem yx (c:Cn X.K X.mg x d) (hg:Gl X x) (hd:(x==("__debug__":Str))=false:=by decide):PP X (.Name x pos) (λ_=>some d):=by
 obtain⟨v,u,h1,h2,h3⟩:=c.ex;exact BO hg h1 h2 h3 hd
end
def ItK:Bool->Heap->Addr->Addr->Nat->Prop
 |true,h,it,l,k=>h.IsListIter it l k
 |false,h,it,l,k=>h.IsTupleIter it l k
def CoK:Bool->Heap->Addr->Array Value->Prop
 |true,h,l,its=>h.IsList l its
 |false,h,l,its=>h.IsTuple l its
theorem ItK.at (x:ItK b h it l k) (e:∀o,h.get? it=some o->h'.get? it=some o):ItK b h' it l k:=by
 cases b
 ·exact Heap.IsTupleIter.at x e
 ·exact Heap.IsListIter.at x e
theorem CoK.at (x:CoK b h l its) (e:∀o,h.get? l=some o->h'.get? l=some o):CoK b h' l its:=by
 cases b
 ·obtain⟨o,a,r⟩:=x;exact⟨o,e o a,r⟩
 ·exact Heap.IsList.at x e
theorem ItK.live (x:ItK b h it l k):∃o n vs,h.get? it=some o/\o.cls=.type n/\o.data=.fields vs/\(n="list_iterator"\/n="tuple_iterator"):=by
 cases b
 ·obtain⟨o,e,c,d⟩:=x;exact⟨o,_,_,e,c,d,.inr rfl⟩
 ·obtain⟨o,e,c,d⟩:=x;exact⟨o,_,_,e,c,d,.inl rfl⟩
section
variable {prog:Program} {w:World} {A:Around} {E:Value->Shared->Prop} {s:Shared}
theorem yy (hit:s.heap.IsTupleIter it t i) (ht:s.heap.IsTuple t its) (hx:its[i]?=some x) (hQ:∀h',h'.IsTupleIter it t (i+1)->Heap.SameBut it s.heap h'->Q x {s with heap:=h'}):wpAny (model prog w) A (Builtin.SmallTypes.nextOf (.ref it)) Q E s:=by
 obtain⟨o,ho,hc,hd⟩:=id hit;obtain⟨ol,hol,_,nl,hdl⟩:=ht;have go:wpAny (model prog w) A.in1 (Builtin.«tuple_iterator.__next__» ⟨[.ref it],[]⟩) (λfin s'=>∃v,fin=.done (.ret v)/\wpAny (model prog w) A (pure v) Q E s') E s:=by
  show wpAny _ _ (field (.ref it) 0>>=_) _ _ s;refine wpAny_bind (wpAny_field ho hd rfl ?_);refine wpAny_bind (wpAny_field ho hd rfl ?_);refine wpAny_bind (wpAny_seqItems hol hdl ?_);simp only[Int.toNat_natCast,hx];refine wpAny_bind (wpAny_setField ho hd (by simp) (wpAny_pure ⟨x,rfl,wpAny_pure (hQ _ ⟨_,Heap.get?_update_self _ ho (Obj.isFreed_of_fields (Obj.data_mapFields hd _)),(Obj.cls_mapFields ..).trans hc,?_⟩ (Heap.SameBut.update ..))⟩));rw[Obj.data_mapFields hd];simp[rawInt]
 exact wpAny_bind (wpAny_callSpecial?_slot hit.typeIs F.slot_tuple_iterator_next (wpAny_call_entry F.slot_tuple_iterator_next hit.typeIs F.entry_tuple_iterator_next go (F.args_tuple_iterator_next_1 _)))
theorem pW (hh:A.handled=none) (hit:s.heap.IsTupleIter it t i) (ht:s.heap.IsTuple t its) (hx:its[i]?=none) (hE:∀h' e,Heap.ExtBut it s.heap h'->(∃o,h'.get? e=some o/\o.cls=.type "StopIteration")->E (.ref e) {s with heap:=h'}):wpAny (model prog w) A (Builtin.SmallTypes.nextOf (.ref it)) Q E s:=by
 obtain⟨o,ho,hc,hd⟩:=id hit;obtain⟨ol,hol,_,nl,hdl⟩:=ht;refine wpAny_bind (wpAny_callSpecial?_slot hit.typeIs F.slot_tuple_iterator_next (wpAny_call_entry F.slot_tuple_iterator_next hit.typeIs F.entry_tuple_iterator_next ?_ (F.args_tuple_iterator_next_1 _)));show wpAny _ _ (field (.ref it) 0>>=_) _ _ s;refine wpAny_bind (wpAny_field ho hd rfl ?_);refine wpAny_bind (wpAny_field ho hd rfl ?_);refine wpAny_bind (wpAny_seqItems hol hdl ?_);simp only[Int.toNat_natCast,hx];refine wpAny_bind (wpAny_rule (wpAny_bind (wpAny_setField ho hd (by simp) ?_)));refine wpAny_bind ?_;refine wpAny_bind (wpAny_newObj_type ?_ (by size_fits));refine wpAny_bind (wpAny_of_eq (by first|rfl|(simp only[firstArgMember];rfl)) ?_);refine wpAny_newObj_type ?_ (by size_fits);refine wpAny_bind (wpAny_handled ?_);first|rw[show A.in1.handled=none from hh]|rw[hh]
 refine wpAny_bind (wpAny_pure (wpAny_throw ?_));exact hE _ _ (((Heap.SameBut.update ..).extBut.push _).push _) ⟨_,Heap.get?_push_size _ rfl,rfl⟩
theorem vi (hit:ItK b s.heap it l i) (ht:CoK b s.heap l its) (hx:its[i]?=some x) (hQ:∀h',ItK b h' it l (i+1)->Heap.SameBut it s.heap h'->Q x {s with heap:=h'}):wpAny (model prog w) A (Builtin.SmallTypes.nextOf (.ref it)) Q E s:=by
 cases b
 ·exact yy hit ht hx hQ
 ·exact wpAny_nextOf_list_item hit ht hx hQ
theorem j3 (hh:A.handled=none) (hit:ItK b s.heap it l i) (ht:CoK b s.heap l its) (hx:its[i]?=none) (hE:∀h' e,Heap.ExtBut it s.heap h'->(∃o,h'.get? e=some o/\o.cls=.type "StopIteration")->E (.ref e) {s with heap:=h'}):wpAny (model prog w) A (Builtin.SmallTypes.nextOf (.ref it)) Q E s:=by
 cases b
 ·exact pW hh hit ht hx hE
 ·exact wpAny_nextOf_list_end hh hit ht hx hE
structure ZA (z TI TO i1 i2:Addr):Prop where
 TIz:TI≠z
 TOz:TO≠z
 i1z:i1≠z
 i2z:i2≠z
 TITO:TI≠TO
 TIi1:TI≠i1
 TIi2:TI≠i2
 TOi1:TO≠i1
 TOi2:TO≠i2
 i12:i1≠i2
structure ZL (z TO i1 i2 l:Addr):Prop where
 z:l≠z
 TO:l≠TO
 i1:l≠i1
 i2:l≠i2
structure ZSt (b c:Bool) (z TI TO i1 i2 l1 l2:Addr) (f0:Value) (k:Nat) (h:Heap):Prop where
 ap:ZA z TI TO i1 i2
 hz:IsZip h z TI TO f0
 hI:IsPair h TI (.ref i1) (.ref i2)
 hO:∃a d,IsPair h TO a d
 h1:ItK b h i1 l1 k
 h2:ItK c h i2 l2 k
theorem ItK.ext (x:ItK b h it l k) (e:Heap.SameBut c h h') (hc:it≠c):ItK b h' it l k:=x.at λo q=>e.extBut _ _ hc q
theorem CoK.ext (x:CoK b h l its) (e:Heap.SameBut c h h') (hc:l≠c):CoK b h' l its:=x.at λo q=>e.extBut _ _ hc q
theorem yz {z TI TO i1 i2 l1 l2} (Z:ZSt b c z TI TO i1 i2 l1 l2 .none k s.heap) (L1:ZL z TO i1 i2 l1) (L2:ZL z TO i1 i2 l2) (c1:CoK b s.heap l1 xs) (c2:CoK c s.heap l2 ys) (hx:xs[k]?=some x) (hy:ys[k]?=some y) (hQ:∀h',ZSt b c z TI TO i1 i2 l1 l2 (rawInt s.heap.objs.size) (k+1) h'->IsPair h' s.heap.objs.size x y->h'.objs.size=s.heap.objs.size+1->
   (∀d o,d≠z->d≠TO->d≠i1->d≠i2->s.heap.get? d=some o->h'.get? d=some o)->Q (some (.ref s.heap.objs.size)) {s with heap:=h'}):wpAny (model prog w) A (pyNext (.ref z)) Q E s:=by
 obtain⟨D,hz,hI,⟨a0,d0,hO⟩,h1,h2⟩:=Z
 have hT:s.TypeIs (.ref z) "zip":=⟨_,hz,rfl⟩
 have go:wpAny (model prog w) A.in1 (Builtin.«zip.__next__» ⟨[.ref z],[]⟩) (λfin s'=>∃v,fin=.done (.ret v)/\Q (some v) s') (λe s'=>False) s:=by
  show wpAny _ _ (field (.ref z) 2>>=_) _ _ _;refine wpAny_bind (wpAny_field hz rfl (x:=.bool false) rfl ?_);refine wpAny_bind (wpAny_field hz rfl rfl (wpAny_bind (wpAny_seqItems hI rfl ?_)));refine wpAny_bind ?_;refine wpAny_bind (wpAny_field hz rfl rfl (wpAny_pure ?_));refine wpAny_bind (wpAny_rule (wpAny_bind (wpAny_field hz rfl rfl (wpAny_bind (wpAny_setField_rec hz (by simp) λg1 z1 s1=>?_)))));replace z1:IsZip g1 z TI TO .ellipsis:=z1;refine wpAny_bind ?_;simp only[List.zipIdx_cons,List.zipIdx_nil,List.forIn_cons,List.forIn_nil];refine wpAny_bind (wpAny_bind (wpAny_onRaise ?_));refine wpAny_bind (vi (h1.ext s1 D.i1z) (c1.ext s1 L1.z) hx λg2 k2 s2=>wpAny_pure ?_);have O2:=s2.extBut _ _ D.TOi1 (s1.extBut _ _ D.TOz hO);refine wpAny_bind (wpAny_seqItems O2 rfl (wpAny_bind (wpAny_updateSeq_pair O2 λg3 O3 s3=>wpAny_bind (wpAny_letGo (wpAny_pure ?_)))));replace O3:IsPair g3 TO x d0:=O3;refine wpAny_bind (wpAny_bind (wpAny_onRaise ?_));refine wpAny_bind (vi (((h2.ext s1 D.i2z).ext s2 D.i12.symm).ext s3 D.TOi2.symm) (((c2.ext s1 L2.z).ext s2 L2.i1).ext s3 L2.TO) hy λg4 k4 s4=>wpAny_pure ?_);have O4:=s4.extBut _ _ D.TOi2 O3;refine wpAny_bind (wpAny_seqItems O4 rfl (wpAny_bind (wpAny_updateSeq_pair O4 λg5 O5 s5=>wpAny_bind (wpAny_letGo (wpAny_pure (wpAny_pure ?_))))));replace O5:IsPair g5 TO x y:=O5;refine wpAny_bind (wpAny_seqItems O5 rfl (wpAny_bind (wpAny_newTuple ?_)));have sz:g5.objs.size=s.heap.objs.size:=by rw[s5.1,s4.1,s3.1,s2.1,s1.1]
  have z5:=s5.extBut _ _ D.TOz.symm (s4.extBut _ _ D.i2z.symm (s3.extBut _ _ D.TOz.symm (s2.extBut _ _ D.i1z.symm z1)));have up5:∀d o,d≠z->d≠TO->d≠i1->d≠i2->s.heap.get? d=some o->g5.get? d=some o:=λd o n1 n2 n3 n4 e=>
   s5.extBut _ _ n2 (s4.extBut _ _ n4 (s3.extBut _ _ n2 (s2.extBut _ _ n3 (s1.extBut _ _ n1 e))))
  have a5:=((k2.ext s3 D.TOi1.symm).ext s4 D.i12).ext s5 D.TOi1.symm;have b5:=k4.ext s5 D.TOi2.symm;have zlt:=Heap.lt_size z5;refine wpAny_bind ?_;have z6:IsZip (g5.push {cls:=.type "tuple",data:=.seq #[x,y]}) z TI TO .ellipsis:=Heap.get?_push_of_some _ z5;refine wpAny_bind (wpAny_setField_rec z6 (by simp) λg7 z7 s7=>?_);replace z7:IsZip g7 z TI TO (rawInt g5.objs.size):=z7;refine wpAny_setField_rec z7 (by simp) λg8 z8 s8=>?_;replace z8:IsZip g8 z TI TO _:=z8;have up:∀d o,d≠z->g5.get? d=some o->g8.get? d=some o:=λd o n1 e=>s8.extBut _ _ n1 (s7.extBut _ _ n1 (Heap.get?_push_of_some _ e));have T8:=s8.extBut _ _ (Nat.ne_of_gt zlt) (s7.extBut _ _ (Nat.ne_of_gt zlt) (Heap.get?_push_size _ rfl));have sz8:g8.objs.size=g5.objs.size+1:=by rw[s8.1,s7.1,Heap.size_push]
  rw[sz]at z8 T8 sz8;refine wpAny_pure ⟨_,rfl,?_⟩;rw[sz];exact hQ g8 ⟨D,z8,up _ _ D.TIz (up5 _ _ D.TIz D.TITO D.TIi1 D.TIi2 hI),⟨_,_,up _ _ D.TOz O5⟩,a5.at λo e=>up _ o D.i1z e,b5.at λo e=>up _ o D.i2z e⟩ T8 sz8 λd o n1 n2 n3 n4 e=>up d o n1 (up5 d o n1 n2 n3 n4 e)
 refine wpAny_bind (wpAny_attempt (wpAny_callSpecial?_slot hT F.slot_zip_next (wpAny_call_entry F.slot_zip_next hT F.entry_zip_next (wpAny_mono go (λfin s' ⟨v,e,q⟩=>⟨v,e,wpAny_pure q⟩) λ_ _ q=>q.elim) (F.args_zip_next_1 _))))
end
section
variable {prog:Program} {w:World} {A:Around} {E:Value->Shared->Prop} {s:Shared}
theorem yA {z TI TO i1 i2 l1 l2} (hh:A.handled=none) (Z:ZSt b c z TI TO i1 i2 l1 l2 .none k s.heap) (L1:ZL z TO i1 i2 l1) (L2:ZL z TO i1 i2 l2) (c1:CoK b s.heap l1 xs) (c2:CoK c s.heap l2 ys) (hend:xs[k]?=none\/ys[k]?=none) (hQ:∀h',(∀d o,d≠z->d≠TO->d≠i1->d≠i2->s.heap.get? d=some o->h'.get? d=some o)->Q none {s with heap:=h'}):wpAny (model prog w) A (pyNext (.ref z)) Q E s:=by
 obtain⟨D,hz,hI,⟨a0,d0,hO⟩,h1,h2⟩:=Z;have hT:s.TypeIs (.ref z) "zip":=⟨_,hz,rfl⟩;let EE:Value->Shared->Prop:=λe s'=>∃h' a,e=.ref a/\s'={s with heap:=h'}/\(∀d o,d≠z->d≠TO->d≠i1->d≠i2->s.heap.get? d=some o->h'.get? d=some o)/\∃o,h'.get? a=some o/\o.cls=.type "StopIteration";have go:wpAny (model prog w) A.in1 (Builtin.«zip.__next__» ⟨[.ref z],[]⟩) (λfin s'=>False) EE s:=by
  show wpAny _ _ (field (.ref z) 2>>=_) _ _ _;refine wpAny_bind (wpAny_field hz rfl (x:=.bool false) rfl ?_);refine wpAny_bind (wpAny_field hz rfl rfl (wpAny_bind (wpAny_seqItems hI rfl ?_)));refine wpAny_bind ?_;refine wpAny_bind (wpAny_field hz rfl rfl (wpAny_pure ?_));refine wpAny_bind (wpAny_rule (wpAny_bind (wpAny_field hz rfl rfl (wpAny_bind (wpAny_setField_rec hz (by simp) λg1 z1 s1=>?_)))));replace z1:IsZip g1 z TI TO .ellipsis:=z1;refine wpAny_bind ?_;simp only[List.zipIdx_cons,List.zipIdx_nil,List.forIn_cons,List.forIn_nil];refine wpAny_bind (wpAny_bind (wpAny_onRaise ?_));cases hx:xs[k]? with
  |none=>
   refine wpAny_bind (j3 hh (h1.ext s1 D.i1z) (c1.ext s1 L1.z) hx λg2 e s2 he=>?_);obtain⟨oe,hoe,hce⟩:=he;have z2:=s2 _ _ D.i1z.symm z1;have hez:e≠z:=λq=>by subst q;rw[z2]at hoe;cases hoe;simp at hce
   refine wpAny_setField_rec z2 (by simp) λg3 _ s3=>?_;exact⟨g3,e,rfl,rfl,λd o n1 _ n3 _ q=>s3.extBut _ _ n1 (s2 _ _ n3 (s1.extBut _ _ n1 q)),oe,s3.extBut _ _ hez hoe,hce⟩
  |some x=>
   have hy:ys[k]?=none:=by
    rcases hend with h|h
    ·rw[hx]at h;cases h
    ·exact h
   refine wpAny_bind (vi (h1.ext s1 D.i1z) (c1.ext s1 L1.z) hx λg2 k2 s2=>wpAny_pure ?_);have O2:=s2.extBut _ _ D.TOi1 (s1.extBut _ _ D.TOz hO);refine wpAny_bind (wpAny_seqItems O2 rfl (wpAny_bind (wpAny_updateSeq_pair O2 λg3 O3 s3=>wpAny_bind (wpAny_letGo (wpAny_pure ?_)))));refine wpAny_bind (wpAny_bind (wpAny_onRaise ?_));refine wpAny_bind (j3 hh (((h2.ext s1 D.i2z).ext s2 D.i12.symm).ext s3 D.TOi2.symm) (((c2.ext s1 L2.z).ext s2 L2.i1).ext s3 L2.TO) hy λg4 e s4 he=>?_);obtain⟨oe,hoe,hce⟩:=he;have z4:=s4 _ _ D.i2z.symm (s3.extBut _ _ D.TOz.symm (s2.extBut _ _ D.i1z.symm z1));have hez:e≠z:=λq=>by subst q;rw[z4]at hoe;cases hoe;simp at hce
   refine wpAny_setField_rec z4 (by simp) λg5 _ s5=>?_;exact⟨g5,e,rfl,rfl,λd o n1 n2 n3 n4 q=>s5.extBut _ _ n1 (s4 _ _ n4 (s3.extBut _ _ n2 (s2.extBut _ _ n3 (s1.extBut _ _ n1 q)))),oe,s5.extBut _ _ hez hoe,hce⟩
 refine wpAny_bind (wpAny_attempt (wpAny_callSpecial?_slot hT F.slot_zip_next (wpAny_call_entry F.slot_zip_next hT F.entry_zip_next (wpAny_mono go (λ_ _ q=>q.elim) λe s' q=>?_) (F.args_zip_next_1 _))));obtain⟨h',a,rfl,rfl,hk,o,ho,hc⟩:=q;exact wpAny_bind (wpAny_isInstance ⟨o,ho,hc⟩ isSubtype_stop (wpAny_pure (hQ _ hk)))
def aT:Bool->Addr->Obj
 |true,l=>{cls:=.type "list_iterator",data:=.fields #[.ref l,.int 0 0]}
 |false,l=>{cls:=.type "tuple_iterator",data:=.fields #[.ref l,.int 0 0]}
theorem rG (h:CoK b s.heap l its) (hQ:Q (.ref s.heap.objs.size) {s with heap:=s.heap.push (aT b l)}):wpAny (model prog w) A (pyIter (.ref l)) Q E s:=by
 cases b
 ·exact wpAny_pyIter_tuple h hQ
 ·exact wpAny_pyIter_list h hQ
abbrev zG (h:Heap) (b c:Bool) (l1 l2:Addr):Heap:=((((h.push (aT b l1)).push (aT c l2)).push {cls:=.type "tuple",data:=.seq #[.ref h.objs.size,.ref (h.push (aT b l1)).objs.size]}).push {cls:=.type "tuple",data:=.seq #[.none,.none]}).push
 {cls:=.type "zip",data:=.fields #[.none,.bool false,.bool false,.ref ((h.push (aT b l1)).push (aT c l2)).objs.size,.ref (((h.push (aT b l1)).push (aT c l2)).push {cls:=.type "tuple",data:=.seq #[.ref h.objs.size,.ref (h.push (aT b l1)).objs.size]}).objs.size]}
theorem yB (b c:Bool) (l1 l2:Addr) (xs ys:Array Value):
  Meets (Builtin.«zip.__new__» ⟨[.type "zip",.ref l1,.ref l2],[]⟩) (λ_ R s=>CoK b s.heap l1 xs/\CoK c s.heap l2 ys/\
   R (.ok (.ret (.ref (s.heap.objs.size+4)))) {s with heap:=zG s.heap b c l1 l2}):=
 .of_wp λprog w A R s h=>by
  obtain⟨hp,g,d,tk,os⟩:=s;obtain⟨hl1,hl2,h⟩:=h;have hsub:=sub_zip;have hL1:CoK b (Shared.heap ⟨hp,g,d,tk,os⟩) l1 xs:=hl1;have hL2:CoK c (Shared.heap ⟨hp.push (aT b l1),g,d,tk,os⟩) l2 ys:=CoK.at hl2 λo e=>Heap.get?_push_of_some _ e;wp_walk using rG hL1,rG hL2;refine⟨_,rfl,?_⟩;have z4:((((hp.push (aT b l1)).push (aT c l2)).push {cls:=.type "tuple",data:=.seq #[.ref hp.objs.size,.ref (hp.push (aT b l1)).objs.size]}).push {cls:=.type "tuple",data:=.seq #[.none,.none]}).objs.size=hp.objs.size+4:=by
   rw[Heap.size_push,Heap.size_push,Heap.size_push,Heap.size_push]
  rw[<-z4]at h;exact h
theorem w4 (hl1:CoK b s.heap l1 xs) (hl2:CoK c s.heap l2 ys) (h:∀h',ZSt b c (s.heap.objs.size+4) (s.heap.objs.size+2) (s.heap.objs.size+3) s.heap.objs.size (s.heap.objs.size+1) l1 l2 .none 0 h'->h'.objs.size=s.heap.objs.size+5->
   (∀d o,s.heap.get? d=some o->h'.get? d=some o)->Q (.ref (s.heap.objs.size+4)) {s with heap:=h'}):
  wpAny (model prog w) A (call (.type "zip") [.ref l1,.ref l2]) Q E s:=by
 refine callType_new F.called_zip (by decide) (F.typeCall_zip_2 _ _) (F.newCall_zip_2 _ _) (λobj=>F.args_object_init_3 obj _ _) F.entry_zip_new (yB b c l1 l2 xs ys) ⟨hl1,hl2,?_⟩
 have z1:(s.heap.push (aT b l1)).objs.size=s.heap.objs.size+1:=Heap.size_push ..
 have z2:((s.heap.push (aT b l1)).push (aT c l2)).objs.size=s.heap.objs.size+2:=by rw[Heap.size_push,z1]
 have z3:(((s.heap.push (aT b l1)).push (aT c l2)).push {cls:=.type "tuple",data:=.seq #[.ref s.heap.objs.size,.ref (s.heap.push (aT b l1)).objs.size]}).objs.size=s.heap.objs.size+3:=by rw[Heap.size_push,z2]
 have z4:((((s.heap.push (aT b l1)).push (aT c l2)).push {cls:=.type "tuple",data:=.seq #[.ref s.heap.objs.size,.ref (s.heap.push (aT b l1)).objs.size]}).push {cls:=.type "tuple",data:=.seq #[.none,.none]}).objs.size=s.heap.objs.size+4:=by rw[Heap.size_push,z3]
 have z5:(zG s.heap b c l1 l2).objs.size=s.heap.objs.size+5:=by rw[Heap.size_push,z4]
 have g5:IsZip (zG s.heap b c l1 l2) (s.heap.objs.size+4) (s.heap.objs.size+2) (s.heap.objs.size+3) .none:=by
  have:=Heap.get?_push_size ((((s.heap.push (aT b l1)).push (aT c l2)).push {cls:=.type "tuple",data:=.seq #[.ref s.heap.objs.size,.ref (s.heap.push (aT b l1)).objs.size]}).push {cls:=.type "tuple",data:=.seq #[.none,.none]})
   (o:={cls:=.type "zip",data:=.fields #[.none,.bool false,.bool false,.ref ((s.heap.push (aT b l1)).push (aT c l2)).objs.size,.ref (((s.heap.push (aT b l1)).push (aT c l2)).push {cls:=.type "tuple",data:=.seq #[.ref s.heap.objs.size,.ref (s.heap.push (aT b l1)).objs.size]}).objs.size]}) rfl
  rw[z4]at this;rw[<-z2,<-z3];exact this
 have g4:IsPair (zG s.heap b c l1 l2) (s.heap.objs.size+3) .none .none:=by
  have:=Heap.get?_push_size (((s.heap.push (aT b l1)).push (aT c l2)).push {cls:=.type "tuple",data:=.seq #[.ref s.heap.objs.size,.ref (s.heap.push (aT b l1)).objs.size]}) (o:={cls:=.type "tuple",data:=.seq #[.none,.none]}) rfl;rw[z3]at this;exact Heap.get?_push_of_some _ this
 have g3:IsPair (zG s.heap b c l1 l2) (s.heap.objs.size+2) (.ref s.heap.objs.size) (.ref (s.heap.objs.size+1)):=by
  have:=Heap.get?_push_size ((s.heap.push (aT b l1)).push (aT c l2)) (o:={cls:=.type "tuple",data:=.seq #[.ref s.heap.objs.size,.ref (s.heap.push (aT b l1)).objs.size]}) rfl;rw[z2]at this;rw[<-z1];exact Heap.get?_push_of_some _ (Heap.get?_push_of_some _ this)
 have fr:∀o,o.isFreed=false->∀ (hh:Heap),(hh.push o).get? hh.objs.size=some o:=λo ho hh=>Heap.get?_push_size _ ho
 have fb:∀ (b:Bool) (l:Addr),(aT b l).isFreed=false:=λb l=>by cases b<;>rfl
 have g2:(zG s.heap b c l1 l2).get? (s.heap.objs.size+1)=some (aT c l2):=by rw[<-z1];exact Heap.get?_push_of_some _ (Heap.get?_push_of_some _ (Heap.get?_push_of_some _ (fr _ (fb c l2) _)))
 have g1:(zG s.heap b c l1 l2).get? s.heap.objs.size=some _:=Heap.get?_push_of_some _ (Heap.get?_push_of_some _ (Heap.get?_push_of_some _ (Heap.get?_push_of_some _ (fr _ (fb b l1) _))))
 have toIt':∀ (d:Bool) (a l:Addr) (G:Heap),G.get? a=some (aT d l)->ItK d G a l 0:=λd a l G e=>by cases d<;>exact⟨_,e,rfl,rfl⟩
 refine⟨⟨_,g5,rfl⟩,h _ ⟨⟨?_,?_,?_,?_,?_,?_,?_,?_,?_,?_⟩,g5,g3,⟨_,_,g4⟩,toIt' b _ _ _ g1,toIt' c _ _ _ g2⟩ z5 λd o x=>Heap.get?_push_of_some _ (Heap.get?_push_of_some _ (Heap.get?_push_of_some _ (Heap.get?_push_of_some _ (Heap.get?_push_of_some _ x))))⟩
 all_goals (show(_:Nat)≠_;omega)
end
section
variable {X:Cx} {pins:List (Addr×Obj)} {σ:List (Option V)} {H:Hp} {s:Shared} {h':Heap}
theorem mG {ch:List Addr} (I:Inv X pins σ H s) (hf:∀b∈ch,H b=none) (k:∀b o,b ∉ ch->s.heap.get? b=some o->h'.get? b=some o):HOk X.prog X.w H h':=λb u e=>by
 have nit:∀b u,H b=some u->b ∉ ch:=λb u e z=>by rw[hf b z]at e;cases e
 refine(I.hok b u e).stay (λc v hc q=>k c v ?_ q) (λ_ q=>q) λ_ _ q=>q;rcases hc with z|z
 ·rw[z];exact nit b u e
 ·exact nit c _ z
theorem DR {ch:List Addr} (hf:∀b∈ch,iR X pins H b):∀b∈ch,(b∈X.ex\/X.s₀.heap.objs.size<=b)/\b≠X.env.locals/\(∀x c,X.env.cells.lookup x=some c->c≠b)/\∀p∈X.pn++pins,p.1≠b:=λb hb=>by
 obtain⟨f0,f1,f2,f3,f4,f5⟩:=hf b hb;exact⟨f3,f1,f4,f5⟩
theorem Inv.turnedL {ch:List Addr} (I:Inv X pins σ H s) (hf:∀b∈ch,iR X pins H b) (k:∀b o,b ∉ ch->s.heap.get? b=some o->h'.get? b=some o):Inv X pins σ H {s with heap:=h',toks:=t'}:=by
 refine I.step (DR hf) (λb o _ _ hc e _=>k b o hc e) (λb o _ _ hc e _=>⟨o.slots,k b o hc e⟩) (λ_ _ _ _ n=>n)
  (λb o hc e=>⟨o,k b o hc e⟩) (λ_ _ e=>e) (λ_ _ _ e=>e) (λb ps e=>⟨#[],by rw[e];simp⟩) (λm hm=>?_) (mG I (λb hb=>(hf b hb).1) k) I.bare
 obtain⟨o,es,ep,ho,r⟩:=hm;exact⟨o,es,ep,k _ o (λz=>(hf _ z).2.1 rfl) ho,r⟩
theorem Inv.turnedNew {ch:List Addr} {p:Addr} (I:Inv X pins σ H s) (hf:∀b∈ch,iR X pins H b) (k:∀b o,b ∉ ch->s.heap.get? b=some o->h'.get? b=some o) (hp:s.heap.objs.size<=p) (new:ObjOk X.prog X.w (upd H p o) h' p o):Inv X pins σ (upd H p o) {s with heap:=h',toks:=t'}:=by
 have hn:=I.hok.fresh hp;have lt:∀b o,s.heap.get? b=some o->b≠p:=λb o e=>Nat.ne_of_lt (lt_of_lt_of_le (Heap.lt_size e) hp);have keep:∀b u,H b=some u->upd H p o b=some u:=λb u e=>by rw[au (aH e hn)];exact e
 refine I.step (DR hf) (λb o _ _ hc e _=>k b o hc e) (λb o _ _ hc e _=>⟨o.slots,k b o hc e⟩) (λb o _ e n=>by rw[au (lt b o e)];exact n)
  (λb o hc e=>⟨o,k b o hc e⟩) (λb xs e=>keep b _ e) (λb o u e=>keep b _ e) (λb ps e=>⟨#[],by rw[keep b _ e];simp⟩) (λm hm=>?_) ((mG I (λb hb=>(hf b hb).1) k).adopt hn new) I.bare
 obtain⟨o,es,ep,ho,r⟩:=hm;exact⟨o,es,ep,k _ o (λz=>(hf _ z).2.1 rfl) ho,r⟩
def SqK (b:Bool) (K:Frag) (H:Hp) (a:Addr) (xs:List V):Prop:=if b=true then SqL K H a xs else SqT K H a xs
theorem Inv.coK (I:Inv X pins σ H s) (h:SqK b X.K H a xs):∃its:List Value,Vals xs its/\CoK b s.heap a its.toArray/\xs.length<=sizeLine:=by
 cases b
 ·obtain⟨its,r,t,z⟩:=I.tuple (h);exact⟨its,r,t,z⟩
 ·obtain⟨its,r,t,z⟩:=I.list (h);exact⟨its,r,t.isList,z⟩
theorem Inv.coK_inj (I:Inv X pins σ H s) (h:SqK b X.K H a xs) (h':SqK b X.K H a ys):xs=ys:=by
 cases b
 ·exact I.tuple_inj h h'
 ·exact I.list_inj h h'
end
def Itz (K:Frag) (b c:Bool) (l1 l2:Addr):It:=
 ⟨λi H=>∃xs ys x y,SqK b K H l1 xs/\SqK c K H l2 ys/\xs[i]?=some x/\ys[i]?=some y,
  λi H v H'=>∃p x y,v=.ref p/\H p=none/\H'=upd H p (.tup [x,y])/\(∀xs,SqK b K H l1 xs->xs[i]?=some x)/\∀ys,SqK c K H l2 ys->ys[i]?=some y,
  λi H=>∃xs ys,SqK b K H l1 xs/\SqK c K H l2 ys/\(xs.length<=i\/ys.length<=i)⟩
theorem CoK.get (x:CoK b h l its):∃o,h.get? l=some o/\∃n,o.data=.seq its n:=by
 cases b
 ·obtain⟨o,e,_,n,d⟩:=x;exact⟨o,e,n,d⟩
 ·obtain⟨o,e,_,n,d⟩:=x;exact⟨o,e,n,d⟩
theorem vj {z TI TO i1 i2 l1 l2 l} (Z:ZSt b c z TI TO i1 i2 l1 l2 f0 k h) (C:CoK d h l its) (hO:l≠TO):ZL z TO i1 i2 l:=by
 obtain⟨o,e,n,q⟩:=C.get;refine⟨λy=>?_,hO,λy=>?_,λy=>?_⟩
 ·subst y;rw[Z.hz]at e;cases e;cases q
 ·subst y;obtain⟨o',_,vs,e',_,d',_⟩:=Z.h1.live;rw[e']at e;cases e;rw[d']at q;cases q
 ·subst y;obtain⟨o',_,vs,e',_,d',_⟩:=Z.h2.live;rw[e']at e;cases e;rw[d']at q;cases q
theorem yC {P:Program} {w:World} {K:Frag} {elts:List Expr} {x1:Nat} {tpos:Pos} (b c:Bool) (l1 l2 z TI TO i1 i2:Addr) (n1:l1≠TO) (n2:l2≠TO):
  Turn P w K (.Tuple elts x1 tpos) (Itz K b c l1 l2) [z,TI,TO,i1,i2] z (λi h=>ZSt b c z TI TO i1 i2 l1 l2 .none i h) where
 mem:=by simp
 obj:=λi h Z d hd=>by
  simp at hd;rcases hd with rfl|rfl|rfl|rfl|rfl
  ·exact⟨_,Z.hz,λv q=>by cases q⟩
  ·exact⟨_,Z.hI,λv q=>by cases q⟩
  ·obtain⟨a,d,e⟩:=Z.hO;exact⟨_,e,λv q=>by cases q⟩
  ·obtain⟨o,n,vs,e,_,dd,_⟩:=Z.h1.live;exact⟨o,e,λv q=>by rw[dd]at q;cases q⟩
  ·obtain⟨o,n,vs,e,_,dd,_⟩:=Z.h2.live;exact⟨o,e,λv q=>by rw[dd]at q;cases q⟩
 keep:=λi h h' Z k=>by
  obtain⟨a,d,e⟩:=Z.hO;exact⟨Z.ap,k z (by simp) _ Z.hz,k TI (by simp) _ Z.hI,⟨a,d,k TO (by simp) _ e⟩,Z.h1.at λo q=>k i1 (by simp) o q,Z.h2.at λo q=>k i2 (by simp) o q⟩
 item:=by
  intro X hP hw hK hc i pins s σ H E I hf Z hg;subst hP hw hK;obtain⟨xs,ys,x,y,hx,hy,ex,ey⟩:=hg;obtain⟨its,rv,p1,hz1⟩:=I.coK hx;obtain⟨jts,rw',p2,hz2⟩:=I.coK hy;obtain⟨u,hu,ru⟩:=rv.get ex;obtain⟨v,hv,rv'⟩:=rw'.get ey;have L1:=vj Z p1 n1;have L2:=vj Z p2 n2;refine yz Z L1 L2 p1 p2 (by simpa using hu) (by simpa using hv) λh' Z' T' sz k'=>⟨_,rfl,?_⟩;refine wpAny_letOwnedTupleGo_zip Z'.hz λh2 hz2' sb=>?_;have zlt:=Heap.lt_size Z.hz;have hne:=Nat.ne_of_gt zlt;have Z2:ZSt b c z TI TO i1 i2 l1 l2 .none (i+1) h2:=by
   obtain⟨a,d,e⟩:=Z'.hO;exact⟨Z.ap,hz2',sb.extBut _ _ Z.ap.TIz Z'.hI,⟨a,d,sb.extBut _ _ Z.ap.TOz e⟩,Z'.h1.at λo q=>sb.extBut _ _ Z.ap.i1z q,Z'.h2.at λo q=>sb.extBut _ _ Z.ap.i2z q⟩
  have T2:=sb.extBut _ _ hne T';have kk:∀d o,d ∉ [z,TI,TO,i1,i2]->s.heap.get? d=some o->h2.get? d=some o:=λd o hd e=>by
   simp at hd;exact sb.extBut _ _ hd.1 (k' d o hd.1 hd.2.2.1 hd.2.2.2.1 hd.2.2.2.2 e)
  have fr:=I.hok.fresh (le_refl _);refine⟨.ref s.heap.objs.size,_,I.turnedNew hf kk (le_refl _) ?_,rfl,⟨s.heap.objs.size,x,y,rfl,fr,rfl,λzs hzs=>by rw[I.coK_inj hzs hx];exact ex,λzs hzs=>by rw[I.coK_inj hzs hy];exact ey⟩,Z2,λd hd=>?_⟩
  ·exact⟨by show 2<=sizeLine;decide,[u,v],.cons ru (.cons rv' .nil),⟨_,T2,rfl,_,rfl⟩⟩
  ·obtain⟨o,eo,_⟩:∃o,s.heap.get? d=some o/\True:=by
    simp at hd;rcases hd with rfl|rfl|rfl|rfl|rfl
    ·exact⟨_,Z.hz,trivial⟩
    ·exact⟨_,Z.hI,trivial⟩
    ·obtain⟨a,d,e⟩:=Z.hO;exact⟨_,e,trivial⟩
    ·obtain⟨o,n,vs,e,_⟩:=Z.h1.live;exact⟨_,e,trivial⟩
    ·obtain⟨o,n,vs,e,_⟩:=Z.h2.live;exact⟨_,e,trivial⟩
   rw[au (Nat.ne_of_lt (Heap.lt_size eo))];exact(hf d hd).1
 done:=by
  intro X hP hw hK hc i pins s σ H E I hf Z hg;subst hP hw hK;obtain⟨xs,ys,hx,hy,hl⟩:=hg;obtain⟨its,rv,p1,hz1⟩:=I.coK hx;obtain⟨jts,rw',p2,hz2⟩:=I.coK hy;have e1:=rv.length;have e2:=rw'.length;refine yA (I.ok.hd hc) Z (vj Z p1 n1) (vj Z p2 n2) p1 p2 ?_ λh' k'=>⟨rfl,I.turnedL hf λd o hd e=>?_⟩
  ·rcases hl with hl|hl
   ·exact .inl (by simp;omega)
   ·exact .inr (by simp;omega)
  ·simp at hd;exact k' d o hd.1 hd.2.2.1 hd.2.2.2.1 hd.2.2.2.2 e
 self:=λ_ _ _ _ _ Z h=>wpAny_pyIter_zip Z.hz h
section
variable {X:Cx} {tg a b e:Expr} {es:List Expr} {p pos:Pos}
theorem Ja:bootBuiltins "zip"=some (.type "zip"):=by decide+kernel
def Lw (K:Frag) (ta:TA):TI:=λσ H R=>ta σ H λvs H1=>∃b c l1 l2 xs ys,vs=[.ref l1,.ref l2]/\SqK b K H1 l1 xs/\SqK c K H1 l2 ys/\R (Itz K b c l1 l2) H1
theorem Fp {x1} (hg:Gl X "zip") (hm:X.mg "zip"=none) (ha:PA X [a,b] ta) (hs:starEach [a,b] X.env=[(false,eval a X.env),(false,eval b X.env)]) (hs2:starEach [b] X.env=[(false,eval b X.env)]):
  PI X (.Tuple elts x1 tpos) (.Call (.Name "zip" p) [a,b] [] pos) (Lw X.K ta):=by
 intro pins s σ H R I h
 refine Call_ (cU I hg hm Ja (PyProof.Rows.callWith_type1 (thn (ha pos pins s σ H _ I h) λus s1 ⟨vs,H1,I1,r1,q1⟩=>?_) (by rw[hs,hs2]) (by rw[hs2];rfl)))
 obtain⟨b,c,l1,l2,xs,ys,e,hx,hy,q⟩:=q1
 subst e
 obtain⟨u,v,rfl,ru,rv⟩:=oB r1
 cases ru
 cases rv
 obtain⟨its,rx,p1,_⟩:=I1.coK hx
 obtain⟨jts,ry,p2,_⟩:=I1.coK hy
 have lt:∀ {d:Bool} {l:Addr} {its:Array Value},CoK d s1.heap l its->l<s1.heap.objs.size:=λC=>by obtain⟨o,e,_⟩:=C.get;exact Heap.lt_size e
 refine w4 p1 p2 λh' Z sz k=>wpAny_pyIter_zip Z.hz ?_
 have I2:Inv X pins σ H1 {s1 with heap:=h'}:=I1.kept k
 refine⟨s1.heap.objs.size+4,[s1.heap.objs.size+4,s1.heap.objs.size+2,s1.heap.objs.size+3,s1.heap.objs.size,s1.heap.objs.size+1],_,_,H1,rfl,I2,yC b c l1 l2 _ _ _ _ _ ?_ ?_,Z,λd hd=>?_,q⟩
 ·exact Nat.ne_of_lt (lt_of_lt_of_le (lt p1) (Nat.le_add_right _ _))
 ·exact Nat.ne_of_lt (lt_of_lt_of_le (lt p2) (Nat.le_add_right _ _))
 ·have hge:s1.heap.objs.size<=d:=by
   simp at hd;rcases hd with rfl|rfl|rfl|rfl|rfl<;>first|exact Nat.le_add_right _ _|exact le_refl _
  exact I1.fpOk hge (I1.hok.fresh hge)
def gK (xs ys:List D):List D:=(xs.zip ys).map λp=>.tup [p.1,p.2]
theorem SqK.mono {b} {K} (s:Same H H') (h:SqK b K H l xs):SqK b K H' l xs:=by
 cases b
 ·exact s.seqT h
 ·exact s.seq h
theorem yD {K} {b c} {ds es} (hx:SqK b K Hm l1 xs) (hy:SqK c K Hm l2 ys) (il:IsL K Hm ds xs) (jl:IsL K Hm es ys):kX K Hm (Itz K b c l1 l2) (gK ds es):=λi H O s hd=>by
 have hx':=hx.mono (s.trans msk_le);have hy':=hy.mono (s.trans msk_le);refine⟨λd hi=>?_,λhi=>⟨xs,ys,hx',hy',?_⟩⟩
 ·unfold gK at hi;rw[getElem?_map]at hi;cases e:(ds.zip es)[i]? with
  |none=>rw[e]at hi;cases hi
  |some pr=>
   rw[e]at hi;cases hi;obtain⟨e1,e2⟩:=List.getElem?_zip_eq_some.mp e;obtain⟨x,ex,ix⟩:=il.get e1;obtain⟨y,ey,iy⟩:=jl.get e2;refine⟨⟨xs,ys,x,y,hx',hy',ex,ey⟩,?_⟩;rintro v H3 ⟨q,x',y',rfl,hq,rfl,kx,ky⟩;have z1:=kx xs hx';have z2:=ky ys hy';rw[ex]at z1;cases z1;rw[ey]at z2;cases z2;have hO:=fL hd hq;refine⟨Same.new hq,q,[x,y],rfl,.of (by rw[aS hO,ar]),?_⟩;have le:Same (msk O H) (msk O (upd H q (.tup [x,y]))):=(Same.new hq).msk;exact⟨x,[y],rfl,Is.mono (s.trans le) _ _ ix,y,[],rfl,Is.mono (s.trans le) _ _ iy,rfl⟩
 ·have h1:=il.len;have h2:=jl.len;unfold gK at hi;rw[length_map,List.length_zip]at hi;omega
def w5:List D->Option (List D):=un2 λc d=>(seqD c).bind λxs=>(seqD d).bind λys=>some (gK xs ys)
theorem tV {K} (h:SqL K H l xs\/SqT K H l xs):∃b,SqK b K H l xs:=by
 rcases h with h|h
 ·exact⟨true,h⟩
 ·exact⟨false,h⟩
theorem Fq {x1} (hg:Gl X "zip") (hm:X.mg "zip"=none) (ha:PX X [a,b] fa) (hs:starEach [a,b] X.env=[(false,eval a X.env),(false,eval b X.env)]) (hs2:starEach [b] X.env=[(false,eval b X.env)]):
  PJ X (.Tuple elts x1 tpos) (.Call (.Name "zip" p) [a,b] [] pos) (λY=>(fa Y).bind w5):=λO Y=>(Fp hg hm (ha O Y) hs hs2).imp λσ H R ⟨E,ds,q,k⟩=>by
 obtain⟨as,e1,q⟩:=bind_some q
 refine⟨E,as,e1,λvs H1 s1 il=>?_⟩
 obtain⟨c,d,rfl,q1⟩:=gE q
 obtain⟨xs,q2,q3⟩:=bind_some q1
 obtain⟨ys,q4,q5⟩:=bind_some q3
 cases q5
 obtain⟨u,v,rfl,iu,iv⟩:=is2 il
 obtain⟨l1,us,rfl,t1,m1⟩:=gc q2 iu
 obtain⟨l2,ws,rfl,t2,m2⟩:=gc q4 iv
 obtain⟨b1,t1⟩:=tV t1
 obtain⟨b2,t2⟩:=tV t2
 exact⟨b1,b2,l1,l2,us,ws,rfl,t1.mono msk_le,t2.mono msk_le,k _ H1 s1 (yD t1 t2 m1 m2)⟩
def yE:D->Option D
 |.int i=>some (.int (-i))
 |_=>none
theorem Fs (ha:PP X a fa):PP X (.UnaryOp .USub a pos) (λY=>(fa Y).bind yE):=λO Y=>(Ih EG (ha O Y)).imp λσ H Q ⟨E,d,q,k⟩=>by
 obtain⟨c,e1,e2⟩:=bind_some q;refine⟨E,c,e1,λv H1 s1 i1=>?_⟩;cases c with
 |int i=>cases e2;exact⟨i,i1,k _ H1 s1 rfl⟩
 |_=>cases e2
theorem b_max:bootBuiltins "max"=some (.builtin "max"):=by decide+kernel
theorem b_min:bootBuiltins "min"=some (.builtin "min"):=by decide+kernel
def Ft:List D->Option D:=un2 λc d=>(gH c).bind λi=>(gH d).bind λj=>some (.int (if j>i then j else i))
def Fu:List D->Option D:=un2 λc d=>(gH c).bind λi=>(gH d).bind λj=>some (.int (if j<i then j else i))
theorem rn_max:RnD X.K (λxs H Q=>∃i j,xs=[.int i,.int j]/\Q (.int (if j>i then j else i)) H) Ft:=λO H xs ds d Q hd l e k=>by
 obtain⟨c,c',rfl,e⟩:=gE e;obtain⟨i,e1,e⟩:=bind_some e;obtain⟨j,e2,e⟩:=bind_some e;cases e;obtain⟨u,v,rfl,iu,iv⟩:=is2 l;cases intD_some e1;cases intD_some e2;exact⟨i,j,by rw[show u=.int i from iu,show v=.int j from iv],k _ H (Same.refl _) rfl⟩
theorem rn_min:RnD X.K (λxs H Q=>∃i j,xs=[.int i,.int j]/\Q (.int (if j<i then j else i)) H) Fu:=λO H xs ds d Q hd l e k=>by
 obtain⟨c,c',rfl,e⟩:=gE e;obtain⟨i,e1,e⟩:=bind_some e;obtain⟨j,e2,e⟩:=bind_some e;cases e;obtain⟨u,v,rfl,iu,iv⟩:=is2 l;cases intD_some e1;cases intD_some e2;exact⟨i,j,by rw[show u=.int i from iu,show v=.int j from iv],k _ H (Same.refl _) rfl⟩
def Fw:D->Bool
 |.non=>true
 |_=>false
theorem vk {K} (h:Is K H d v):decide (v=.non)=Fw d:=by
 cases d with
 |non=>cases(h);rfl
 |bl _=>cases(h);rfl
 |int _=>cases(h);rfl
 |str _=>cases(h);rfl
 |ty _=>cases(h);rfl
 |adr _=>cases(h);rfl
 |tup _=>obtain⟨a,xs,rfl,_⟩:=h;rfl
 |lst _=>obtain⟨a,xs,rfl,_⟩:=h;rfl
 |obj _ _ _=>obtain⟨a,Ca,dx,fs,rfl,_⟩:=h;rfl
 |dct _ _=>obtain⟨a,kvs,rfl,_⟩:=h;rfl
def tW (neg:Bool):D->D->Option D
 |d,.non=>some (.bl (if neg then !Fw d else Fw d))
 |_,_=>none
theorem r_isN {K}:R2D K (λx y H Q=>y=.non/\Q (.bl (decide (x=.non))) H) (tW false):=λO H x y dx dy d Q _ ix iy e k=>by
 cases dy with
 |non=>cases e;exact⟨iy,k _ H (Same.refl _) (by rw[vk ix];rfl)⟩
 |_=>cases e
theorem r_notN {K}:R2D K (λx y H Q=>y=.non/\Q (.bl (!decide (x=.non))) H) (tW true):=λO H x y dx dy d Q _ ix iy e k=>by
 cases dy with
 |non=>cases e;exact⟨iy,k _ H (Same.refl _) (by rw[vk ix];rfl)⟩
 |_=>cases e
def yF:D->D->Option D
 |x,.lst ds=>if bq x&&ds.all bq then some (.bl (!inL x ds))else none
 |x,.tup ds=>if bq x&&ds.all bq then some (.bl (!inL x ds))else none
 |_,_=>none
theorem r_notIn {K}:R2D K (rIn K true) yF:=λO H x y dx dy d Q hd ix iy e k=>by
 cases dy with
 |lst ds=>
  obtain⟨h1,h2⟩:=ax (show(if(bq dx&&ds.all bq)=true then _ else none)=some d from e);rw[and_eq_true]at h1;subst h2;obtain⟨p,xs,rfl,q,l⟩:=iy;obtain⟨e1,e2⟩:=ii h1.1 ix;obtain⟨e3,e4⟩:=gG h1.2 l;exact⟨p,xs,rfl,.inl (msk_le.seq q),e2,e4,k _ H (Same.refl _) (by rw[e1,e3];rfl)⟩
 |tup ds=>
  obtain⟨h1,h2⟩:=ax (show(if(bq dx&&ds.all bq)=true then _ else none)=some d from e);rw[and_eq_true]at h1;subst h2;obtain⟨p,xs,rfl,q,l⟩:=iy;obtain⟨e1,e2⟩:=ii h1.1 ix;obtain⟨e3,e4⟩:=gG h1.2 l;exact⟨p,xs,rfl,.inr (msk_le.seqT q),e2,e4,k _ H (Same.refl _) (by rw[e1,e3];rfl)⟩
 |_=>cases e
def nV (ds:List D) (lo hi:Option Int):List D:=(ds.drop (HT.sIx ds.length 0 lo)).take (HT.sIx ds.length ds.length hi-HT.sIx ds.length 0 lo)
theorem yG {K} (l:IsL K H ds xs) (lo hi:Option Int):IsL K H (nV ds lo hi) (rg xs lo hi):=by
 unfold nV rg;rw[<-l.len];exact .of (kS _ (kT _ l.paired))
theorem B5:SlR X (λx lo hi H Q=>∃a xs,x=.ref a/\SqT X.K H a xs/\(HT.sIx xs.length 0 lo=0/\HT.sIx xs.length xs.length hi=xs.length)/\Q (.ref a) H):=by
 intro pins s σ H x v vl vu lo hi sl Q I rx hs pl pu h;obtain⟨a,xs,rfl,hx,hw,q⟩:=h;cases rx;obtain⟨its,r,ht,hz⟩:=I.tuple hx;have hlen:its.toArray.size=xs.length:=by rw[size_toArray];exact r.length.symm
 refine⟨"tuple",_,PyProof.Rows.slot_tuple_getitem.lookup,ht.typeIs,?_⟩;obtain⟨os,hos,hcs,hds⟩:=id hs;have hTs:s.TypeIs (.ref sl) "slice":=⟨os,hos,hcs⟩;unfold getItem;try with_reducible refine wpAny_holding ?_
 first|refine wpAny_bind (wpAny_pure ?_)|skip
 refine wpAny_bind (wpAny_sequenceKey ht.typeIs (by decide) ?_);refine wpAny_bind (wpAny_callSpecial?_slot ht.typeIs PyProof.Rows.slot_tuple_getitem (wpAny_call_entry PyProof.Rows.slot_tuple_getitem ht.typeIs entry_tuple_getitem ?_ (args_tuple_getitem _ _)));show wpAny _ _ (Builtin.Tuple.tupleItemsOf (.ref a)>>=_) _ _ s;refine wpAny_bind (tupleItemsOf_ ht (wpAny_bind (wpAny_typeOf hTs ?_)));refine wpAny_bind (HT.sliceApplied_gen hs pl pu ?_);have hyes:(((HT.sIx its.toArray.size 0 lo:Nat):Int)==0&&(1:Int)==1&&(HT.sIx its.toArray.size its.toArray.size hi-HT.sIx its.toArray.size 0 lo)==its.toArray.size)=true:=by
  rw[hlen,hw.1,hw.2];simp
 show wpAny _ _ (if(((HT.sIx its.toArray.size 0 lo:Nat):Int)==0&&(1:Int)==1&&(HT.sIx its.toArray.size its.toArray.size hi-HT.sIx its.toArray.size 0 lo)==its.toArray.size)=true then _ else _) _ _ s;rw[if_pos hyes];refine wpAny_bind (wpAny_bind (wpAny_typeOf ht.typeIs (wpAny_pure ?_)));exact wpAny_bind (wpAny_rule (wpAny_pure ⟨_,rfl,wpAny_pure ⟨.ref a,H,I,rfl,q⟩⟩))
def PPo (X:Cx) (e:Option Expr) (f:Vv->Option (Option Int)):Prop:=∀O Y,PO X e (λσ H Q=>VE X.K O σ H Y/\∃i,f Y=some i/\∀H',Same H H'->Q i H')
theorem PO.imp {e} (h:PO X e t) (k:∀σ H Q,t' σ H Q->t σ H Q):PO X e t':=λpins s σ H Q I q=>h pins s σ H Q I (k _ _ _ q)
theorem yH:PPo X none (λ_=>some none):=λO Y=>po_none.imp λσ H Q ⟨E,i,q,k⟩=>by
 cases q;exact k H (Same.refl _)
def bO (f:Vv->Option D):Vv->Option (Option Int):=λY=>(f Y).bind λd=>(gH d).bind λi=>some (some i)
theorem yI (h:PP X e f):PPo X (some e) (bO f):=λO Y=>(BF (h O Y)).imp λσ H Q ⟨E,i,q,k⟩=>by
 obtain⟨d,q1,q2⟩:=bind_some q;obtain⟨j,q3,q4⟩:=bind_some q2;cases q4;refine⟨E,d,q1,λv H1 s1 iv=>?_⟩;cases intD_some q3;exact⟨j,iv,k H1 s1⟩
def yJ (f:Vv->Option D) (fl fh:Vv->Option (Option Int)):Vv->Option D:=λY=>(f Y).bind λd=>(fl Y).bind λlo=>(fh Y).bind λhi=>match d with
 |.tup ds=>some (.tup (nV ds lo hi))
 |_=>none
def yK (f:Vv->Option D) (fl fh:Vv->Option (Option Int)):Vv->Option (List D):=λY=>(f Y).bind λd=>(fl Y).bind λlo=>(fh Y).bind λhi=>match d with
 |.lst ds=>some (nV ds lo hi)
 |_=>none
theorem w6 {lo hi} (h:HT.sIx ds.length 0 lo=0/\HT.sIx ds.length ds.length hi=ds.length):nV ds lo hi=ds:=by
 unfold nV;rw[h.1,h.2];simp
theorem Fy {lo hi} (h:PP X e f) (hl:PPo X lo fl) (hh:PPo X hi fh):PP X (.Subscript e (.Slice lo hi none p2) pos) (yJ f fl fh):=λO Y=>
 (re (sl_tup.or B5) (h O Y) (hl O Y) (hh O Y)).imp λσ H Q ⟨E,d,q,k⟩=>by
 obtain⟨c,q1,q⟩:=bind_some q;obtain⟨l,q2,q⟩:=bind_some q;obtain⟨u,q3,q⟩:=bind_some q;refine⟨E,c,q1,λv H1 s1 iv=>⟨E.grow s1,l,q2,λH2 s2=>⟨E.grow (s1.trans s2),u,q3,λH3 s3=>?_⟩⟩⟩;cases c with
 |tup ds=>
  cases q;have iv':=Is.mono (s2.trans s3).msk _ _ iv;obtain⟨a,xs,rfl,t,il⟩:=iv';have s13:=s1.trans (s2.trans s3);by_cases hw:HT.sIx xs.length 0 l=0/\HT.sIx xs.length xs.length u=xs.length
  ·refine .inr ⟨a,xs,rfl,msk_le.seqT t,hw,k _ H3 s13 ?_⟩;rw[w6 (by rw[il.len];exact hw)];exact⟨a,xs,rfl,t,il⟩
  ·refine .inl ⟨a,xs,rfl,msk_le.seqT t,hw,λp hp=>?_⟩;have hO:=(E.grow s13).fresh hp;exact k _ _ (s13.trans (Same.new hp)) ⟨p,_,rfl,.of (by rw[aS hO,ar]),IsL.mono (Same.new hp).msk _ _ (yG il l u)⟩
 |_=>cases q
theorem yL {lo hi} (h:PP X e f) (hl:PPo X lo fl) (hh:PPo X hi fh):PF X (.Subscript e (.Slice lo hi none p2) pos) (yK f fl fh):=λO Y=>
 (re BH (h O Y) (hl O Y) (hh O Y)).imp λσ H Q ⟨E,d,q,k⟩=>by
 obtain⟨c,q1,q⟩:=bind_some q;obtain⟨l,q2,q⟩:=bind_some q;obtain⟨u,q3,q⟩:=bind_some q;refine⟨E,c,q1,λv H1 s1 iv=>⟨E.grow s1,l,q2,λH2 s2=>⟨E.grow (s1.trans s2),u,q3,λH3 s3=>?_⟩⟩⟩;cases c with
 |lst ds=>
  cases q;have iv':=Is.mono (s2.trans s3).msk _ _ iv;obtain⟨a,xs,rfl,t,il⟩:=iv';exact⟨a,xs,rfl,msk_le.seq t,λp hp=>k p _ H3 (s1.trans (s2.trans s3)) hp (yG il l u)⟩
 |_=>cases q
end
inductive Cat where
 |sh
 |top
 |pr
 |deep
 deriving DecidableEq
mutual
noncomputable def lfD:D->Bool
 |.tup ds=>lfL ds
 |.lst _=>false
 |.obj _ _ _=>false
 |.dct _ _=>false
 |_=>true
noncomputable def lfL:List D->Bool
 |[]=>true
 |d::ds=>lfD d&&lfL ds
end
mutual
noncomputable def Deep (K:Frag) (M H:Hp):D->V->List Addr->Prop
 |.non,v,A=>v=.non/\A=[]
 |.bl b,v,A=>v=.bl b/\A=[]
 |.int i,v,A=>v=.int i/\A=[]
 |.str x,v,A=>v=.str x/\A=[]
 |.ty n,v,A=>v=.ty n/\A=[]
 |.adr a,v,A=>v=.ref a/\A=[]
 |.tup ds,v,A=>∃a xs,v=.ref a/\(M a=some (.tup xs)\/(lfL ds=true/\SqT K M a xs))/\DeepL K M H ds xs A
 |.lst ds,v,A=>∃a xs A',v=.ref a/\H a=some (.lst xs)/\A=a::A'/\DeepL K M H ds xs A'
 |.obj _ _ _,_,_=>False
 |.dct ks ds,v,A=>∃a kvs A',v=.ref a/\H a=some (.dK kvs)/\kvs.map (·.1)=ks/\A=a::A'/\DeepL K M H ds (kvs.map (·.2)) A'
noncomputable def DeepL (K:Frag) (M H:Hp):List D->List V->List Addr->Prop
 |[],xs,A=>xs=[]/\A=[]
 |d::ds,xs,A=>∃x r A1 A2,xs=x::r/\A=A1++A2/\Deep K M H d x A1/\DeepL K M H ds r A2
end
def NL (M M':Hp):Prop:=∀b o,M b=some o->¬Hid (some o)->M' b=some o
theorem NL.of (s:Same M M'):NL M M':=λb o h _=>s b o h
theorem vm:¬Hid (some (.tup xs)):=by rintro(⟨_,z⟩|⟨_,_,_,z⟩|⟨_,z⟩)<;>cases z
theorem B6:¬Hid (some (.frz o u)):=by rintro(⟨_,z⟩|⟨_,_,_,z⟩|⟨_,z⟩)<;>cases z
theorem NL.seqT {K} (e:NL H H') (h:SqT K H a xs):SqT K H' a xs:=by
 rcases h with(h|⟨o,h⟩)|h
 ·exact .inl (.inl (e _ _ h vm))
 ·exact .inl (.inr ⟨o,e _ _ h B6⟩)
 ·exact .inr h
theorem tupAt {K} (s:NL M M') (h:M a=some (.tup xs)\/(lfL ds=true/\SqT K M a xs)):M' a=some (.tup xs)\/(lfL ds=true/\SqT K M' a xs):=by
 rcases h with h|⟨f,h⟩
 ·exact .inl (s _ _ h vm)
 ·exact .inr ⟨f,s.seqT h⟩
theorem Jb {K} (s:NL M M') (h:M a=some (.tup xs)\/(lfL ds=true/\SqT K M a xs)):SqT K M' a xs:=by
 rcases tupAt s h with h|⟨_,h⟩
 ·exact .of h
 ·exact h
mutual
theorem Deep.frame {K:Frag} {M M' H H':Hp} (s:NL M M'):∀ (d:D) (v:V) (A:List Addr),(∀a∈A,∀o,H a=some o->H' a=some o)->Deep K M H d v A->Deep K M' H' d v A
 |.non,_,_,_,h=>h
 |.bl _,_,_,_,h=>h
 |.int _,_,_,_,h=>h
 |.str _,_,_,_,h=>h
 |.ty _,_,_,_,h=>h
 |.adr _,_,_,_,h=>h
 |.tup ds,_,A,k,⟨a,xs,e,q,l⟩=>⟨a,xs,e,tupAt s q,DeepL.frame s ds xs A k l⟩
 |.lst ds,_,A,k,⟨a,xs,A',e,q,z,l⟩=>⟨a,xs,A',e,k a (by rw[z];exact mem_cons_self) _ q,z,DeepL.frame s ds xs A' (λb hb=>k b (by rw[z];exact mem_cons_of_mem _ hb)) l⟩
 |.obj _ _ _,_,_,_,h=>h.elim
 |.dct ks ds,_,A,k,⟨a,kvs,A',e,q,y,z,l⟩=>⟨a,kvs,A',e,k a (by rw[z];exact mem_cons_self) _ q,y,z,DeepL.frame s ds _ A' (λb hb=>k b (by rw[z];exact mem_cons_of_mem _ hb)) l⟩
theorem DeepL.frame {K:Frag} {M M' H H':Hp} (s:NL M M'):∀ (ds:List D) (xs:List V) (A:List Addr),(∀a∈A,∀o,H a=some o->H' a=some o)->DeepL K M H ds xs A->DeepL K M' H' ds xs A
 |[],_,_,_,h=>h
 |d::ds,_,A,k,⟨x,r,A1,A2,e,z,h,l⟩=>⟨x,r,A1,A2,e,z,Deep.frame s d x A1 (λb hb=>k b (by rw[z];exact mem_append_left _ hb)) h,DeepL.frame s ds r A2 (λb hb=>k b (by rw[z];exact mem_append_right _ hb)) l⟩
end
mutual
theorem Deep.is {K:Frag} {M M' H:Hp} (s:NL M M'):∀ (d:D) (v:V) (A:List Addr),(∀a∈A,∀o,H a=some o->M' a=some o)->Deep K M H d v A->Is K M' d v
 |.non,_,_,_,h=>h.1
 |.bl _,_,_,_,h=>h.1
 |.int _,_,_,_,h=>h.1
 |.str _,_,_,_,h=>h.1
 |.ty _,_,_,_,h=>h.1
 |.adr _,_,_,_,h=>h.1
 |.tup ds,_,A,k,⟨a,xs,e,q,l⟩=>⟨a,xs,e,Jb s q,DeepL.is s ds xs A k l⟩
 |.lst ds,_,A,k,⟨a,xs,A',e,q,z,l⟩=>⟨a,xs,e,.of (k a (by rw[z];exact mem_cons_self) _ q),DeepL.is s ds xs A' (λb hb=>k b (by rw[z];exact mem_cons_of_mem _ hb)) l⟩
 |.obj _ _ _,_,_,_,h=>h.elim
 |.dct ks ds,_,A,k,⟨a,kvs,A',e,q,y,z,l⟩=>⟨a,kvs,e,k a (by rw[z];exact mem_cons_self) _ q,y,DeepL.is s ds _ A' (λb hb=>k b (by rw[z];exact mem_cons_of_mem _ hb)) l⟩
theorem DeepL.is {K:Frag} {M M' H:Hp} (s:NL M M'):∀ (ds:List D) (xs:List V) (A:List Addr),(∀a∈A,∀o,H a=some o->M' a=some o)->DeepL K M H ds xs A->IsL K M' ds xs
 |[],_,_,_,h=>h.1
 |d::ds,_,A,k,⟨x,r,A1,A2,e,z,h,l⟩=>⟨x,r,e,Deep.is s d x A1 (λb hb=>k b (by rw[z];exact mem_append_left _ hb)) h,DeepL.is s ds r A2 (λb hb=>k b (by rw[z];exact mem_append_right _ hb)) l⟩
end
mutual
theorem Is.deep {K:Frag} {M H:Hp}:∀ (d:D) (v:V),lfD d=true->Is K M d v->Deep K M H d v []
 |.non,_,_,h=>⟨h,rfl⟩
 |.bl _,_,_,h=>⟨h,rfl⟩
 |.int _,_,_,h=>⟨h,rfl⟩
 |.str _,_,_,h=>⟨h,rfl⟩
 |.ty _,_,_,h=>⟨h,rfl⟩
 |.adr _,_,_,h=>⟨h,rfl⟩
 |.tup ds,_,f,⟨a,xs,e,q,l⟩=>⟨a,xs,e,.inr ⟨f,q⟩,IsL.deep ds xs f l⟩
 |.lst _,_,f,_=>by cases f
 |.obj _ _ _,_,f,_=>by cases f
 |.dct _ _,_,f,_=>by cases f
theorem IsL.deep {K:Frag} {M H:Hp}:∀ (ds:List D) (xs:List V),lfL ds=true->IsL K M ds xs->DeepL K M H ds xs []
 |[],_,_,h=>⟨h,rfl⟩
 |d::ds,_,f,⟨x,r,e,h,l⟩=>by
  have f':(lfD d&&lfL ds)=true:=f;rw[and_eq_true]at f';exact⟨x,r,[],[],e,rfl,Is.deep d x f'.1 h,IsL.deep ds r f'.2 l⟩
end
mutual
theorem Deep.lf {K:Frag} {M H:Hp}:∀ (d:D) (v:V) (A:List Addr),lfD d=true->Deep K M H d v A->A=[]
 |.non,_,_,_,h=>h.2
 |.bl _,_,_,_,h=>h.2
 |.int _,_,_,_,h=>h.2
 |.str _,_,_,_,h=>h.2
 |.ty _,_,_,_,h=>h.2
 |.adr _,_,_,_,h=>h.2
 |.tup ds,_,A,f,⟨a,xs,e,q,l⟩=>DeepL.lf ds xs A f l
 |.lst _,_,_,f,_=>by cases f
 |.obj _ _ _,_,_,f,_=>by cases f
 |.dct _ _,_,_,f,_=>by cases f
theorem DeepL.lf {K:Frag} {M H:Hp}:∀ (ds:List D) (xs:List V) (A:List Addr),lfL ds=true->DeepL K M H ds xs A->A=[]
 |[],_,_,_,h=>h.2
 |d::ds,_,A,f,⟨x,r,A1,A2,e,z,h,l⟩=>by
  have f':(lfD d&&lfL ds)=true:=f;rw[and_eq_true]at f';rw[z,Deep.lf d x A1 f'.1 h,DeepL.lf ds r A2 f'.2 l];rfl
end
mutual
theorem Is.nl {K:Frag} {M M':Hp} (s:NL M M'):∀ (d:D) (v:V),lfD d=true->Is K M d v->Is K M' d v
 |.non,_,_,h=>h
 |.bl _,_,_,h=>h
 |.int _,_,_,h=>h
 |.str _,_,_,h=>h
 |.ty _,_,_,h=>h
 |.adr _,_,_,h=>h
 |.tup ds,_,f,⟨a,xs,e,q,l⟩=>⟨a,xs,e,s.seqT q,IsL.nl s ds xs f l⟩
 |.lst _,_,f,_=>by cases f
 |.obj _ _ _,_,f,_=>by cases f
 |.dct _ _,_,f,_=>by cases f
theorem IsL.nl {K:Frag} {M M':Hp} (s:NL M M'):∀ (ds:List D) (xs:List V),lfL ds=true->IsL K M ds xs->IsL K M' ds xs
 |[],_,_,h=>h
 |d::ds,_,f,⟨x,r,e,h,l⟩=>by
  have f':(lfD d&&lfL ds)=true:=f;rw[and_eq_true]at f';exact⟨x,r,e,Is.nl s d x f'.1 h,IsL.nl s ds r f'.2 l⟩
end
def OwnC (K:Frag) (O:Addr->Bool) (H:Hp):Cat->D->V->List Addr->Prop
 |.sh,d,v,A=>A=[]/\Is K (msk O H) d v
 |.top,d,v,A=>∃a ds xs,d=.lst ds/\v=.ref a/\A=[a]/\H a=some (.lst xs)/\IsL K (msk O H) ds xs
 |.pr,d,v,A=>∃b u a d0 ds xs,d=.tup [d0,.lst ds]/\v=.ref b/\msk O H b=some (.tup [u,.ref a])/\Is K (msk O H) d0 u/\A=[a]/\H a=some (.lst xs)/\IsL K (msk O H) ds xs
 |.deep,d,v,A=>Deep K (msk O H) H d v A
theorem OwnC.frame {K} (s:Same (msk O H) (msk O' H')) (k:∀a∈A,∀o,H a=some o->H' a=some o) (h:OwnC K O H c d v A):OwnC K O' H' c d v A:=by
 cases c with
 |sh=>exact⟨h.1,Is.mono s d v h.2⟩
 |top=>
  obtain⟨a,ds,xs,e1,e2,e3,e4,l⟩:=h;exact⟨a,ds,xs,e1,e2,e3,k a (by rw[e3];exact mem_cons_self) _ e4,IsL.mono s ds xs l⟩
 |pr=>
  obtain⟨b,u,a,d0,ds,xs,e1,e2,e3,e4,e5,e6,l⟩:=h;exact⟨b,u,a,d0,ds,xs,e1,e2,s _ _ e3,Is.mono s _ _ e4,e5,k a (by rw[e5];exact mem_cons_self) _ e6,IsL.mono s ds xs l⟩
 |deep=>exact Deep.frame (NL.of s) d v A k h
theorem OwnC.is {K} (s:Same (msk O H) (msk O' H)) (k:∀a∈A,O' a=false) (h:OwnC K O H c d v A):Is K (msk O' H) d v:=by
 cases c with
 |sh=>exact Is.mono s d v h.2
 |top=>
  obtain⟨a,ds,xs,e1,e2,e3,e4,l⟩:=h;subst e1;exact⟨a,xs,e2,.of (by rw[aS (k a (by rw[e3];exact mem_cons_self))];exact e4),IsL.mono s ds xs l⟩
 |pr=>
  obtain⟨b,u,a,d0,ds,xs,e1,e2,e3,e4,e5,e6,l⟩:=h;subst e1;exact⟨b,[u,.ref a],e2,.of (s _ _ e3),u,_,rfl,Is.mono s _ _ e4,.ref a,[],rfl,⟨a,xs,rfl,.of (by rw[aS (k a (by rw[e5];exact mem_cons_self))];exact e6),IsL.mono s ds xs l⟩,rfl⟩
 |deep=>exact Deep.is (NL.of s) d v A (λa ha o e=>by rw[aS (k a ha)];exact e) h
abbrev Sl:=Cat×D
abbrev Ev:=List (Option Sl)
structure Bs where
 H:Hp
 O:Addr->Bool
structure EnvOk (K:Frag) (B:Bs) (O:Addr->Bool) (σ:St) (H:Hp) (Y:Ev):Prop where
 same:Same B.H H
 bdom:∀b,B.O b=true->B.H b≠none
 sub:∀b,B.O b=true->O b=true
 lis:∀b,O b=true->Hid (H b)
 len:σ.length=Y.length
 fp:∃F:Nat->List Addr,(∀ (i:Nat) (s:Sl),Y[i]?=some (some s)->∃v,σ[i]?=some (some v)/\OwnC K O H s.1 s.2 v (F i))/\
  (∀i,(F i).Nodup)/\(∀i j a,a∈F i->a∈F j->i=j)/\∀i a,a∈F i->O a=true/\B.H a=none
def noO:Addr->Bool:=λ_=>false
theorem pX:msk noO H=H:=by
 funext b;unfold msk noO;rw[if_neg Bool.false_ne_true]
def vw (Y:Ev):Vv:=Y.map λs=>s.map (·.2)
def Fz:Option Sl->Option D
 |some (.sh,d)=>some d
 |some (_,d)=>if lfD d then some d else none
 |none=>none
def shv (Y:Ev):Vv:=Y.map Fz
def cH (Y:Ev):Ev:=Y.map λs=>s.map λx=>(Cat.sh,x.2)
section
variable {K:Frag} {B:Bs} {O:Addr->Bool} {σ:St} {H H':Hp} {Y:Ev}
theorem EnvOk.dom (E:EnvOk K B O σ H Y):∀b,O b=true->H b≠none:=λb h=>(E.lis b h).ne
theorem EnvOk.nl (E:EnvOk K B O σ H Y):NL H (msk O H):=λb o h q=>by
 cases e:O b with
 |false=>rw[aS e];exact h
 |true=>
  have h':=E.lis b e;rw[h]at h';exact(q h').elim
theorem EnvOk.grow (E:EnvOk K B O σ H Y) (s:Same H H'):EnvOk K B O σ H' Y where
 same:=E.same.trans s
 bdom:=E.bdom
 sub:=E.sub
 lis:=λb h=>(E.lis b h).same s
 len:=E.len
 fp:=by
  obtain⟨F,h1,h2,h3,h4⟩:=E.fp;refine⟨F,λi x q=>?_,h2,h3,h4⟩;obtain⟨v,e,o⟩:=h1 i x q;exact⟨v,e,o.frame s.msk λa _ u hu=>s _ _ hu⟩
theorem EnvOk.fresh (E:EnvOk K B O σ H Y) (h:H p=none):O p=false:=fL E.dom h
theorem pY {α β:Type} {f} {l:List (Option α)} {i:Nat} {y:β} (h:(l.map f)[i]?=some (some y)):∃x,l[i]?=some x/\f x=some y:=by
 rw[getElem?_map]at h;cases e:l[i]? with
 |none=>rw[e]at h;cases h
 |some x=>rw[e]at h;exact⟨x,rfl,Option.some.inj h⟩
theorem EnvOk.view (E:EnvOk K B O σ H Y):VE K noO σ H (vw Y) where
 lis:=λb h=>by cases h
 len:=by unfold vw;rw[length_map];exact E.len
 sh:=λi d q=>by
  obtain⟨F,h1,h2,h3,h4⟩:=E.fp;obtain⟨x,e,z⟩:=pY q;cases x with
  |none=>cases z
  |some s=>
   cases z;obtain⟨v,e1,o⟩:=h1 i s e;exact⟨v,e1,o.is (by rw[pX];exact msk_le) λ_ _=>rfl⟩
theorem EnvOk.viewS (E:EnvOk K B O σ H Y):VE K O σ H (shv Y) where
 lis:=E.lis
 len:=by unfold shv;rw[length_map];exact E.len
 sh:=λi d q=>by
  obtain⟨F,h1,h2,h3,h4⟩:=E.fp;obtain⟨x,e,z⟩:=pY q;cases x with
  |none=>cases z
  |some s=>
   obtain⟨c,d'⟩:=s;obtain⟨v,e1,o⟩:=h1 i _ e;refine⟨v,e1,?_⟩;cases c with
   |sh=>cases z;exact o.2
   |top=>
    obtain⟨a,ds,xs,z1,_⟩:=o;have z':(if lfD d' then some d' else none)=some d:=z;rw[show d'=.lst ds from z1]at z';cases z'
   |pr=>
    obtain⟨b,u,a,d0,ds,xs,z1,_⟩:=o;have z':(if lfD d' then some d' else none)=some d:=z;rw[show d'=.tup [d0,.lst ds]from z1,show lfD (.tup [d0,.lst ds])=(lfD d0&&false)from rfl,Bool.and_false]at z';cases z'
   |deep=>
    obtain⟨f,z'⟩:=ax (show(if lfD d'=true then some d' else none)=some d from z);subst z';have hA:=Deep.lf d' v (F i) f o;exact Deep.is (NL.of (Same.refl _)) d' v (F i) (λa ha=>by rw[hA]at ha;cases ha) o
theorem EnvOk.frozen (E:EnvOk K B O σ H Y):EnvOk K B B.O σ H (cH Y)/\Same (msk O H) (msk B.O H):=by
 have le:Same (msk O H) (msk B.O H):=λb o h=>by
  obtain⟨h1,h2⟩:=bv h;rw[aS];exact h2;cases e:B.O b with
  |false=>rfl
  |true=>rw[E.sub b e]at h1;cases h1
 refine⟨⟨E.same,E.bdom,λ_ h=>h,λb h=>E.lis b (E.sub b h),by unfold cH;rw[length_map];exact E.len,λ_=>[],λi s q=>?_,λ_=>List.nodup_nil,λ_ _ _ h=>(nomatch h),λ_ _ h=>(nomatch h)⟩,le⟩;obtain⟨F,h1,h2,h3,h4⟩:=E.fp;obtain⟨x,e,z⟩:=pY q;cases x with
 |none=>cases z
 |some s'=>
  cases z;obtain⟨v,e1,o⟩:=h1 i _ e;refine⟨v,e1,rfl,o.is le λa ha=>?_⟩;cases e:B.O a with
  |false=>rfl
  |true=>exact absurd (h4 i a ha).2 (E.bdom a e)
theorem EnvOk.viewF (E:EnvOk K B O σ H Y):VE K B.O σ H (vw Y):=by
 have h:=E.frozen.1.viewS;have e:shv (cH Y)=vw Y:=by
  unfold shv cH vw;rw[List.map_map];apply List.map_congr_left;intro x _;cases x<;>rfl
 rw[e]at h;exact h
theorem EnvOk.more (E:EnvOk K B O σ H Y) {c:Cat} {d:D} {v:V} {A:List Addr} {O':Addr->Bool} (s:Same H H') (le:Same (msk O H) (msk O' H')) (hO:∀b,O' b=true->O b=true\/b∈A) (hO2:∀b,O b=true->O' b=true) (hO3:∀b∈A,O' b=true)
  (hl:∀a∈A,Hid (H' a)) (nd:A.Nodup) (fr:∀a∈A,H a=none) (h:OwnC K O' H' c d v A):EnvOk K B O' (σ++[some v]) H' (Y++[some (c,d)]) where
 same:=E.same.trans s
 bdom:=E.bdom
 sub:=λb q=>hO2 b (E.sub b q)
 lis:=λb q=>by
  rcases hO b q with q|q
  ·exact(E.lis b q).same s
  ·exact hl b q
 len:=by rw[length_append,length_append,E.len];rfl
 fp:=by
  obtain⟨F,h1,h2,h3,h4⟩:=E.fp;have no:∀i a,a∈F i->a ∉ A:=λi a ha hA=>E.dom a (h4 i a ha).1 (fr a hA);refine⟨λi=>if i=Y.length then A else F i,λi x q=>?_,λi=>?_,λi j a hi hj=>?_,λi a hi=>?_⟩
  ·by_cases hi:i=Y.length
   ·subst hi;rw[getElem?_append_right (le_refl _)]at q;simp at q;subst q;refine⟨v,?_,by simp only[if_true];exact h⟩;rw[getElem?_append_right (Nat.le_of_eq E.len),E.len];simp
   ·have hi2:i<Y.length:=by
     by_cases h:i<Y.length
     ·exact h
     ·rw[getElem?_append_right (by omega)]at q;cases hk:i-Y.length with
      |zero=>omega
      |succ m=>rw[hk]at q;simp at q
    rw[getElem?_append_left hi2]at q;obtain⟨w,e,o⟩:=h1 i x q;refine⟨w,?_,?_⟩
    ·rw[getElem?_append_left (by rw[E.len];exact hi2)];exact e
    ·simp only[if_neg hi];exact o.frame le λa ha u hu=>s _ _ hu
  ·dsimp only;split
   ·exact nd
   ·exact h2 i
  ·dsimp only at hi hj;split at hi<;>split at hj
   ·omega
   ·exact absurd hi (no j a hj)
   ·exact absurd hj (no i a hi)
   ·exact h3 i j a hi hj
  ·dsimp only at hi;split at hi
   ·exact⟨hO3 a hi,E.same.free (fr a hi)⟩
   ·exact⟨hO2 a (h4 i a hi).1,(h4 i a hi).2⟩
theorem getElem?_last {α:Type} (l:List α) (x:α):(l++[x])[l.length]?=some x:=by
 rw[getElem?_append_right (le_refl _)];simp
theorem ca {α:Type} {l} {x} (h:i≠l.length) {y:α} (e:(l++[x])[i]?=some y):l[i]?=some y:=by
 by_cases hi:i<l.length
 ·rw[getElem?_append_left hi]at e;exact e
 ·rw[getElem?_append_right (by omega)]at e;cases hk:i-l.length with
  |zero=>omega
  |succ m=>rw[hk]at e;simp at e
theorem EnvOk.put {v:V} {s:Sl} (E:EnvOk K B O (σ++[some v]) H (Y++[some s])) (i:Nat):EnvOk K B O (σ.set i (some v)) H (Y.set i (some s)) where
 same:=E.same
 bdom:=E.bdom
 sub:=E.sub
 lis:=E.lis
 len:=by have:=E.len;simp at this⊢;exact this
 fp:=by
  obtain⟨F,h1,h2,h3,h4⟩:=E.fp;have len:σ.length=Y.length:=by have:=E.len;simp at this;exact this
  obtain⟨v',e1,o1⟩:=h1 Y.length s (getElem?_last _ _);rw[<-len,getElem?_last]at e1;cases e1;refine⟨λj=>if j=i then F Y.length else if j=Y.length then[]else F j,λj x q=>?_,λj=>?_,λj k a hj hk=>?_,λj a hj=>?_⟩
  ·rcases get_set_some q with⟨e,q'⟩|⟨e,q'⟩
   ·cases q';subst e;have hi:j<σ.length:=by rw[len];exact oN q
    exact⟨v,by simp[hi],by simp only[if_true];exact o1⟩
   ·have hj:j≠Y.length:=by
     have:=(List.getElem?_eq_some_iff.mp q').1;omega
    obtain⟨w,e2,o2⟩:=h1 j x (by rw[getElem?_append_left (List.getElem?_eq_some_iff.mp q').1];exact q');refine⟨w,?_,by simp only[if_neg e,if_neg hj];exact o2⟩;rw[List.getElem?_set_ne (Ne.symm e)];exact ca (by rw[len];exact hj) e2
  ·dsimp only;split
   ·exact h2 _
   ·split
    ·exact List.nodup_nil
    ·exact h2 _
  ·dsimp only at hj hk;split at hj
   ·split at hk
    ·omega
    ·split at hk
     ·cases hk
     ·have:=h3 _ _ a hj hk;omega
   ·split at hj
    ·cases hj
    ·split at hk
     ·have:=h3 _ _ a hj hk;omega
     ·split at hk
      ·cases hk
      ·exact h3 _ _ a hj hk
  ·dsimp only at hj;split at hj
   ·exact h4 _ a hj
   ·split at hj
    ·cases hj
    ·exact h4 _ a hj
theorem EnvOk.drop {v:V} {s:Sl} (E:EnvOk K B O (σ++[some v]) H (Y++[some s])):EnvOk K B O σ H Y where
 same:=E.same
 bdom:=E.bdom
 sub:=E.sub
 lis:=E.lis
 len:=by have:=E.len;simp at this;exact this
 fp:=by
  obtain⟨F,h1,h2,h3,h4⟩:=E.fp;have len:σ.length=Y.length:=by have:=E.len;simp at this;exact this
  refine⟨F,λj x q=>?_,h2,h3,h4⟩;have hj:=(List.getElem?_eq_some_iff.mp q).1;obtain⟨w,e2,o2⟩:=h1 j x (by rw[getElem?_append_left hj];exact q);exact⟨w,ca (by omega) e2,o2⟩
theorem EnvOk.setSh (E:EnvOk K B O σ H Y) (h:Is K (msk O H) d v):EnvOk K B O (σ.set i (some v)) H (Y.set i (some (.sh,d))):=
 (E.more (c:=.sh) (A:=[]) (Same.refl _) (Same.refl _) (λ_ h=>.inl h) (λ_ h=>h) (λ_ h=>(nomatch h)) (λ_ h=>(nomatch h)) List.nodup_nil (λ_ h=>(nomatch h)) ⟨rfl,h⟩).put i
end
mutual
theorem Deep.lists {K:Frag} {M H:Hp}:∀ (d:D) (v:V) (A:List Addr),Deep K M H d v A->∀a∈A,Hid (H a)
 |.non,_,_,h,_,q=>by rw[h.2]at q;cases q
 |.bl _,_,_,h,_,q=>by rw[h.2]at q;cases q
 |.int _,_,_,h,_,q=>by rw[h.2]at q;cases q
 |.str _,_,_,h,_,q=>by rw[h.2]at q;cases q
 |.ty _,_,_,h,_,q=>by rw[h.2]at q;cases q
 |.adr _,_,_,h,_,q=>by rw[h.2]at q;cases q
 |.tup ds,_,A,⟨a,xs,e,_,l⟩,b,q=>DeepL.lists ds xs A l b q
 |.lst ds,_,A,⟨a,xs,A',e,h,z,l⟩,b,q=>by
  rw[z]at q;rcases mem_cons.mp q with rfl|q
  ·exact .inl ⟨xs,h⟩
  ·exact DeepL.lists ds xs A' l b q
 |.obj _ _ _,_,_,h,_,_=>h.elim
 |.dct ks ds,_,A,⟨a,kvs,A',e,h,y,z,l⟩,b,q=>by
  rw[z]at q;rcases mem_cons.mp q with rfl|q
  ·exact .inr (.inr ⟨kvs,h⟩)
  ·exact DeepL.lists ds _ A' l b q
theorem DeepL.lists {K:Frag} {M H:Hp}:∀ (ds:List D) (xs:List V) (A:List Addr),DeepL K M H ds xs A->∀a∈A,Hid (H a)
 |[],_,_,h,_,q=>by rw[h.2]at q;cases q
 |d::ds,_,A,⟨x,r,A1,A2,e,z,h,l⟩,b,q=>by
  rw[z]at q;rcases mem_append.mp q with q|q
  ·exact Deep.lists d x A1 h b q
  ·exact DeepL.lists ds r A2 l b q
end
theorem DeepL.len {K}:∀ {ds:List D} {xs:List V} {A:List Addr},DeepL K M H ds xs A->ds.length=xs.length
 |[],_,_,h=>by rw[h.1];rfl
 |_::_,_,_,⟨x,r,A1,A2,e,z,h,l⟩=>by rw[e,length_cons,length_cons,DeepL.len l]
theorem DeepL.snoc {K} (h:Deep K M H y v A'):∀ {ds:List D} {xs:List V} {A:List Addr},DeepL K M H ds xs A->DeepL K M H (ds++[y]) (xs++[v]) (A++A')
 |[],_,_,l=>by
  rw[l.1,l.2];exact⟨v,[],A',[],rfl,by simp,h,rfl,rfl⟩
 |d::ds,_,_,⟨x,r,A1,A2,e,z,q,l⟩=>by
  rw[e,z];exact⟨x,r++[v],A1,A2++A',rfl,by rw[List.append_assoc],q,DeepL.snoc h l⟩
def PU (X:Cx) (e:Expr) (t:TE):Prop:=PE X e t/\∀ (i:Nat) (x:Str) (px spos:Pos),X.N.Nodup->X.N[i]?=some x->X.env.scope.names.lookup x=some .local->
 swapsWith e (some (.Name x px)) spos.line X.env=pure true->PS X (.Assign [.Name x px] e spos) (xR t (qZ i))
theorem PU.imp (h:PU X e t) (k:∀σ H Q,t' σ H Q->t σ H Q):PU X e t':=
 ⟨h.1.imp k,λi x px spos a b c d=>(h.2 i x px spos a b c d).imp λEn σ H q=>k σ H _ q⟩
theorem PE.by2 (h1:PE X e t1) (h2:PE X e t2) (k:∀σ H Q,t σ H Q->t1 σ H Q\/t2 σ H Q):PE X e t:=λpins s σ H Q I q=>(k σ H Q q).elim (h1 pins s σ H Q I) (h2 pins s σ H Q I)
theorem PS.by2 (h1:PS X e t1) (h2:PS X e t2) (k:∀En σ H,t En σ H->t1 En σ H\/t2 En σ H):PS X e t:=λpins s σ H Q I q=>(k Q σ H q).elim (h1 pins s σ H Q I) (h2 pins s σ H Q I)
theorem PU.by2 (h1:PU X e t1) (h2:PU X e t2) (k:∀σ H Q,t σ H Q->t1 σ H Q\/t2 σ H Q):PU X e t:=
 ⟨h1.1.by2 h2.1 k,λi x px spos a b c d=>(h1.2 i x px spos a b c d).by2 (h2.2 i x px spos a b c d) λEn σ H q=>k σ H _ q⟩
theorem PU.ex {ι:Type} {t:ι->TE} (h:∀z,PU X e (t z)):PU X e (λσ H Q=>∃z,t z σ H Q):=
 ⟨PE.ex λz=>(h z).1,λi x px spos a b c d pins s σ H D I ⟨z,q⟩=>(h z).2 i x px spos a b c d pins s σ H D I q⟩
def gd:Expr->Bool
 |.ListComp _ _ _ _=>true
 |.SetComp _ _ _ _=>true
 |.DictComp _ _ _ _ _=>true
 |_=>false
theorem jr (h:gd e=false) (t:Option Expr) (l:Nat) (env:Env):swapsWith e t l env=pure false:=by
 cases e<;>first|rfl|cases h
theorem PE.pu (h:PE X e t) (hc:gd e=false):PU X e t:=⟨h,λi x px spos _ _ _ q=>by
 rw[jr hc]at q;have q':=q;cases q'⟩
theorem vn (hc:X.calm=true) (S:CSc X scope ks) (hi:PI X tg iter wi) (hg:∀C s H fp,PG (cxC X scope C s H fp) tg g) (htt:∀C s H fp,PTs (cxC X scope C s H fp) ifs tt) (he:∀C s H fp,PE (cxC X scope C s H fp) elt te) (hs:∀x,foldedSetIterable iter X.env x=pure x):PU X (.ListComp elt [⟨tg,iter,ifs,0⟩] scope pos) (rp wi ks g tt te):=
 ⟨BL hc S hi hg htt he hs,λi x px spos hN hx hl hsw=>BM hN hx hl hc S hi hg htt he hsw hs⟩
def tFr (K:Frag) (Y:Vv) (o:Option D):TE:=λσ H Q=>VE K noO σ H Y/\∃d,o=some d/\∀v H' A,Same H H'->Deep K H' H' d v A->A.Nodup->(∀a∈A,H a=none)->Q v H'
def Lx (K:Frag) (Y:Vv) (o:Option (List D)):TA:=λσ H Q=>VE K noO σ H Y/\∃ds,o=some ds/\∀vs H' A,Same H H'->DeepL K H' H' ds vs A->A.Nodup->(∀a∈A,H a=none)->Q vs H'
def PFr (X:Cx) (e:Expr) (f:Vv->Option D):Prop:=∀Y,PU X e (tFr X.K Y (f Y))
def tX (X:Cx) (es:List Expr) (f:Vv->Option (List D)):Prop:=∀Y,PA X es (Lx X.K Y (f Y))
def PPu (X:Cx) (e:Expr) (f:Vv->Option D):Prop:=∀O Y,PU X e (tP X.K O Y (f Y))
def PFu (X:Cx) (e:Expr) (f:Vv->Option (List D)):Prop:=∀O Y,PU X e (tPF X.K O Y (f Y))
section
variable {X:Cx} {e:Expr} {es:List Expr} {pos:Pos}
def lfO (o:Option D):Option D:=o.bind λd=>if lfD d then some d else none
def js (o:Option (List D)):Option D:=o.bind λds=>if lfL ds then some (.lst ds)else none
theorem FA {K} (h:tFr K Y (lfO o) σ H Q):tP K noO Y o σ H Q:=by
 obtain⟨E,d,e,k⟩:=h;obtain⟨d',e1,e2⟩:=bind_some e;obtain⟨f,e3⟩:=ax e2;subst e3;refine⟨E,d',e1,λv H' s i=>k v H' [] s ?_ List.nodup_nil λ_ q=>(nomatch q)⟩;exact Is.deep d' v f i
theorem B7 {K} (h:tFr K Y (js o) σ H Q):tPF K noO Y o σ H Q:=by
 obtain⟨E,d,e,k⟩:=h;obtain⟨ds,e1,e2⟩:=bind_some e;obtain⟨f,e3⟩:=ax e2;subst e3;refine⟨E,ds,e1,λp xs H' s hp l=>?_⟩;refine k _ _ [p] (s.trans (Same.new hp)) ⟨p,xs,[],rfl,ar,rfl,?_⟩ (by simp) λa ha=>?_
 ·exact DeepL.frame (NL.of (Same.new hp)) ds xs [] (λ_ q=>(nomatch q)) (IsL.deep (H:=H') ds xs f l)
 ·rw[mem_singleton.mp ha];exact s.free hp
theorem Jc (h:PPu X e f):PFr X e (λY=>lfO (f Y)):=λY=>(h noO Y).imp λσ H Q q=>FA q
theorem FC (h:PFu X e f):PFr X e (λY=>js (f Y)):=λY=>(h noO Y).imp λσ H Q q=>B7 q
def orO {α β:Type} (f g:α->Option β):α->Option β:=λx=>match f x with|some y=>some y|none=>g x
theorem or_some {x:α} {y:β} (h:orO f g x=some y):f x=some y\/g x=some y:=by
 unfold orO at h;split at h
 ·rename_i z hz;rw[hz];exact .inl h
 ·exact .inr h
theorem DS (h1:PFr X e f) (h2:PFr X e g):PFr X e (orO f g):=λY=>(h1 Y).by2 (h2 Y) λσ H Q ⟨E,d,q,k⟩=>by
 rcases or_some q with q|q
 ·exact .inl ⟨E,d,q,k⟩
 ·exact .inr ⟨E,d,q,k⟩
theorem oS:PFr X e (λ_=>none):=λY=>⟨λ_ _ _ _ _ _ ⟨_,_,q,_⟩=>(by cases q),λ_ _ _ _ _ _ _ _ _ _ _ _ _ _ ⟨_,_,q,_⟩=>(by cases q)⟩
theorem mH:PPu X e (λ_=>none):=λO Y=>⟨λ_ _ _ _ _ _ ⟨_,_,q,_⟩=>(by cases q),λ_ _ _ _ _ _ _ _ _ _ _ _ _ _ ⟨_,_,q,_⟩=>(by cases q)⟩
theorem iW:PFu X e (λ_=>none):=λO Y=>⟨λ_ _ _ _ _ _ ⟨_,_,q,_⟩=>(by cases q),λ_ _ _ _ _ _ _ _ _ _ _ _ _ _ ⟨_,_,q,_⟩=>(by cases q)⟩
theorem tY (h1:PPu X e f) (h2:PPu X e g):PPu X e (orO f g):=λO Y=>(h1 O Y).by2 (h2 O Y) λσ H Q ⟨E,d,q,k⟩=>by
 rcases or_some q with q|q
 ·exact .inl ⟨E,d,q,k⟩
 ·exact .inr ⟨E,d,q,k⟩
theorem vo:tX X [] (λ_=>some []):=λY=>pa_nil.imp λσ H Q ⟨E,ds,e,k⟩=>by
 cases e;exact k [] H [] (Same.refl _) ⟨rfl,rfl⟩ List.nodup_nil λ_ q=>(nomatch q)
theorem Deep.have {K} (h:Deep K M H d v A) (q:a∈A):H a≠none:=by
 exact(Deep.lists d v A h a q).ne
theorem frs_cons (h:PFr X e f) (hr:tX X es g) (hs:starEach (e::es) X.env=(false,eval e X.env)::starEach es X.env):tX X (e::es) (aa f g):=
 λY=>(bx (h Y).1 (hr Y) hs).imp λσ H Q ⟨E,ds,q,k⟩=>by
 obtain⟨d,e1,q⟩:=bind_some q
 obtain⟨r,e2,q⟩:=bind_some q
 cases q
 refine⟨E,d,e1,λv H1 A1 s1 i1 n1 f1=>⟨E.grow s1,r,e2,λvs H2 A2 s2 i2 n2 f2=>k _ H2 _ (s1.trans s2) ⟨v,vs,A1,A2,rfl,rfl,Deep.frame (NL.of s2) d v A1 (λa _ o h=>s2 _ _ h) i1,i2⟩ ?_ ?_⟩⟩
 ·refine List.nodup_append.mpr ⟨n1,n2,λa ha b hb z=>?_⟩;subst z;exact i1.have ha (f2 a hb)
 ·intro a ha;rcases mem_append.mp ha with ha|ha
  ·exact f1 a ha
  ·exact s1.free (f2 a ha)
theorem yM (h:tX X es g):PFr X (.List es pos) (λY=>(bZ (g Y)).bind λds=>some (.lst ds)):=λY=>PE.pu ((x6 (h Y)).imp λσ H Q ⟨E,d,q,k⟩=>by
 obtain⟨ds,z,q2⟩:=bind_some q;cases q2;obtain⟨e1,e2⟩:=da z;refine⟨E,ds,e1,λvs H1 A s1 l n f=>⟨by rw[<-l.len];exact Nat.le_of_lt e2,λp hp=>?_⟩⟩;have hpA:p ∉ A:=λz=>by
  exact(DeepL.lists ds vs A l p z).ne (hp)
 refine k _ _ _ (s1.trans (Same.new hp)) ⟨p,vs,A,rfl,ar,rfl,DeepL.frame (NL.of (Same.new hp)) ds vs A (λa _ o h=>Same.new hp _ _ h) l⟩ (List.nodup_cons.mpr ⟨hpA,n⟩) λa ha=>?_;rcases mem_cons.mp ha with rfl|ha
 ·exact s1.free hp
 ·exact f a ha) rfl
theorem FD {x1} (h:tX X es g):PFr X (.Tuple es x1 pos) (λY=>(bZ (g Y)).bind λds=>some (.tup ds)):=λY=>PE.pu ((tH (h Y)).imp λσ H Q ⟨E,d,q,k⟩=>by
 obtain⟨ds,z,q2⟩:=bind_some q;cases q2;obtain⟨e1,e2⟩:=da z;refine⟨E,ds,e1,λvs H1 A s1 l n f=>⟨by rw[<-l.len];exact Nat.le_of_lt e2,λp hp=>?_⟩⟩;exact k _ _ A (s1.trans (Same.new hp)) ⟨p,vs,rfl,.inl ar,DeepL.frame (NL.of (Same.new hp)) ds vs A (λa _ o h=>Same.new hp _ _ h) l⟩ n f) rfl
abbrev xFr (K:Frag) (f:Vv->Option D):TE:=λσ H Q=>∃z:Vv,tFr K z (f z) σ H Q
theorem tZ {K} (h:tFr K Y ((ak ks fi g ft fe Y).bind λds=>some (.lst ds)) σ H Q):
  rp (tJ K noO Y (fi Y)) ks (xG K ks g) (xT K ft) (xFr K fe) σ H Q:=by
 obtain⟨E,d,ee,k⟩:=h
 obtain⟨tot,ef,ed⟩:=bind_some ee
 cases ed
 obtain⟨ds,e1,e⟩:=bind_some ef
 obtain⟨e2,hz⟩:=da e
 refine⟨E,ds,e1,λJ H1 s1 it=>⟨λi m ys H2=>i<=ds.length/\m=ds.length-i/\Same H1 H2/\∃rs rest A,DeepL K H2 H2 rs ys A/\A.Nodup/\(∀a∈A,H a=none)/\iH (gI g ft fe _) (ds.drop i)=some rest/\tot=rs++rest,
  ⟨ds.length,Nat.zero_le _,by simp,Same.refl _,[],tot,[],⟨rfl,rfl⟩,List.nodup_nil,λ_ q=>(nomatch q),by simpa using e2,rfl⟩,?_⟩⟩
 rintro i m ys H2 ⟨hi,rfl,s2,rs,rest,A,il,nd,fr,er,et⟩
 have E2:=E.grow (s1.trans s2)
 have hit:=it i H2 noO s2.msk E2.dom
 have hlen:ys.length<sizeLine:=by
  rw[<-il.len];have:rs.length<=tot.length:=by rw[et,length_append];omega
  omega
 by_cases hlt:i<ds.length
 ·refine .inr ?_;have hd:=getElem?_eq_getElem hlt;obtain⟨go,yl⟩:=hit.1 _ hd;refine⟨go,hlen,λx H3 hy=>?_⟩;obtain⟨s3,ix⟩:=yl x H3 hy;rw[List.drop_eq_getElem_cons hlt]at er;obtain⟨o,eo,er⟩:=bind_some (er);obtain⟨rest',er',er⟩:=bind_some er;obtain⟨Y1,g1,eo⟩:=bind_some eo;obtain⟨c,c1,eo⟩:=bind_some eo;refine⟨⟨noO,wipe ks Y,ds[i]⟩,(E2.grow s3).wiped ks,ix,Y1,g1,λσ4 E4 l4 k4=>⟨⟨l4,λj w hw=>?_⟩,⟨noO,Y1⟩,E4,c,c1,λH5 s5=>?_⟩⟩
  ·exact k4 j w (wipe_iff.mp hw).2 hw
  ·have hm:ds.length-(i+1)<ds.length-i:=by omega
   cases c with
   |true=>
    refine EQ ?_;obtain⟨y,y1,eo⟩:=bind_some eo;cases eo;refine⟨Y1,E4.grow s5,y,y1,λv H6 A' s6 iv nv fv=>⟨_,hm,hlt,rfl,s2.trans (s3.trans (s5.trans s6)),rs++[y],rest',A++A',?_,?_,?_,er',?_⟩⟩
    ·have s36:=s3.trans (s5.trans s6);have il':=DeepL.frame (NL.of s36) rs ys A (λa _ o h=>s36 _ _ h) il;exact DeepL.snoc iv il'
    ·refine List.nodup_append.mpr ⟨nd,nv,λa ha b hb z=>?_⟩;subst z;exact((DeepL.lists rs ys A il a ha).same (s3.trans s5)).ne (fv a hb)
    ·intro a ha;rcases mem_append.mp ha with ha|ha
     ·exact fr a ha
     ·exact(s1.trans (s2.trans (s3.trans s5))).free (fv a ha)
    ·rw[et,<-Option.some.inj er,List.append_assoc];rfl
   |false=>
    refine EO ?_;cases eo;have s35:=s3.trans s5;refine⟨_,hm,hlt,rfl,s2.trans s35,rs,rest',A,DeepL.frame (NL.of s35) rs ys A (λa _ o h=>s35 _ _ h) il,nd,fr,er',?_⟩;rw[et,<-Option.some.inj er]
 ·have hie:i=ds.length:=by omega
  subst hie;refine .inl ⟨hit.2 (le_refl _),Nat.le_of_lt hlen,λp hp=>?_⟩;rw[List.drop_of_length_le (le_refl _)]at er;cases er;rw[List.append_nil]at et;subst et;have hpA:p ∉ A:=λz=>by
   exact(DeepL.lists tot ys A il p z).ne (hp)
  refine k _ _ _ (s1.trans (s2.trans (Same.new hp))) ⟨p,ys,A,rfl,ar,rfl,DeepL.frame (NL.of (Same.new hp)) tot ys A (λa _ o h=>Same.new hp _ _ h) il⟩ (List.nodup_cons.mpr ⟨hpA,nd⟩) λa ha=>?_;rcases mem_cons.mp ha with rfl|ha
  ·exact(s1.trans s2).free hp
  ·exact fr a ha
end
def tEv (K:Frag) (B:Bs) (O:Addr->Bool) (Y:Ev) (o:Option (Sl×Ev)):TE:=λσ H Q=>EnvOk K B O σ H Y/\∃s Y',o=some (s,Y')/\∀v H' O',Same (msk O H) (msk O' H')->EnvOk K B O' (σ++[some v]) H' (Y'++[some s])->Q v H'
def PEv (X:Cx) (e:Expr) (g:Ev->Option (Sl×Ev)):Prop:=∀B O Y,PU X e (tEv X.K B O Y (g Y))
section
variable {X:Cx} {e:Expr}
def lE (f:Vv->Option D):Ev->Option (Sl×Ev):=λY=>(f (vw Y)).bind λd=>some ((.deep,d),Y)
def kY (f:Vv->Option (List D)):Ev->Option (Sl×Ev):=λY=>(f (shv Y)).bind λds=>some ((.top,.lst ds),Y)
def rH (f:Vv->Option D):Ev->Option (Sl×Ev):=λY=>(f (shv Y)).bind λd=>some ((.sh,d),Y)
def w9 (f:Vv->Option D):Ev->Option (Sl×Ev):=λY=>(f (vw Y)).bind λd=>some ((.sh,d),cH Y)
theorem yN (h:PFr X e f):PEv X e (lE f):=λB O Y=>(h (vw Y)).imp λσ H Q ⟨E,s,Y',q,k⟩=>by
 obtain⟨d,q1,q2⟩:=bind_some q;cases q2;refine⟨E.view,d,q1,λv H' A s i n f=>?_⟩;have hl:=Deep.lists d v A i;have hO:∀b,(O b||decide (b∈A))=true->Hid (H' b):=λb hb=>by
  rcases(Bool.or_eq_true _ _).mp hb with hb|hb
  ·exact(E.lis b hb).same s
  ·exact hl b (of_decide_eq_true hb)
 have le:Same (msk O H) (msk (λb=>O b||decide (b∈A)) H'):=λb o q=>by
  obtain⟨q1,q2⟩:=bv q;have hb:b ∉ A:=λz=>by rw[f b z]at q2;cases q2
  rw[aS (by simp[q1,hb])];exact s _ _ q2
 refine k v H' _ le (E.more s le (λb hb=>?_) (λb hb=>by simp[hb]) (λb hb=>by simp[hb]) hl n f ?_)
 ·rcases(Bool.or_eq_true _ _).mp hb with hb|hb
  ·exact .inl hb
  ·exact .inr (of_decide_eq_true hb)
 ·refine Deep.frame (λb o hb hn=>?_) d v A (λa _ o h=>h) i;cases z:(O b||decide (b∈A))with
  |false=>rw[aS z];exact hb
  |true=>
   have e:=hO b z;rw[hb]at e;exact(hn e).elim
theorem t3 (h:PFu X e f):PEv X e (kY f):=λB O Y=>(h O _).imp λσ H Q ⟨E,s,Y',q,k⟩=>by
 obtain⟨ds,q1,q2⟩:=bind_some q;cases q2;refine⟨E.viewS,ds,q1,λp xs H' s hp l=>?_⟩;have le:Same (msk O H') (msk (λb=>O b||decide (b=p)) (upd H' p (.lst xs))):=λb o q=>by
  obtain⟨q1,q2⟩:=bv q;have hb:=aH q2 hp;rw[aS (by simp[q1,hb]),au hb];exact q2
 refine k _ _ _ (s.msk.trans le) ((E.grow s).more (Same.new hp) le (λb hb=>?_) (λb hb=>by simp[hb]) (λb hb=>by simp[mem_singleton.mp hb]) (λa ha=>?_) (by simp) (λa ha=>by rw[mem_singleton.mp ha];exact hp) ⟨p,ds,xs,rfl,rfl,rfl,ar,IsL.mono le ds xs l⟩)
 ·rcases(Bool.or_eq_true _ _).mp hb with hb|hb
  ·exact .inl hb
  ·exact .inr (by simp[of_decide_eq_true hb])
 ·rw[mem_singleton.mp ha];exact .inl ⟨xs,ar⟩
theorem EnvOk.moreSh {K} (E:EnvOk K B O σ H Y) (h:Is K (msk O H) d v):EnvOk K B O (σ++[some v]) H (Y++[some (.sh,d)]):=
 E.more (A:=[]) (Same.refl _) (Same.refl _) (λ_ h=>.inl h) (λ_ h=>h) (λ_ h=>(nomatch h)) (λ_ h=>(nomatch h)) List.nodup_nil (λ_ h=>(nomatch h)) ⟨rfl,h⟩
theorem vp (h:PPu X e f):PEv X e (rH f):=λB O Y=>(h O _).imp λσ H Q ⟨E,s,Y',q,k⟩=>by
 obtain⟨d,q1,q2⟩:=bind_some q;cases q2;exact⟨E.viewS,d,q1,λv H' s i=>k v H' O s.msk ((E.grow s).moreSh i)⟩
theorem DT (h:PPu X e f):PEv X e (w9 f):=λB O Y=>(h B.O (vw Y)).imp λσ H Q ⟨E,s,Y',q,k⟩=>by
 obtain⟨d,q1,q2⟩:=bind_some q;cases q2;obtain⟨E',le⟩:=E.frozen;exact⟨E.viewF,d,q1,λv H' s i=>k v H' B.O (le.trans s.msk) ((E'.grow s).moreSh i)⟩
theorem ev_or (h1:PEv X e f) (h2:PEv X e g):PEv X e (orO f g):=λB O Y=>(h1 B O Y).by2 (h2 B O Y) λσ H Q ⟨E,s,Y',q,k⟩=>by
 rcases or_some q with q|q
 ·exact .inl ⟨E,s,Y',q,k⟩
 ·exact .inr ⟨E,s,Y',q,k⟩
end
inductive Out where
 |nx (Y:Ev)
 |rt (s:Sl)
 |bk (Y:Ev)
 |ct (Y:Ev)
def RetOk (K:Frag) (B:Bs) (H':Hp) (s:Sl) (v:V):Prop:=∃ (O':Addr->Bool) (A:List Addr),Same B.H H'/\(∀b,B.O b=true->O' b=true)/\(∀b,O' b=true->Hid (H' b))/\A.Nodup/\(∀a∈A,O' a=true/\B.H a=none)/\OwnC K O' H' s.1 s.2 v A
def post (K:Frag) (B:Bs) (O:Addr->Bool) (H:Hp) (En:Ends):Out->Prop
 |.nx Y=>∀σ' H' O',Same (msk O H) (msk O' H')->EnvOk K B O' σ' H' Y->En.nx σ' H'
 |.bk Y=>∀σ' H' O',Same (msk O H) (msk O' H')->EnvOk K B O' σ' H' Y->En.bk σ' H'
 |.ct Y=>∀σ' H' O',Same (msk O H) (msk O' H')->EnvOk K B O' σ' H' Y->En.ct σ' H'
 |.rt s=>∀v H',RetOk K B H' s v->En.rt v H'
theorem post.mono {K} (s:Same (msk O H) (msk O1 H1)):∀ {o:Out},post K B O H En o->post K B O1 H1 En o
 |.nx _,h=>λσ' H' O' s' E=>h σ' H' O' (s.trans s') E
 |.bk _,h=>λσ' H' O' s' E=>h σ' H' O' (s.trans s') E
 |.ct _,h=>λσ' H' O' s' E=>h σ' H' O' (s.trans s') E
 |.rt _,h=>h
def tS (K:Frag) (B:Bs) (O:Addr->Bool) (Y:Ev) (o:Option Out):TS:=λEn σ H=>EnvOk K B O σ H Y/\∃out,o=some out/\post K B O H En out
def PR (X:Cx) (st:Stmt) (F:Ev->Option Out):Prop:=∀B O Y,PS X st (tS X.K B O Y (F Y))
def PRs (X:Cx) (st:List Stmt) (F:Ev->Option Out):Prop:=∀B O Y,PSs X st (tS X.K B O Y (F Y))
section
variable {X:Cx} {st:Stmt} {rest:List Stmt} {e tg iter:Expr} {pos:Pos}
theorem FE:PRs X [] (λY=>some (.nx Y)):=λB O Y=>pss_nil.imp λEn σ H ⟨E,o,q,k⟩=>by
 cases q;exact k σ H O (Same.refl _) E
def af (F G:Ev->Option Out):Ev->Option Out:=λY=>(F Y).bind λo=>match o with|.nx Y'=>G Y'|o=>some o
theorem B8 (h1:PR X st F) (h2:PRs X rest G):PRs X (st::rest) (af F G):=λB O Y=>
 (l7 (h1 B O Y) (PSs.ex λz:(Addr->Bool)×Ev=>h2 B z.1 z.2)).imp λEn σ H ⟨E,o,q,k⟩=>by
 obtain⟨o1,q1,q2⟩:=bind_some q;refine⟨E,o1,q1,?_⟩;cases o1 with
 |nx Y'=>exactλσ' H' O' s' E'=>⟨⟨O',Y'⟩,E',o,q2,k.mono s'⟩
 |rt d=>cases q2;exact k
 |bk Y'=>cases q2;exact k
 |ct Y'=>cases q2;exact k
theorem yO:PRs X rest (λ_=>none):=λB O Y=>pss_never.imp λEn σ H ⟨E,o,q,k⟩=>by cases q
theorem yP:PR X st (λ_=>none):=λB O Y=>ps_never.imp λEn σ H ⟨E,o,q,k⟩=>by cases q
theorem B9:PR X (.Pass pos) (λY=>some (.nx Y)):=λB O Y=>ps_pass.imp λEn σ H ⟨E,o,q,k⟩=>by
 cases q;exact k σ H O (Same.refl _) E
theorem yQ:PR X (.Break pos) (λY=>some (.bk Y)):=λB O Y=>ps_break.imp λEn σ H ⟨E,o,q,k⟩=>by
 cases q;exact k σ H O (Same.refl _) E
theorem rJ:PR X (.Continue pos) (λY=>some (.ct Y)):=λB O Y=>ps_continue.imp λEn σ H ⟨E,o,q,k⟩=>by
 cases q;exact k σ H O (Same.refl _) E
theorem FG:PR X (.Expr (.Constant (.str x) j pos) pos') (λY=>some (.nx Y)):=λB O Y=>ps_doc.imp λEn σ H ⟨E,o,q,k⟩=>by
 cases q;exact k σ H O (Same.refl _) E
def cb (g:Ev->Option (Sl×Ev)):Ev->Option Out:=λY=>(g Y).bind λz=>some (.rt z.1)
theorem EnvOk.ret {K} (E:EnvOk K B O σ H Y) {i:Nat} (h:Y[i]?=some (some s)) (hv:σ[i]?=some (some v)):RetOk K B H s v:=by
 obtain⟨F,h1,h2,h3,h4⟩:=E.fp;obtain⟨v',e,o⟩:=h1 i s h;rw[hv]at e;cases e;exact⟨O,F i,E.same,E.sub,E.lis,h2 i,h4 i,o⟩
theorem yR (h:PEv X e g):PR X (.Return (some e) pos) (cb g):=λB O Y=>(tf (h B O Y).1).imp λEn σ H ⟨E,o,q,k⟩=>by
 obtain⟨⟨s,Y'⟩,q1,q2⟩:=bind_some q;cases q2;refine⟨E,s,Y',q1,λv H' O' s' E'=>k v H' ?_⟩;have len:σ.length=Y'.length:=by have:=E'.len;simp at this;exact this
 exact E'.ret (getElem?_last _ _) (by rw[<-len];exact getElem?_last _ _)
theorem Cc:PR X (.Return none pos) (λ_=>some (.rt (.deep,.non))):=λB O Y=>ps_retN.imp λEn σ H ⟨E,o,q,k⟩=>by
 cases q;exact k .non H ⟨O,[],E.same,E.sub,E.lis,List.nodup_nil,λ_ h=>(nomatch h),rfl,rfl⟩
def jt (Y:Ev) (i:Nat):Option Sl:=match Y[i]? with
 |some (some s)=>some s
 |_=>none
theorem cM (h:jt Y i=some s):Y[i]?=some (some s):=by
 unfold jt at h;split at h
 ·cases h;assumption
 ·cases h
theorem t4 (i:Nat) (hN:X.N[i]?=some x) (hv:Vis X.env.scope x) (hd:(x==("__debug__":Str))=false) (hcd:(x==("__classdict__":Str))=false):PR X (.Return (some (.Name x px)) pos) (λY=>(jt Y i).bind λs=>some (.rt s)):=λB O Y=>(tf (cF hN hv hd hcd)).imp λEn σ H ⟨E,o,q,k⟩=>by
 obtain⟨s,q1,q2⟩:=bind_some q;cases q2;obtain⟨F,h1,h2,h3,h4⟩:=E.fp;obtain⟨v,e,o⟩:=h1 i s (cM q1);exact⟨v,e,k v H (E.ret (cM q1) e)⟩
def aP (i:Nat) (g:Ev->Option (Sl×Ev)):Ev->Option Out:=λY=>(g Y).bind λz=>some (.nx (z.2.set i (some z.1)))
theorem vq {K} (h:tS K B O Y (aP i g Y) En σ H):xR (tEv K B O Y (g Y)) (qZ i) En σ H:=by
 obtain⟨E,o,q,k⟩:=h;obtain⟨⟨s,Y'⟩,q1,q2⟩:=bind_some q;cases q2;exact⟨E,s,Y',q1,λv H' O' s' E'=>k _ H' O' s' (E'.put i)⟩
theorem yS (hN:X.N.Nodup) (hi:X.N[i]?=some x) (hx:Loc X.env.scope x) (h:PEv X e g) (hf:X.fn x=true\/X.env.scope.names.lookup x=some .local) (hs:swapsWith e (some (.Name x pos')) pos.line X.env=pure false\/(swapsWith e (some (.Name x pos')) pos.line X.env=pure true/\X.env.scope.names.lookup x=some .local)):PR X (.Assign [.Name x pos'] e pos) (aP i g):=λB O Y=>by
 rcases hs with hs|⟨hs,hl⟩
 ·exact(Ex hN hi hx (h B O Y).1 hs hf).imp λEn σ H h=>vq h
 ·exact((h B O Y).2 i x pos' pos hN hi hl hs).imp λEn σ H h=>vq h
def cX (f:Vv->Option D):Ev->Option Out:=λY=>(f (vw Y)).bind λ_=>some (.nx Y)
theorem Cd (h:PP X e f) (hs:swapsWith e none pos.line X.env=pure false):PR X (.Expr e pos) (cX f):=λB O Y=>(dj (h noO (vw Y)) hs).imp λEn σ H ⟨E,o,q,k⟩=>by
 obtain⟨d,q1,q2⟩:=bind_some q;cases q2;exact⟨E.view,d,q1,λv H' s' iv=>k σ H' O s'.msk (E.grow s')⟩
def ifS (fc:Vv->Option Bool) (F G:Ev->Option Out):Ev->Option Out:=λY=>(fc (vw Y)).bind λc=>if c=true then F Y else G Y
theorem Jd (hc:PQ X c fc) (ha:PRs X a F) (hb:PRs X b G):PR X (.If c a b pos) (ifS fc F G):=λB O Y=>(H0 (hc noO (vw Y)) (ha B O Y) (hb B O Y)).imp λEn σ H ⟨E,o,q,k⟩=>by
 obtain⟨c,q1,q2⟩:=bind_some q;refine⟨E.view,c,q1,λH' s'=>?_⟩;cases c with
 |true=>rw[if_pos rfl]at q2;exact EQ ⟨E.grow s',o,q2,k.mono s'.msk⟩
 |false=>rw[if_neg Bool.false_ne_true]at q2;exact EO ⟨E.grow s',o,q2,k.mono s'.msk⟩
end
def tGE (K:Frag) (B:Bs) (O:Addr->Bool) (Y:Ev) (d:D) (o:Option Ev):TG:=λv σ H Q=>EnvOk K B O σ H Y/\Is K (msk O H) d v/\∃Y',o=some Y'/\∀σ',EnvOk K B O σ' H Y'->Q σ' H
def PGE (X:Cx) (tg:Expr) (g:D->Ev->Option Ev):Prop:=∀B O Y d,PG X tg (tGE X.K B O Y d (g d Y))
def Lz (K:Frag) (B:Bs) (O:Addr->Bool) (Y:Ev) (ds:List D) (o:Option Ev):TGs:=λvs σ H Q=>EnvOk K B O σ H Y/\IsL K (msk O H) ds vs/\∃Y',o=some Y'/\∀σ',EnvOk K B O σ' H Y'->Q σ' H
def xa (X:Cx) (ts:List Expr) (g:List D->Ev->Option Ev):Prop:=∀B O Y ds,PGs X ts (Lz X.K B O Y ds (g ds Y))
def eNm (i:Nat):D->Ev->Option Ev:=λd Y=>some (Y.set i (some (.sh,d)))
def j4:List D->Ev->Option Ev:=λds Y=>match ds with|[]=>some Y|_=>none
def cm (g:D->Ev->Option Ev) (gs:List D->Ev->Option Ev):List D->Ev->Option Ev:=λds Y=>match ds with|d::r=>(g d Y).bind λY1=>gs r Y1|_=>none
def eTp (n:Nat) (gs:List D->Ev->Option Ev):D->Ev->Option Ev:=λd Y=>match d with|.tup ds=>if ds.length=n then gs ds Y else none|_=>none
section
variable {X:Cx} {e tg iter:Expr} {pos:Pos}
theorem Ce (hN:X.N.Nodup) (hi:X.N[i]?=some x) (hx:Loc X.env.scope x) (hf:X.fn x=true\/X.env.scope.names.lookup x=some .local):PGE X (.Name x pos) (eNm i):=
 λB O Y d=>(uZ hN hi hx hf).imp λv σ H Q ⟨E,iv,Y',e,k⟩=>by
 cases e
 exact k _ (E.setSh iv)
theorem Cf:xa X [] j4:=λB O Y ds=>pgs_nil.imp λvs σ H Q ⟨E,il,Y',e,k⟩=>by
 cases ds with
 |nil=>cases e;exact⟨il,k σ E⟩
 |cons _ _=>cases e
theorem gse_cons (h1:PGE X e g) (h2:xa X ts gs) (hs:(assignEach (e::ts) X.env).map (·.2)=assign e X.env::(assignEach ts X.env).map (·.2)):xa X (e::ts) (cm g gs):=λB O Y ds=>by
 cases ds with
 |nil=>exactλpins s σ H vs us Q I r ⟨_,_,Y',e,_⟩=>by cases e
 |cons d r=>
  refine(q0 (h1 B O Y d) (PGs.ex λz:Ev=>h2 B O z r) hs).imp λvs σ H Q ⟨E,⟨x,xr,z,ix,il⟩,Y',e,k⟩=>?_;obtain⟨Y1,e1,e2⟩:=bind_some (e);exact⟨x,xr,z,E,ix,Y1,e1,λσ1 E1=>⟨Y1,E1,il,Y',e2,λσ2 E2=>k σ2 E2⟩⟩
theorem FH (hc:X.calm=true) (h:xa X ts gs) (hn:(assignEach ts X.env).length=n) (hst:(assignEach ts X.env).findIdx? (·.1)=none):PGE X (.Tuple ts k pos) (eTp n gs):=λB O Y d=>by
 refine(xQ hc (PGs.ex λz:List D=>h B O Y z) hn hst).imp λv σ H Q ⟨E,iv,Y',e,k⟩=>?_;cases d with
 |tup ds=>
  obtain⟨a,xs,rfl,t,il⟩:=iv;have e':(if ds.length=n then gs ds Y else none)=some Y':=e;split at e'
  ·exact⟨a,xs,rfl,msk_le.seqT t,by rw[<-il.len];assumption,ds,E,il,Y',e',k⟩
  ·cases e'
 |_=>cases e
def fw (step:D->Ev->Option Out):List D->Ev->Option Out
 |[],Y=>some (.nx Y)
 |d::ds,Y=>(step d Y).bind λo=>match o with
  |.nx Y'=>fw step ds Y'
  |.ct Y'=>fw step ds Y'
  |.bk Y'=>some (.nx Y')
  |.rt v=>some (.rt v)
def lF (g:D->Ev->Option Ev) (F:Ev->Option Out):D->Ev->Option Out:=λd Y=>(g d Y).bind F
def gw (fi:Vv->Option (List D)) (g:D->Ev->Option Ev) (F:Ev->Option Out):Ev->Option Out:=λY=>(fi (shv Y)).bind λds=>fw (lF g F) ds Y
def rK (fi:Vv->Option (List D)) (g:D->Ev->Option Ev) (F:Ev->Option Out):Ev->Option Out:=λY=>(fi (vw Y)).bind λds=>fw (lF g F) ds (cH Y)
theorem pZ {K} (E:EnvOk K B O σ H Y) (V:VE K O σ H Yv) (q:(o.bind λds=>fw (lF g F) ds Y)=some out) (k:post K B O H En out):
  Ig (tJ K O Yv o) (λv σ H Q=>∃z:(Addr->Bool)×Ev×D,tGE K B z.1 z.2.1 z.2.2 (g z.2.2 z.2.1) v σ H Q) (λEn σ H=>∃z:(Addr->Bool)×Ev,tS K B z.1 z.2 (F z.2) En σ H) En σ H:=by
 obtain⟨ds,q1,q⟩:=bind_some q
 refine⟨V,ds,q1,λJ H1 s1 it=>⟨λi m σ' H'=>i<=ds.length/\m=ds.length-i/\∃O' Y',Same _ (msk O' H')/\EnvOk K B O' σ' H' Y'/\fw _ (ds.drop i) Y'=some out,
  ⟨ds.length,Nat.zero_le _,by simp,O,Y,Same.refl _,E.grow s1,by simpa using q⟩,?_⟩⟩
 rintro i m σ2 H2 ⟨hi,rfl,O2,Y2,s2,E2,e2⟩
 have hit:=it i H2 O2 s2 E2.dom
 by_cases hlt:i<ds.length
 ·refine .inr ?_;have hd:=getElem?_eq_getElem hlt;obtain⟨go,yl⟩:=hit.1 _ hd;refine⟨go,λσ' H'=>i+1<=ds.length/\∃O' Y',Same _ _/\EnvOk K B O' σ' H' Y'/\fw _ _ Y'=some out,λσ' H' ⟨a,b⟩=>⟨ds.length-(i+1),by omega,a,rfl,b⟩,λx H3 hy=>?_⟩;obtain⟨s3,ix⟩:=yl x H3 hy;rw[List.drop_eq_getElem_cons hlt]at e2;obtain⟨o1,e3,e4⟩:=bind_some (e2);obtain⟨Y3,g3,f3⟩:=bind_some e3;refine⟨⟨O2,Y2,ds[i]⟩,E2.grow s3,ix,Y3,g3,λσ4 E4=>⟨⟨O2,Y3⟩,E4,o1,f3,?_⟩⟩;have s4:=s2.trans s3.msk;cases o1 with
  |nx Y5=>exactλσ5 H5 O5 s5 E5=>⟨hlt,O5,Y5,s4.trans s5,E5,e4⟩
  |ct Y5=>exactλσ5 H5 O5 s5 E5=>⟨hlt,O5,Y5,s4.trans s5,E5,e4⟩
  |bk Y5=>
   cases e4;exactλσ5 H5 O5 s5 E5=>k σ5 H5 O5 (s1.msk.trans (s4.trans s5)) E5
  |rt d=>
   cases e4;exact k
 ·have hie:i=ds.length:=by omega
  subst hie;rw[List.drop_of_length_le (le_refl _)]at e2;cases e2;exact .inl ⟨hit.2 (le_refl _),k σ2 H2 O2 (s1.msk.trans s2) E2⟩
theorem FI (hp:PassesOwn (model X.prog X.w) X.A X.env X.xe) (hc:X.calm=true) (hi:PJ X tg iter fi) (hg:PGE X tg g) (hb:PRs X body F) (hs:∀x,foldedSetIterable iter X.env x=pure x):PR X (.For tg iter body [] pos) (gw fi g F):=λB O Y=>
 (tu hp hc (hi O _) (PG.ex λz:(Addr->Bool)×Ev×D=>hg B z.1 z.2.1 z.2.2) (PSs.ex λz:(Addr->Bool)×Ev=>hb B z.1 z.2) hs).imp λEn σ H ⟨E,out,q,k⟩=>pZ E E.viewS q k
theorem Cg (hp:PassesOwn (model X.prog X.w) X.A X.env X.xe) (hc:X.calm=true) (hi:PJ X tg iter fi) (hg:PGE X tg g) (hb:PRs X body F) (hs:∀x,foldedSetIterable iter X.env x=pure x):PR X (.For tg iter body [] pos) (rK fi g F):=λB O Y=>
 (tu hp hc (hi B.O (vw Y)) (PG.ex λz:(Addr->Bool)×Ev×D=>hg B z.1 z.2.1 z.2.2) (PSs.ex λz:(Addr->Bool)×Ev=>hb B z.1 z.2) hs).imp λEn σ H ⟨E,out,q,k⟩=>pZ E.frozen.1 E.viewF q (k.mono E.frozen.2)
theorem ju {st} (h1:PR X st F) (h2:PR X st G):PR X st (orO F G):=λB O Y=>(h1 B O Y).by2 (h2 B O Y) λEn σ H ⟨E,out,q,k⟩=>by
 rcases or_some q with q|q
 ·exact .inl ⟨E,out,q,k⟩
 ·exact .inr ⟨E,out,q,k⟩
end
section
variable {K:Frag} {B:Bs} {O:Addr->Bool} {σ:St} {H:Hp} {Y:Ev}
theorem EnvOk.ownAt (E:EnvOk K B O σ H Y) {i:Nat} (h:Y[i]?=some (some (c,.lst ds))) (hc:c≠.sh):
  ∃a xs,σ[i]?=some (some (.ref a))/\H a=some (.lst xs)/\ds.length=xs.length/\O a=true/\B.H a=none:=by
 obtain⟨F,h1,h2,h3,h4⟩:=E.fp
 obtain⟨v,e,o⟩:=h1 i _ h
 cases c with
 |sh=>exact absurd rfl hc
 |top=>
  obtain⟨a,ds',xs,z1,z2,z3,z4,l⟩:=o;cases z1;refine⟨a,xs,by rw[e,z2],z4,l.len,?_⟩;exact h4 i a (by rw[z3];exact mem_cons_self)
 |pr=>obtain⟨_,_,_,_,_,_,z,_⟩:=o;cases z
 |deep=>
  obtain⟨a,xs,A',z1,z2,z3,l⟩:=o;refine⟨a,xs,by rw[e,z1],z2,DeepL.len l,?_⟩;exact h4 i a (by rw[z3];exact mem_cons_self)
def lsW (f:{α:Type}->List α->α->List α):Prop:=∀ {K:Frag} {M H:Hp} {ds:List D} {xs:List V} {A A1:List Addr} {d:D} {v:V},DeepL K M H ds xs A->Deep K M H d v A1->(A++A1).Nodup->
 ∃A',DeepL K M H (f ds d) (f xs v) A'/\A'.Nodup/\∀b∈A',b∈A\/b∈A1
def lsI (f:{α:Type}->List α->α->List α):Prop:=∀ {K:Frag} {M:Hp} {ds:List D} {xs:List V} {d:D} {v:V},IsL K M ds xs->Is K M d v->IsL K M (f ds d) (f xs v)
def newCat (c:Cat) (s:Sl):Cat:=if c=.deep/\s.1=.deep then .deep else .top
theorem EnvOk.change (E:EnvOk K B O (σ++[some v]) H (Y++[some s])) (f:{α:Type}->List α->α->List α) (hw:lsW f) (hi:lsI f) {i:Nat} (h:Y[i]?=some (some (c,.lst ds))) (hc:c≠.sh):
  ∃a xs,σ[i]?=some (some (.ref a))/\H a=some (.lst xs)/\ds.length=xs.length/\∃O',EnvOk K B O' σ (upd H a (.lst (f xs v))) (Y.set i (some (newCat c s,.lst (f ds s.2))))/\Same (msk O H) (msk O' (upd H a (.lst (f xs v)))):=by
 obtain⟨F,h1,h2,h3,h4⟩:=E.fp
 have len:σ.length=Y.length:=by have:=E.len;simp at this;exact this
 have hil:i<Y.length:=(List.getElem?_eq_some_iff.mp h).1
 have hin:i≠Y.length:=by omega
 obtain⟨v',e1,o1⟩:=h1 Y.length s (getElem?_last _ _)
 rw[<-len,getElem?_last]at e1
 cases e1
 obtain⟨v0,e0,o0⟩:=h1 i _ (by rw[getElem?_append_left hil];exact h)
 have e0':σ[i]?=some (some v0):=ca (by omega) e0
 -- the list's place
 have at_:∃a xs A',v0=.ref a/\H a=some (.lst xs)/\F i=a::A'/\ds.length=xs.length/\(c=.deep->DeepL K (msk O H) H ds xs A')/\(∀O',Same (msk O H) (msk O' H)->(∀b∈A',O' b=false)->IsL K (msk O' H) ds xs):=by
  cases c with
  |sh=>exact absurd rfl hc
  |top=>
   obtain⟨a,ds',xs,z1,z2,z3,z4,l⟩:=o0;cases z1;exact⟨a,xs,[],z2,z4,z3,l.len,(λz=>by cases z),λO' le _=>IsL.mono le _ _ l⟩
  |pr=>obtain⟨_,_,_,_,_,_,z,_⟩:=o0;cases z
  |deep=>
   obtain⟨a,xs,A',z1,z2,z3,l⟩:=o0;exact⟨a,xs,A',z1,z2,z3,DeepL.len l,λ_=>l,λO' le hA=>DeepL.is (NL.of le) ds xs A' (λb hb o q=>by rw[aS (hA b hb)];exact q) l⟩
 obtain⟨a,xs,A',rfl,ha,hF,hl,hdeep,htop⟩:=at_
 have haF:a∈F i:=by rw[hF];exact mem_cons_self
 obtain⟨haO,haB⟩:=h4 i a haF
 have nd:=h2 i
 rw[hF]at nd
 have haA':a ∉ A':=(List.nodup_cons.mp nd).1
 have hA'F:∀b∈A',b∈F i:=λb hb=>by rw[hF];exact mem_cons_of_mem _ hb
 have han:a ∉ F Y.length:=λz=>hin (h3 _ _ a haF z)
 refine⟨a,xs,e0',ha,hl,?_⟩
 -- the rest of the frame
 have oth:∀ {O':Addr->Bool} {H':Hp},Same (msk O H) (msk O' H')->(∀b,b≠a->H' b=H b)->∀j x,j≠i->Y[j]?=some (some x)->∃w,σ[j]?=some (some w)/\OwnC K O' H' x.1 x.2 w (F j):=λ{O' H'} le hh j x hj hx=>by
  have hjl:=(List.getElem?_eq_some_iff.mp hx).1;obtain⟨w,e2,o2⟩:=h1 j x (by rw[getElem?_append_left hjl];exact hx);refine⟨w,ca (by omega) e2,o2.frame le λb hb o q=>?_⟩;have hba:b≠a:=λz=>hj (h3 j i a (z▸hb) haF);rw[hh b hba];exact q
 by_cases hd:c=.deep/\s.1=.deep
 ·obtain⟨rfl,hs⟩:=hd;obtain⟨sc,sd⟩:=s;cases(show sc=.deep from hs);have o1':Deep K (msk O H) H sd v (F Y.length):=o1;have ndT:(A'++F Y.length).Nodup:=List.nodup_append.mpr ⟨(List.nodup_cons.mp nd).2,h2 _,λx hx y hy z=>by
   subst z;exact hin (h3 i Y.length x (hA'F x hx) hy)⟩
  obtain⟨A2,l2,n2,sub2⟩:=hw (hdeep rfl) o1' ndT;have haA2:a ∉ A2:=λz=>by
   rcases sub2 a z with z|z
   ·exact haA' z
   ·exact han z
  have me:msk O (upd H a (.lst (f xs v)))=msk O H:=f9 haO;have le:Same (msk O H) (msk O (upd H a (.lst (f xs v)))):=by rw[me];exact Same.refl _
  have nc:newCat Cat.deep (Cat.deep,sd)=.deep:=by unfold newCat;rw[if_pos ⟨rfl,rfl⟩]
  rw[nc];refine⟨O,⟨λb o z=>?_,E.bdom,E.sub,λb hb=>?_,by simpa using len,λj=>if j=i then a::A2 else if j=Y.length then[]else F j,λj x q=>?_,λj=>?_,λj k b hj hk=>?_,λj b hj=>?_⟩,le⟩
  ·rw[au (aH z haB)];exact E.same b o z
  ·by_cases hba:b=a
   ·subst hba;exact .inl ⟨_,ar⟩
   ·rw[au hba];exact E.lis b hb
  ·rcases get_set_some q with⟨e,q'⟩|⟨e,q'⟩
   ·cases q';subst e;refine⟨.ref a,e0',?_⟩;simp only[if_true];refine⟨a,f xs v,A2,rfl,ar,rfl,DeepL.frame (NL.of le) _ _ A2 (λb hb o q=>?_) l2⟩;have hba:b≠a:=λz=>haA2 (by rw[<-z];exact hb);rw[au hba];exact q
   ·have hj:j≠Y.length:=by have:=(List.getElem?_eq_some_iff.mp q').1;omega
    obtain⟨w,e2,o2⟩:=oth le (λb hb=>au hb) j x e q';exact⟨w,e2,by simp only[if_neg e,if_neg hj];exact o2⟩
  ·dsimp only;split
   ·exact List.nodup_cons.mpr ⟨haA2,n2⟩
   ·split
    ·exact List.nodup_nil
    ·exact h2 _
  ·have key:∀j b,b∈(if j=i then a::A2 else if j=Y.length then[]else F j)->(j=i/\(b∈F i\/b∈F Y.length))\/(j≠i/\j≠Y.length/\b∈F j):=λj b hb=>by
    by_cases e:j=i
    ·rw[if_pos e]at hb;refine .inl ⟨e,?_⟩;rcases mem_cons.mp hb with rfl|hb
     ·exact .inl haF
     ·rcases sub2 b hb with z|z
      ·exact .inl (hA'F b z)
      ·exact .inr z
    ·rw[if_neg e]at hb;by_cases e2:j=Y.length
     ·rw[if_pos e2]at hb;cases hb
     ·rw[if_neg e2]at hb;exact .inr ⟨e,e2,hb⟩
   rcases key j b hj with⟨p1,p2⟩|⟨p1,p2,p3⟩<;>rcases key k b hk with⟨q1,q2⟩|⟨q1,q2,q3⟩
   ·omega
   ·rcases p2 with p2|p2
    ·exact absurd (h3 _ _ b p2 q3) (by omega)
    ·exact absurd (h3 _ _ b p2 q3) (by omega)
   ·rcases q2 with q2|q2
    ·exact absurd (h3 _ _ b p3 q2) (by omega)
    ·exact absurd (h3 _ _ b p3 q2) (by omega)
   ·exact h3 _ _ b p3 q3
  ·dsimp only at hj;split at hj
   ·rcases mem_cons.mp hj with rfl|hj
    ·exact⟨haO,haB⟩
    ·rcases sub2 b hj with z|z
     ·exact h4 i b (hA'F b z)
     ·exact h4 _ b z
   ·split at hj
    ·cases hj
    ·exact h4 _ b hj
 ·have nc:newCat c s=.top:=by unfold newCat;rw[if_neg hd]
  rw[nc];let O':Addr->Bool:=λb=>O b&&!decide (b∈A')&&!decide (b∈F Y.length);have hO'a:O' a=true:=by simp[O',haO,haA',han]
  have hsub:∀b,O' b=true->O b=true:=λb hb=>by simp[O']at hb;exact hb.1.1
  have hno:∀b∈A',O' b=false:=λb hb=>by simp[O',hb]
  have hno2:∀b∈F Y.length,O' b=false:=λb hb=>by simp[O',hb]
  have le0:Same (msk O H) (msk O' H):=λb o q=>by
   obtain⟨q1,q2⟩:=bv q;rw[aS (by simp[O',q1])];exact q2
  have me:msk O' (upd H a (.lst (f xs v)))=msk O' H:=f9 hO'a;have le:Same (msk O H) (msk O' (upd H a (.lst (f xs v)))):=by rw[me];exact le0
  have l3:IsL K (msk O' (upd H a (.lst (f xs v)))) (f ds s.2) (f xs v):=by
   rw[me];exact hi (htop O' le0 hno) (o1.is le0 hno2)
  refine⟨O',⟨λb o z=>?_,E.bdom,λb hb=>?_,λb hb=>?_,by simpa using len,λj=>if j=i then[a]else if j=Y.length then[]else F j,λj x q=>?_,λj=>?_,λj k b hj hk=>?_,λj b hj=>?_⟩,le⟩
  ·rw[au (aH z haB)];exact E.same b o z
  ·have h5:b ∉ A':=λz=>E.bdom b hb (h4 i b (hA'F b z)).2;have h6:b ∉ F Y.length:=λz=>E.bdom b hb (h4 _ b z).2;simp[O',E.sub b hb,h5,h6]
  ·by_cases hba:b=a
   ·subst hba;exact .inl ⟨_,ar⟩
   ·rw[au hba];exact E.lis b (hsub b hb)
  ·rcases get_set_some q with⟨e,q'⟩|⟨e,q'⟩
   ·cases q';subst e;refine⟨.ref a,e0',?_⟩;simp only[if_true];exact⟨a,f ds s.2,f xs v,rfl,rfl,rfl,ar,l3⟩
   ·have hj:j≠Y.length:=by have:=(List.getElem?_eq_some_iff.mp q').1;omega
    obtain⟨w,e2,o2⟩:=oth le (λb hb=>au hb) j x e q';exact⟨w,e2,by simp only[if_neg e,if_neg hj];exact o2⟩
  ·dsimp only;split
   ·simp
   ·split
    ·exact List.nodup_nil
    ·exact h2 _
  ·dsimp only at hj hk;split at hj
   ·split at hk
    ·omega
    ·split at hk
     ·cases hk
     ·rw[mem_singleton.mp hj]at hk;exact absurd (h3 _ _ a haF hk) (by omega)
   ·split at hj
    ·cases hj
    ·split at hk
     ·rw[mem_singleton.mp hk]at hj;exact absurd (h3 _ _ a hj haF) (by omega)
     ·split at hk
      ·cases hk
      ·exact h3 _ _ b hj hk
  ·dsimp only at hj;split at hj
   ·rw[mem_singleton.mp hj];exact⟨hO'a,haB⟩
   ·rename_i hji;split at hj
    ·cases hj
    ·rename_i hjn;refine⟨?_,(h4 _ b hj).2⟩;have h5:b ∉ A':=λz=>hji (h3 _ _ b hj (hA'F b z));have h6:b ∉ F Y.length:=λz=>hjn (h3 _ _ b hj z);simp[O',(h4 _ b hj).1,h5,h6]
end
def Je (R:Vv->Option D) (g:D->Ev->Option Ev):Ev->Option Out:=λY=>(R (shv Y)).bind λd=>(g d Y).bind λY'=>some (.nx Y')
def Jf (R:Vv->Option D) (g:D->Ev->Option Ev):Ev->Option Out:=λY=>(R (vw Y)).bind λd=>(g d (cH Y)).bind λY'=>some (.nx Y')
section
variable {X:Cx} {e tg:Expr} {pos:Pos}
theorem Ch (h:PP X e R) (hg:PGE X tg g) (hs:swapsWithSole [tg] e pos.line X.env=pure false) (hw:swappedStores [tg] e X.env=pure none) (h1:(assignEach [tg] X.env).map (·.2)=[assign tg X.env]):PR X (.Assign [tg] e pos) (Je R g):=λB O Y=>
 (tj (h O (shv Y)) (PG.ex λz:D=>hg B O Y z) hs hw h1).imp λEn σ H ⟨E,o,q,k⟩=>by
 obtain⟨d,q1,q2⟩:=bind_some q;obtain⟨Y',q3,q4⟩:=bind_some q2;cases q4;exact⟨E.viewS,d,q1,λv H' s i=>⟨d,E.grow s,i,Y',q3,λσ' E'=>k σ' H' O s.msk E'⟩⟩
theorem Ci (h:PP X e R) (hg:PGE X tg g) (hs:swapsWithSole [tg] e pos.line X.env=pure false) (hw:swappedStores [tg] e X.env=pure none) (h1:(assignEach [tg] X.env).map (·.2)=[assign tg X.env]):PR X (.Assign [tg] e pos) (Jf R g):=λB O Y=>
 (tj (h B.O (vw Y)) (PG.ex λz:D=>hg B B.O (cH Y) z) hs hw h1).imp λEn σ H ⟨E,o,q,k⟩=>by
 obtain⟨d,q1,q2⟩:=bind_some q;obtain⟨Y',q3,q4⟩:=bind_some q2;cases q4;obtain⟨E',le⟩:=E.frozen;exact⟨E.viewF,d,q1,λv H' s i=>⟨d,E'.grow s,i,Y',q3,λσ' E2=>k σ' H' B.O (le.trans s.msk) E2⟩⟩
end
def fP {α:Type} (l:List α) (x:α):List α:=l++[x]
theorem yT:lsW fP:=λh q nd=>⟨_,DeepL.snoc q h,nd,λb hb=>mem_append.mp hb⟩
theorem p8:lsI fP:=λh q=>h.app ⟨_,[],rfl,q,rfl⟩
theorem DeepL.setAt {K} (h:Deep K M H d v A1):∀ {ds:List D} {xs:List V} {A:List Addr} (j:Nat),DeepL K M H ds xs A->(A++A1).Nodup->
  ∃A',DeepL K M H (ds.set j d) (xs.set j v) A'/\A'.Nodup/\∀b∈A',b∈A\/b∈A1
 |[],_,_,_,l,nd=>by
  obtain⟨rfl,rfl⟩:=l;exact⟨[],⟨rfl,rfl⟩,List.nodup_nil,λ_ hb=>(nomatch hb)⟩
 |c::ds,_,_,0,⟨x,r,A0,A2,e,z,q,l⟩,nd=>by
  subst e;subst z;rw[List.append_assoc]at nd;obtain⟨n1,n2,n3⟩:=List.nodup_append.mp nd;obtain⟨m1,m2,m3⟩:=List.nodup_append.mp n2;refine⟨A1++A2,⟨v,r,A1,A2,rfl,rfl,h,l⟩,List.nodup_append.mpr ⟨m2,m1,λa ha b hb z=>m3 b hb a ha z.symm⟩,λb hb=>?_⟩;rcases mem_append.mp hb with hb|hb
  ·exact .inr hb
  ·exact .inl (mem_append_right _ hb)
 |c::ds,_,_,j+1,⟨x,r,A0,A2,e,z,q,l⟩,nd=>by
  subst e;subst z;rw[List.append_assoc]at nd;obtain⟨n1,n2,n3⟩:=List.nodup_append.mp nd;obtain⟨A',l',nd',sub⟩:=DeepL.setAt h j l n2;refine⟨A0++A',⟨x,r.set j v,A0,A',rfl,rfl,q,l'⟩,List.nodup_append.mpr ⟨n1,nd',λa ha b hb z=>?_⟩,λb hb=>?_⟩
  ·rcases sub b hb with hb|hb
   ·exact n3 a ha b (mem_append_left _ hb) z
   ·exact n3 a ha b (mem_append_right _ hb) z
  ·rcases mem_append.mp hb with hb|hb
   ·exact .inl (mem_append_left _ hb)
   ·rcases sub b hb with hb|hb
    ·exact .inl (mem_append_right _ hb)
    ·exact .inr hb
def FJ (j:Nat) {α:Type} (l:List α) (x:α):List α:=l.set j x
theorem Jg (j:Nat):lsW (FJ j):=λh q nd=>DeepL.setAt q j h nd
theorem i_set (j:Nat):lsI (FJ j):=λh q=>.of (mD q j h.paired)
section
variable {X:Cx} {e:Expr} {pos:Pos}
def iD (Y:Ev) (i:Nat):Option (Cat×List D):=(jt Y i).bind λs=>match s with
 |(.sh,_)=>none
 |(c,.lst ds)=>some (c,ds)
 |_=>none
theorem cO (h:iD Y i=some (c,ds)):Y[i]?=some (some (c,.lst ds))/\c≠.sh:=by
 obtain⟨⟨c',d⟩,e,q⟩:=bind_some h;have e':=cM e;cases c' with
 |sh=>cases q
 |pr=>cases d<;>first|(cases q;exact⟨e',by intro z;cases z⟩)|cases q
 |top=>cases d<;>first|(cases q;exact⟨e',by intro z;cases z⟩)|cases q
 |deep=>cases d<;>first|(cases q;exact⟨e',by intro z;cases z⟩)|cases q
def nW (i:Nat) (g:Ev->Option (Sl×Ev)):Ev->Option Out:=λY=>(iD Y i).bind λ_=>(g Y).bind λz=>(iD z.2 i).bind λw=>if w.2.length+1<big then some (.nx (z.2.set i (some (newCat w.1 z.1,.lst (w.2++[z.1.2])))))else none
theorem j5 (i:Nat) (h:PEv X e g) (hN:X.N[i]?=some x) (hv:Vis X.env.scope x) (hd:(x==("__debug__":Str))=false) (hcd:(x==("__classdict__":Str))=false) (hst:starEach [e] X.env=(false,eval e X.env)::starEach [] X.env) (hline:(apos.endLine==cpos.line)=true):PR X (.Expr (.Call (.Attribute (.Name x px) "append" apos) [e] [] cpos) pos) (nW i g):=λB O Y=>
 (dj (jj PySem.F.plainAttrs_list PySem.F.slot_list_append PySem.F.type_list_append ig (cF hN hv hd hcd) (bx (h B O Y).1 pa_nil hst) rfl (by rw[hst];rfl) hline hst rfl)).imp λEn σ H ⟨E,o,q,k⟩=>by
 obtain⟨⟨c0,ds0⟩,q1,q⟩:=bind_some q;obtain⟨⟨s,Y'⟩,q2,q⟩:=bind_some q;obtain⟨⟨c,ds⟩,q3,q⟩:=bind_some q;obtain⟨hz,q⟩:=ax q;subst q;obtain⟨h0,hc0⟩:=cO q1;obtain⟨h1,hc1⟩:=cO q3;obtain⟨a,xs0,e1,r3,_⟩:=E.ownAt h0 hc0;refine⟨.ref a,e1,.inl ⟨rfl,_,SqL.of r3⟩,E,s,Y',q2,λv H1 O1 s1 E1=>?_⟩;obtain⟨a',xs,e2,r4,hl,O2,E2,s2⟩:=E1.change fP yT p8 h1 hc1;rw[e1]at e2;cases e2;exact⟨a,xs,v,rfl,rfl,r4,by rw[gb,<-hl];exact Nat.lt_of_succ_lt hz,k σ _ O2 (s1.trans s2) E2⟩
def j6 (i:Nat) (fk:Vv->Option D) (g:Ev->Option (Sl×Ev)):Ev->Option Out:=λY=>(g Y).bind λz=>(iD z.2 i).bind λw=>(fk (vw z.2)).bind λy=>match y with
 |.int k=>(ixN w.2.length k).bind λj=>some (.nx (z.2.set i (some (newCat w.1 z.1,.lst (w.2.set j z.1.2)))))
 |_=>none
theorem FK (i:Nat) (h:PEv X e g) (hk:PP X ik fk) (hN:X.N[i]?=some x) (hv:Vis X.env.scope x) (hd:(x==("__debug__":Str))=false) (hcd:(x==("__classdict__":Str))=false) (ha:∀v,assign (.Subscript (.Name x px) ik spos) X.env v=(do
   let ov<-holding [v] (eval (.Name x px) X.env)
   let iv<-holding [v,ov] (eval ik X.env)
   standAt spos
   holding [v,ov,iv] (setItem ov iv v)
   release [v,ov,iv] [])) (hs:swapsWithSole [.Subscript (.Name x px) ik spos] e pos.line X.env=pure false) (hw:swappedStores [.Subscript (.Name x px) ik spos] e X.env=pure none) (h1:(assignEach [.Subscript (.Name x px) ik spos] X.env).map (·.2)=[assign (.Subscript (.Name x px) ik spos) X.env]):PR X (.Assign [.Subscript (.Name x px) ik spos] e pos) (j6 i fk g):=λB O Y=>
 (tj (h B O Y).1 (Ew (cF hN hv hd hcd) (PE.ex λz:Vv=>hk noO z) yd ha) hs hw h1).imp λEn σ H ⟨E,o,q,k⟩=>by
 obtain⟨⟨s,Y'⟩,q1,q⟩:=bind_some q
 obtain⟨⟨c,ds⟩,q2,q⟩:=bind_some q
 obtain⟨y,q3,q⟩:=bind_some q
 obtain⟨h0,hc0⟩:=cO q2
 refine⟨E,s,Y',q1,λv H1 O1 s1 E1=>?_⟩
 obtain⟨a,xs0,e1,_⟩:=E1.drop.ownAt h0 hc0
 refine⟨.ref a,e1,vw Y',E1.drop.view,y,q3,λyv H2 s2 iy=>?_⟩
 cases y with
 |int n=>
  obtain⟨j,j1,q⟩:=bind_some q;cases q;cases(iy);obtain⟨a',xs,e2,r4,hl,O2,E2,s3⟩:=(E1.grow s2).change (FJ j) (Jg j) (i_set j) h0 hc0;rw[e1]at e2;cases e2;exact⟨a,xs,n,j,rfl,rfl,r4,by rw[<-hl];exact j1,k σ _ O2 (s1.trans (s2.msk.trans s3)) E2⟩
 |_=>cases q
end
def spC (K:Frag) (f:List D->Option Sl):Sp:=λvs H Q _=>∃O ds s,(∀b,O b=true->Hid (H b))/\IsL K (msk O H) ds vs/\f ds=some s/\∀v H',RetOk K ⟨H,O⟩ H' s v->Q v H'
def aL (n:Nat) (ds:List D):Ev:=ds.map (λd=>some (.sh,d))++List.replicate (n-ds.length) none
def Jh (o:Option Out):Option Sl:=o.bind λo=>match o with
 |.rt d=>some d
 |.nx _=>some (.deep,.non)
 |_=>none
def aX (n m:Nat) (F:Ev->Option Out) (ds:List D):Option Sl:=if ds.length=n then Jh (F (aL m ds))else none
theorem oT (h:aX n m F ds=some d):ds.length=n/\Jh (F (aL m ds))=some d:=by
 unfold aX at h;split at h
 ·exact⟨by assumption,h⟩
 ·cases h
section
variable {P:Program} {w:World} {K:Frag} {mg:Str->Option Value} {base:Heap}
theorem t5 {i:Nat} (q:(aL n ds)[i]?=some (some s)):∃d,ds[i]?=some d/\s=(.sh,d):=by
 unfold aL at q;by_cases hi:i<ds.length
 ·rw[getElem?_append_left (by simpa using hi),getElem?_map]at q;cases e:ds[i]? with
  |none=>rw[e]at q;cases q
  |some d=>rw[e]at q;cases q;exact⟨d,rfl,rfl⟩
 ·rw[getElem?_append_right (by simpa using hi),List.getElem?_replicate]at q;split at q<;>cases q
theorem rL {O:Addr->Bool} {H:Hp} {N:List Str} {vs:List V} {ds:List D} (hd:∀b,O b=true->Hid (H b)) (il:IsL K (msk O H) ds vs):EnvOk K ⟨H,O⟩ O (gz N vs) H (aL N.length ds) where
 same:=Same.refl _
 bdom:=λb h=>(hd b h).ne
 sub:=λ_ h=>h
 lis:=hd
 len:=by
  unfold gz aL;rw[length_append,length_append,length_map,length_map,List.length_replicate,List.length_replicate,il.len]
 fp:=by
  refine⟨λ_=>[],λi s q=>?_,λ_=>List.nodup_nil,λ_ _ _ h=>(nomatch h),λ_ _ h=>(nomatch h)⟩;obtain⟨d,e,rfl⟩:=t5 q;obtain⟨x,hx,ix⟩:=il.get e;refine⟨x,?_,rfl,ix⟩;have hi:=(List.getElem?_eq_some_iff.mp hx).1;unfold gz;rw[getElem?_append_left (by rw[length_map];exact hi),getElem?_map,hx];rfl
theorem FL {st} (Fn:Fun K x qual st f fd) (S:FnScope N ps (aE st)) (hb:∀ (cdv:Value) (A:Around) (outer:List Env) (s:Shared) (H:Hp) (E:XK),Room k (A.deeper (envOfC qual (aE st) s.heap.objs.size f cdv))->PRs (pN CX0 P w K mg base N qual (aE st) f cdv A outer s H E).nox (bj st) F):
  FnOk P w K mg base CX0 (k+1) f fd ps (spC K (aX ps.length N.length F)):=by
 refine Fn.ok S (λvs H Q E ⟨O,ds,d,_,il,e,_⟩=>by rw[<-il.len];exact(oT e).1) (λcdv A outer s H vs Q E hr ⟨O,ds,d,hd,il,e,kk⟩=>?_)
 refine⟨_,hb cdv A outer s H E hr ⟨H,O⟩ O _,rL hd il,?_⟩
 obtain⟨o,e1,e2⟩:=bind_some (oT e).2
 refine⟨o,e1,?_⟩
 cases o with
 |rt d'=>cases e2;exact kk
 |nx Y=>cases e2;exactλσ' H' O' s' E'=>kk .non H' ⟨O',[],E'.same,E'.sub,E'.lis,List.nodup_nil,λ_ h=>(nomatch h),rfl,rfl⟩
 |bk Y=>cases e2
 |ct Y=>cases e2
structure Df (P:Program) (w:World) (K:Frag) (mg:Str->Option Value) (base:Heap) (x:Str) (k:Nat) (f:List D->Option Sl):Prop where
 ex:∃ (a:Addr) (fd:FuncData) (ps:List Str),mg x=some (.ref a)/\PySem.W.keepIn K (.ref a)=true/\Binds K fd ps []/\FnOk P w K mg base CX0 k a fd ps (spC K f)
theorem RetOk.is (hd:∀b,O b=true->Hid (H b)) (r:RetOk K ⟨H,O⟩ H' s v):Same H H'/\Is K (msk O H') s.2 v:=by
 obtain⟨O',A,h1,h2,h3,h4,h5,h6⟩:=r;refine⟨h1,h6.is (λb o q=>?_) λa ha=>?_⟩
 ·obtain⟨q1,q2⟩:=bv q;rw[aS];exact q2;cases z:O b with
  |false=>rfl
  |true=>rw[h2 b z]at q1;cases q1
 ·cases z:O a with
  |false=>rfl
  |true=>exact absurd (h5 a ha).2 (hd a z).ne
end
section
variable {X:Cx} {x:Str} {p pos apos:Pos} {e o:Expr} {es:List Expr} {k:Nat} {f:List D->Option Sl} {fa:Vv->Option (List D)}
def cu (o:Option Sl):Option D:=o.bind λs=>some s.2
def iI (o:Option Sl):Option D:=o.bind λs=>match s with
 |(.deep,d)=>some d
 |_=>none
theorem Cj (F:Df X.prog X.w X.K X.mg X.base x k f) (hr:Room k X.A) (hg:Gl X x) (ha:PX X (e::es) fa) (hdb:(x==("__debug__":Str))=false) (he:starEach (e::es) X.env=(false,eval e X.env)::starEach es X.env) (hpl:(backTo pos (starEach es X.env)).any (·.1)=false):
  PP X (.Call (.Name x p) (e::es) [] pos) (λY=>(fa Y).bind λds=>cu (f ds)):=λO Y=>by
 obtain⟨a,fd,ps,hm,hk,hb,G⟩:=F.ex
 refine(pM G hr hg hm hk hb .nil oM (ha O Y) hdb he hpl).imp λσ H Q ⟨E,d,q,kk⟩=>?_
 obtain⟨ds,q1,q2⟩:=bind_some q
 obtain⟨s,q3,q4⟩:=bind_some q2
 cases q4
 refine⟨E,ds,q1,λvs H1 s1 il=>?_⟩
 show spC X.K f (vs++[]) H1 Q E0
 rw[List.append_nil]
 refine⟨O,ds,s,(E.grow s1).lis,il,q3,λv H2 r=>?_⟩
 obtain⟨s2,iv⟩:=r.is (E.grow s1).lis
 exact kk v H2 (s1.trans s2) iv
theorem Ck (F:Df X.prog X.w X.K X.mg X.base x k f) (hr:Room k X.A) (hg:Gl X x) (ha:PX X (e::es) fa) (hdb:(x==("__debug__":Str))=false) (he:starEach (e::es) X.env=(false,eval e X.env)::starEach es X.env) (hpl:(backTo pos (starEach es X.env)).any (·.1)=false):
  PFr X (.Call (.Name x p) (e::es) [] pos) (λY=>(fa Y).bind λds=>iI (f ds)):=λY=>by
 obtain⟨a,fd,ps,hm,hk,hb,G⟩:=F.ex
 refine PE.pu ((pM G hr hg hm hk hb .nil oM (ha noO Y) hdb he hpl).imp λσ H Q ⟨E,d,q,kk⟩=>?_) rfl
 obtain⟨ds,q1,q2⟩:=bind_some q
 obtain⟨⟨c,d'⟩,q3,q4⟩:=bind_some q2
 cases c with
 |sh=>cases q4
 |top=>cases q4
 |pr=>cases q4
 |deep=>
  cases q4;refine⟨E,ds,q1,λvs H1 s1 il=>?_⟩;show spC X.K f (vs++[]) H1 Q E0;rw[List.append_nil];refine⟨noO,ds,_,(E.grow s1).lis,il,q3,λv H2 r=>?_⟩;obtain⟨O',A,h1,h2,h3,h4,h5,h6⟩:=r;exact kk v H2 A (s1.trans h1) (Deep.frame (NL.of msk_le) _ v A (λ_ _ _ h=>h) h6) h4 λa ha=>s1.free (h5 a ha).2
end
def p9:List Str->Str->Option Nat
 |[],_=>none
 |y::r,x=>if y=x then some 0 else(p9 r x).map (·+1)
theorem fQ:∀ {l:List Str} {x:Str} {i:Nat},p9 l x=some i->l[i]?=some x
 |[],_,_,h=>by cases h
 |y::r,x,i,h=>by
  unfold p9 at h;split at h
  ·rename_i e;cases h;simp[e]
  ·cases e:p9 r x with
   |none=>rw[e]at h;cases h
   |some j=>
    rw[e]at h;cases h;have:=fQ e;simpa using this
structure Glob where
 fn:Str->Option (Nat×(List D->Option Sl))
 cn:Str->Option D
 no:Str->Bool
 fl:Str->Str->Bool
structure SE where
 N:List Str
 nm:List (Str×NameKind)
 k:Nat
 G:Glob
structure GOk (P:Program) (w:World) (K:Frag) (mg:Str->Option Value) (base:Heap) (G:Glob):Prop where
 fn:∀x k f,G.fn x=some (k,f)->Df P w K mg base x k f
 cn:∀x d,G.cn x=some d->Cn K mg x d
 no:∀x,G.no x=true->mg x=none
 fl:∀C m Ca,G.fl C m=true->nsIn K mainGlobals C=some (some (.ref Ca))->Cls K Ca/\NoAttr K Ca m
structure SOk (X:Cx) (S:SE):Prop where
 g:GOk X.prog X.w X.K X.mg X.base S.G
 N:X.N=S.N
 nd:S.N.Nodup
 calm:X.calm=true
 room:Room S.k X.A
 loc:∀x,S.nm.lookup x=some .local->X.env.scope.names.lookup x=some .local
 cel:∀x,S.nm.lookup x=some .cell->X.env.scope.names.lookup x=some .cell
 fre:∀x,S.nm.lookup x=some .free->X.env.scope.names.lookup x=some .cell\/X.env.scope.names.lookup x=some .free
 glo:∀x,S.nm.lookup x=some .globalImplicit->X.env.kindOf x=some .globalImplicit
def fz (x:Str):Bool:=!(x==("__debug__":Str))&&!(x==("__classdict__":Str))&&!decide (x=("__name__":Str))
def vt:Option NameKind->Bool
 |some .local=>true
 |some .cell=>true
 |some .free=>true
 |_=>false
def slot (S:SE) (x:Str):Option Nat:=if fz x&&vt (S.nm.lookup x)then p9 S.N x else none
def qg (x:Str):Option String:=if x=("int":Str)then some "int"else if x=("bool":Str)then some "bool"else if x=("str":Str)then some "str"else if x=("list":Str)then some "list"else if x=("tuple":Str)then some "tuple"else if x=("dict":Str)then some "dict"else none
theorem t6 (h:qg x=some n):bootBuiltins x=some (.type n):=by
 unfold qg at h;split at h
 ·rename_i e;cases h;subst e;decide+kernel
 ·split at h
  ·rename_i e;cases h;subst e;decide+kernel
  ·split at h
   ·rename_i e;cases h;subst e;decide+kernel
   ·split at h
    ·rename_i e;cases h;subst e;decide+kernel
    ·split at h
     ·rename_i e;cases h;subst e;decide+kernel
     ·split at h
      ·rename_i e;cases h;subst e;decide+kernel
      ·cases h
section
variable {X:Cx} {S:SE} {pos:Pos}
theorem cP (h:fz x=true):(x==("__debug__":Str))=false/\(x==("__classdict__":Str))=false/\x≠("__name__":Str):=by
 unfold fz at h;rw[and_eq_true,and_eq_true]at h;refine⟨by simpa using h.1.1,by simpa using h.1.2,?_⟩;have:=h.2;simp at this;exact this
end
section
variable {X:Cx} {e o:Expr} {es:List Expr} {p pos apos:Pos}
def iE (fl:Str->Str->Bool) (m:Str):D->Option D
 |.obj C ns ds=>if fl C m then(ns.zip ds).lookup m else none
 |_=>none
theorem mI {K}:∀ {fs:List (Str×V)} {ds:List D},IsL K H ds (fs.map (·.2))->((fs.map (·.1)).zip ds).lookup f=some d->∃v,fs.lookup f=some v/\Is K H d v
 |[],ds,_,e=>by simp at e
 |(n,v)::fs,[],l,e=>by simp at e
 |(n,v)::fs,d'::ds,⟨x,r,z,h,l⟩,e=>by
  have z':v::fs.map (·.2)=x::r:=z;cases z';simp only[List.map_cons,List.zip_cons_cons,List.lookup_cons]at e⊢;cases hf:f==n with
  |true=>rw[hf]at e;cases e;exact⟨v,rfl,h⟩
  |false=>rw[hf]at e;exact mI l e
theorem pp_fld (ho:PP X o fo) (hfl:∀C Ca,fl C m=true->nsIn X.K mainGlobals C=some (some (.ref Ca))->Cls X.K Ca/\NoAttr X.K Ca m) (hbase:attributeBase o m X.env (eval o X.env)=eval o X.env):PP X (.Attribute o m pos) (λY=>(fo Y).bind (iE fl m)):=λO Y=>by
 refine(EI (ho O Y) hbase).imp λσ H Q ⟨E,d,q,k⟩=>?_;obtain⟨dv,q1,q⟩:=bind_some q;refine⟨E,dv,q1,λv H1 s1 iv=>?_⟩;cases dv with
 |obj C ns ds=>
  have q':(if fl C m=true then(ns.zip ds).lookup m else none)=some d:=q;split at q'
  ·rename_i hC;obtain⟨a,Ca,dx,fs,rfl,h0,h1,h2,h3⟩:=iv;subst h2;obtain⟨v',e1,e2⟩:=mI h3 q';obtain⟨c,na⟩:=hfl C Ca hC h0;exact⟨a,Ca,dx,fs,v',rfl,msk_le _ _ h1,c,na,e1,k v' H1 s1 e2⟩
  ·cases q'
 |_=>cases q
structure Mf (P:Program) (w:World) (K:Frag) (mg:Str->Option Value) (base:Heap) (C m:Str) (k:Nat) (f:List D->Option Sl):Prop where
 ex:∃ (Ca fa:Addr) (fd:FuncData) (ps:List Str),nsIn K mainGlobals C=some (some (.ref Ca))/\Cls K Ca/\Meth K Ca m fa/\Binds K fd ps []/\FnOk P w K mg base CX0 k fa fd ps (spC K f)
abbrev MT:=Str->Option (Nat×(List D->Option Sl))
def oU (mt:MT) (k0:Nat) (m:Str) (d:D) (as:List D):Option Sl:=match d with
 |.obj C ns _=>(mt C).bind λz=>if z.1<=k0/\m ∉ ns then z.2 (d::as)else none
 |_=>none
theorem kZ {α β:Type} [BEq α] [LawfulBEq α] {m}:∀ {l:List (α×β)},m ∉ l.map (·.1)->l.lookup m=none
 |[],_=>rfl
 |(n,v)::l,h=>by
  have h1:(m==n)=false:=by
   simp at h⊢;exact h.1
  rw[List.lookup_cons,h1];exact kZ (λz=>h (by simp at z⊢;exact .inr z))
theorem mJ {mt} (h:oU mt k0 m d as=some s):∃C ns ds k f,d=.obj C ns ds/\mt C=some (k,f)/\k<=k0/\m ∉ ns/\f (d::as)=some s:=by
 cases d with
 |obj C ns ds=>
  obtain⟨⟨k,f⟩,e,q⟩:=bind_some (h);split at q
  ·rename_i c;exact⟨C,ns,ds,k,f,rfl,e,c.1,c.2,q⟩
  ·cases q
 |_=>cases h
structure Pick (X:Cx) (mt:MT) (k0:Nat) (m:Str) where
 C:Str
 Ca:Addr
 fa:Addr
 fd:FuncData
 ps:List Str
 k:Nat
 f:List D->Option Sl
 h:mt C=some (k,f)/\k<=k0/\nsIn X.K mainGlobals C=some (some (.ref Ca))/\Cls X.K Ca/\Meth X.K Ca m fa/\Binds X.K fd ps []/\FnOk X.prog X.w X.K X.mg X.base CX0 k fa fd ps (spC X.K f)
theorem vv {mt} (hmt:∀C k f,mt C=some (k,f)->Mf X.prog X.w X.K X.mg X.base C m k f) (h:mt C=some (k,f)) (hk:k<=k0):∃z:Pick X mt k0 m,z.C=C/\z.k=k/\z.f=f:=by
 obtain⟨Ca,fa,fd,ps,h1,h2,h3,h4,h5⟩:=(hmt C k f h).ex;exact⟨⟨C,Ca,fa,fd,ps,k,f,h,hk,h1,h2,h3,h4,h5⟩,rfl,rfl,rfl⟩
def mK (fo:Vv->Option D) (fa:Vv->Option (List D)) (mt:MT) (k0:Nat) (m:Str):Vv->Option Sl:=λY=>(fo Y).bind λd=>(fa Y).bind λas=>oU mt k0 m d as
theorem yU {K} (h:Is K H (.obj C ns ds) v) (hc:nsIn K mainGlobals C=some (some (.ref Ca))) (hn:m ∉ ns):∃a dx fs,v=.ref a/\H a=some (.ins Ca dx fs)/\fs.lookup m=none:=by
 obtain⟨a,Cb,dx,fs,rfl,h0,h1,h2,h3⟩:=h;rw[hc]at h0;cases h0;subst h2;exact⟨a,dx,fs,rfl,h1,kZ hn⟩
theorem oV (hfew:methodCallForm args.length (backTo pos (starEach args env)) (backToKw pos (keywordEach [] env)) = true) (hline:(apos.endLine == pos.line) = true) :
  eval (.Call (.Attribute (.Name x px) m apos) args [] pos) env = (do
   let ov <- eval (.Name x px) env
   standAt apos.atName
   let (f,first) <- holding [ov] (getMethod ov m (do return (<- importBound (.Name x px) env).getD true))
   callWith pos f first (backTo pos (starEach args env)) (backToKw pos (keywordEach [] env))):=by
 show (do
  let ov <- eval _ env
  standAt apos.atName
  methodCall _ m apos pos env ov (args.length + 0) (backTo pos _) (backToKw pos _)) = _
 have hm:∀ ov,methodCall (.Name x px) m apos pos env ov (args.length + 0) (backTo pos (starEach args env)) (backToKw pos (keywordEach [] env)) = (do
   let (f,first) <- holding [ov] (getMethod ov m (do return (<- importBound (.Name x px) env).getD true))
   callWith pos f first (backTo pos (starEach args env)) (backToKw pos (keywordEach [] env))):=fun ov=>by
  unfold methodCall
  rw [Nat.add_zero,hfew]
  simp only [calleeOf,methodCallPos,hline,Bool.not_true,Bool.false_or,if_true,pure_bind]
 simp only [hm]
theorem yV {mt} (ho:PP X (.Name x px) fo) (ha:PX X (e::es) fa) (hmt:∀C k f,mt C=some (k,f)->Mf X.prog X.w X.K X.mg X.base C m k f) (hr:Room k0 X.A) (hst:starEach (e::es) X.env=(false,eval e X.env)::starEach es X.env) (hpl:(backTo pos (starEach es X.env)).any (·.1)=false) (hfew:methodCallForm (e::es).length (backTo pos (starEach (e::es) X.env)) (backToKw pos (keywordEach [] X.env))=true) (hline:(apos.endLine==pos.line)=true) (O:Addr->Bool) (Y:Vv):
  PE X (.Call (.Attribute (.Name x px) m apos) (e::es) [] pos) (λσ H Q=>VE X.K O σ H Y/\∃s,mK fo fa mt k0 m Y=some s/\∀v H1 H',Same H H1->RetOk X.K ⟨H1,O⟩ H' s v->Q v H'):=by
 refine(PE.ex λz:Pick X mt k0 m=>BC (pos:=pos) (apos:=apos) (ho O Y) z.h.2.2.2.1 z.h.2.2.2.2.1 z.h.2.2.2.2.2.2 (hr.mono z.h.2.1) z.h.2.2.2.2.2.1 .nil oM (ha O Y) hst hpl (oV hfew hline)).imp λσ H Q ⟨E,s,q,kk⟩=>?_
 obtain⟨d,q1,q⟩:=bind_some q
 obtain⟨as,q2,q⟩:=bind_some q
 obtain⟨C,ns,ds,k,f,hd,hm,hk,hn,hf⟩:=mJ q
 obtain⟨z,rfl,rfl,rfl⟩:=vv hmt hm hk
 refine⟨z,E,d,q1,λv H1 s1 iv=>?_⟩
 subst hd
 obtain⟨a,dx,fs,ev,ea,el⟩:=yU iv z.h.2.2.1 hn
 refine⟨a,dx,fs,ev,msk_le _ _ ea,el,E.grow s1,as,q2,λvs H2 s2 il=>?_⟩
 show spC X.K z.f (v::(vs++[])) H2 Q E0
 rw[List.append_nil]
 exact⟨O,_::as,s,(E.grow (s1.trans s2)).lis,⟨v,vs,rfl,Is.mono s2.msk _ _ iv,il⟩,hf,λw' H3 r=>kk w' H2 H3 (s1.trans s2) r⟩
theorem xc {mt} (ho:PP X (.Name x px) fo) (hmt:∀C k f,mt C=some (k,f)->Mf X.prog X.w X.K X.mg X.base C m k f) (hr:Room k0 X.A) (hline:(apos.endLine==pos.line)=true) (O:Addr->Bool) (Y:Vv):
  PE X (.Call (.Attribute (.Name x px) m apos) [] [] pos) (λσ H Q=>VE X.K O σ H Y/\∃s,mK fo (λ_=>some []) mt k0 m Y=some s/\∀v H1 H',Same H H1->RetOk X.K ⟨H1,O⟩ H' s v->Q v H'):=by
 refine(PE.ex λz:Pick X mt k0 m=>x8 (ho O Y) z.h.2.2.2.1 z.h.2.2.2.2.1 z.h.2.2.2.2.2.2 (hr.mono z.h.2.1) z.h.2.2.2.2.2.1 .nil oM (oV rfl hline)).imp λσ H Q ⟨E,s,q,kk⟩=>?_
 obtain⟨d,q1,q⟩:=bind_some q
 obtain⟨C,ns,ds,k,f,hd,hm,hk,hn,hf⟩:=mJ (q)
 obtain⟨z,rfl,rfl,rfl⟩:=vv hmt hm hk
 refine⟨z,E,d,q1,λv H1 s1 iv=>?_⟩
 subst hd
 obtain⟨a,dx,fs,ev,ea,el⟩:=yU iv z.h.2.2.1 hn
 refine⟨a,dx,fs,ev,msk_le _ _ ea,el,?_⟩
 exact⟨O,[_],s,(E.grow s1).lis,⟨v,[],rfl,iv,rfl⟩,hf,λw' H3 r=>kk w' H1 H3 s1 r⟩
theorem yW {f:Vv->Option Sl} (h:PE X e (λσ H Q=>VE X.K O σ H Y/\∃s,f Y=some s/\∀v H1 H',Same H H1->RetOk X.K ⟨H1,O⟩ H' s v->Q v H')):PE X e (tP X.K O Y (cu (f Y))):=h.imp λσ H Q ⟨E,d,q,k⟩=>by
 obtain⟨s,q1,q2⟩:=bind_some q;cases q2;refine⟨E,s,q1,λv H1 H' s1 r=>?_⟩;obtain⟨s2,iv⟩:=r.is (E.grow s1).lis;exact k v H' (s1.trans s2) iv
def spI (K:Frag) (Ca:Addr) (g:List D->Option (List (Str×D))):Sp:=λvs H Q _=>∃x vs' dx O ds fd,vs=.ref x::vs'/\H x=some (.ins Ca dx [])/\(∀b,O b=true->Hid (H b))/\O x=true/\IsL K (msk O H) ds vs'/\g ds=some fd/\
 ∀H' fs,(∀b o,b≠x->H b=some o->H' b=some o)->H' x=some (.ins Ca dx fs)->fs.map (·.1)=fd.map (·.1)->IsL K (msk O H') (fd.map (·.2)) (fs.map (·.2))->Q .non H'
structure Mkf (P:Program) (w:World) (K:Frag) (mg:Str->Option Value) (base:Heap) (C:Str) (k:Nat) (g:List D->Option (List (Str×D))):Prop where
 ex:∃ (Ca fa:Addr) (fd:FuncData) (ps:List Str),mg C=some (.ref Ca)/\nsIn K mainGlobals C=some (some (.ref Ca))/\Mk K Ca fa/\Binds K fd ps []/\FnOk P w K mg base CX0 k fa fd ps (spI K Ca g)
def Cm (C:Str) (o:Option (List (Str×D))):Option D:=o.bind λfd=>some (.obj C (fd.map (·.1)) (fd.map (·.2)))
theorem Co (F:Mkf X.prog X.w X.K X.mg X.base C k g) (hr:Room (k+1) X.A) (hg:Gl X C) (ha:PX X (e::es) fa) (hdb:(C==("__debug__":Str))=false) (he:starEach (e::es) X.env=(false,eval e X.env)::starEach es X.env) (hpl:(backTo pos (starEach es X.env)).any (·.1)=false):
  PP X (.Call (.Name C p) (e::es) [] pos) (λY=>(fa Y).bind λds=>Cm C (g ds)):=λO Y=>by
 obtain⟨Ca,f,fd,ps,hm,hns,M,hb,G⟩:=F.ex
 refine(BD M G hr hg hm hb .nil oM (ha O Y) hdb he hpl).imp λσ H Q ⟨E,d,q,kk⟩=>?_
 obtain⟨ds,q1,q2⟩:=bind_some q
 obtain⟨fl,q3,q4⟩:=bind_some q2
 cases q4
 refine⟨E,ds,q1,λvs H1 s1 il x dx hx hdx hne=>?_⟩
 have E1:=E.grow s1
 have hOx:=E1.fresh hx
 have s2:Same H1 (upd (upd H1 dx (.own x)) x (.ins Ca dx [])):=λb o q=>by
  rw[au (aH q hx),au (aH q hdx)];exact q
 have le:Same (msk O H1) (msk (λb=>O b||decide (b=x)) (upd (upd H1 dx _) x _)):=λb o q=>by
  obtain⟨q1,q2⟩:=bv q;have hb:=aH q2 hx;rw[aS (by simp[q1,hb])];exact s2 _ _ q2
 rw[List.append_nil]
 refine⟨x,vs,dx,λb=>O b||decide (b=x),ds,fl,rfl,ar,λb hb=>?_,by simp,IsL.mono le _ _ il,q3,λH' fs keep hx' hns' hl=>⟨rfl,?_⟩⟩
 ·rcases(Bool.or_eq_true _ _).mp hb with hb|hb
  ·exact(E1.lis b hb).same s2
  ·rw[of_decide_eq_true hb,ar];exact .inr (.inl ⟨_,_,_,rfl⟩)
 ·have s3:Same H1 H':=λb o q=>keep b o (aH q hx) (s2 _ _ q);refine kk _ H' (s1.trans s3) ⟨x,Ca,dx,fs,rfl,hns,by rw[aS hOx];exact hx',hns',IsL.mono (λb o q=>?_) _ _ hl⟩;obtain⟨q1,q2⟩:=bv q;have:O b=false:=by
   cases z:O b with
   |false=>rfl
   |true=>simp[z]at q1
  rw[aS this];exact q2
end
section
variable {K:Frag} {B:Bs} {O:Addr->Bool} {σ:St} {H:Hp} {Y:Ev}
theorem EnvOk.thaw (E:EnvOk K B O (σ++[some v]) H (Y++[some s])):∃O',EnvOk K B O' σ H Y/\Same (msk O H) (msk O' H)/\Is K (msk O' H) s.2 v:=by
 obtain⟨F,h1,h2,h3,h4⟩:=E.fp;have len:σ.length=Y.length:=by have:=E.len;simp at this;exact this
 obtain⟨v',e1,o1⟩:=h1 Y.length s (getElem?_last _ _);rw[<-len,getElem?_last]at e1;cases e1;let O':Addr->Bool:=λb=>O b&&!decide (b∈F Y.length);have le:Same (msk O H) (msk O' H):=λb o q=>by
  obtain⟨q1,q2⟩:=bv q;rw[aS (by simp[O',q1])];exact q2
 refine⟨O',⟨E.same,E.bdom,λb hb=>?_,λb hb=>E.lis b (by simp[O']at hb;exact hb.1),len,λj=>if j=Y.length then[]else F j,λj x q=>?_,λj=>?_,λj k a hj hk=>?_,λj a hj=>?_⟩,le,o1.is le λa ha=>by simp[O',ha]⟩
 ·have h6:b ∉ F Y.length:=λz=>E.bdom b hb (h4 _ b z).2;simp[O',E.sub b hb,h6]
 ·have hjl:=(List.getElem?_eq_some_iff.mp q).1;have hj:j≠Y.length:=by omega
  obtain⟨w,e2,o2⟩:=h1 j x (by rw[getElem?_append_left hjl];exact q);exact⟨w,ca (by omega) e2,by simp only[if_neg hj];exact o2.frame le λ_ _ _ h=>h⟩
 ·dsimp only;split
  ·exact List.nodup_nil
  ·exact h2 _
 ·dsimp only at hj hk;split at hj
  ·cases hj
  ·split at hk
   ·cases hk
   ·exact h3 _ _ a hj hk
 ·dsimp only at hj;split at hj
  ·cases hj
  ·rename_i hjn;have h6:a ∉ F Y.length:=λz=>hjn (h3 _ _ a hj z);exact⟨by simp[O',(h4 _ a hj).1,h6],(h4 _ a hj).2⟩
theorem EnvOk.store (E:EnvOk K B O σ H Y) (hx:B.O x=true) (hb:B.H x=some (.ins Ca dx fs)):EnvOk K ⟨upd B.H x (.ins Ca dx fs'),B.O⟩ O σ (upd H x (.ins Ca dx fs')) Y/\msk O (upd H x (.ins Ca dx fs'))=msk O H:=by
 have me:msk O (upd H x (.ins Ca dx fs'))=msk O H:=f9 (E.sub x hx);obtain⟨F,h1,h2,h3,h4⟩:=E.fp;have no:∀i,x ∉ F i:=λi z=>by have:=(h4 i x z).2;rw[hb]at this;cases this
 refine⟨⟨λb o q=>?_,λb q=>?_,E.sub,λb q=>?_,E.len,F,λi s q=>?_,h2,h3,λi a ha=>⟨(h4 i a ha).1,?_⟩⟩,me⟩
 ·have q':upd B.H x (.ins Ca dx fs') b=some o:=q;by_cases h:b=x
  ·subst h;rw[ar]at q'⊢;exact q'
  ·rw[au h]at q'⊢;exact E.same b o q'
 ·by_cases h:b=x
  ·subst h;show upd B.H b _ b≠none;rw[ar];simp
  ·show upd B.H x _ b≠none;rw[au h];exact E.bdom b q
 ·by_cases h:b=x
  ·subst h;rw[ar];exact .inr (.inl ⟨_,_,_,rfl⟩)
  ·rw[au h];exact E.lis b q
 ·obtain⟨v,e,o⟩:=h1 i s q;refine⟨v,e,o.frame (by rw[me];exact Same.refl _) λa ha u hu=>?_⟩;have:a≠x:=λz=>no i (z▸ha);rw[au this];exact hu
 ·have:a≠x:=λz=>no i (z▸ha);show upd B.H x _ a=none;rw[au this];exact(h4 i a ha).2
end
def t9 (f:Str) (d:D):List (Str×D)->List (Str×D)
 |[]=>[(f,d)]
 |(g,e)::r=>if g=f then(g,d)::r else(g,e)::t9 f d r
theorem vx {K} (h:Is K M d v):∀ {fd:List (Str×D)} {fs:List (Str×V)},fs.map (·.1)=fd.map (·.1)->IsL K M (fd.map (·.2)) (fs.map (·.2))->
  (fZ f v fs).map (·.1)=(t9 f d fd).map (·.1)/\IsL K M ((t9 f d fd).map (·.2)) ((fZ f v fs).map (·.2))
 |[],[],_,_=>⟨rfl,v,[],rfl,h,rfl⟩
 |[],_::_,e,_=>by simp at e
 |_::_,[],e,_=>by simp at e
 |(g,c)::fd,(g',u)::fs,e,⟨x,r,z,q,l⟩=>by
  have e1:g'=g:=by simp at e;exact e.1
  have e2:fs.map (·.1)=fd.map (·.1):=by simp at e;simpa using e.2
  subst e1;have z':u::fs.map (·.2)=x::r:=z;cases z';unfold fZ t9;by_cases hg:g'=f
  ·rw[if_pos hg,if_pos hg];exact⟨by simp[e2],v,_,rfl,h,l⟩
  ·rw[if_neg hg,if_neg hg];obtain⟨a,b⟩:=vx h e2 l;exact⟨by simp[a],u,_,rfl,q,b⟩
abbrev InF:=Ev->List (Str×D)->Option (List (Str×D))
def tIn (K:Frag) (Ca:Addr) (B:Bs) (O:Addr->Bool) (Y:Ev) (x dx:Addr) (fd:List (Str×D)) (o:Option (List (Str×D))):TS:=λEn σ H=>EnvOk K B O σ H Y/\B.O x=true/\
 (∃fs,B.H x=some (.ins Ca dx fs)/\fs.map (·.1)=fd.map (·.1)/\IsL K (msk O H) (fd.map (·.2)) (fs.map (·.2)))/\∃fd',o=some fd'/\
 ∀σ' H' O' fs',(∀b o,b≠x->B.H b=some o->H' b=some o)->(∀b,B.O b=true->O' b=true)->H' x=some (.ins Ca dx fs')->fs'.map (·.1)=fd'.map (·.1)->IsL K (msk O' H') (fd'.map (·.2)) (fs'.map (·.2))->En.nx σ' H'
def PIn (X:Cx) (Ca x:Addr) (st:List Stmt) (I:InF):Prop:=∀B O Y dx fd,PSs X st (tIn X.K Ca B O Y x dx fd (I Y fd))
def Cp:InF:=λ_ fs=>some fs
def stI (F:Ev->Option Out) (G:InF):InF:=λY fs=>(F Y).bind λo=>match o with
 |.nx Y'=>G Y' fs
 |_=>none
def Cq (x:Addr) (i:Nat) (f:Str) (g:Ev->Option (Sl×Ev)) (G:InF):InF:=λY fs=>(g Y).bind λz=>match jt z.2 i with
 |some (.sh,.adr a)=>if a=x/\fs.length<900 then G z.2 (t9 f z.1.2 fs)else none
 |_=>none
section
variable {X:Cx} {Ca x:Addr} {st:Stmt} {rest:List Stmt} {e:Expr} {pos:Pos}
theorem FM:PIn X Ca x [] Cp:=λB O Y dx fd=>pss_nil.imp λEn σ H ⟨E,hx,⟨fs,h1,h2,h3⟩,fd',q,k⟩=>by
 cases q;exact k σ H O fs (λb o _ h=>E.same b o h) E.sub (E.same x _ h1) h2 h3
theorem Cr (h1:PR X st F) (h2:PIn X Ca x rest G):PIn X Ca x (st::rest) (stI F G):=λB O Y dx fd=>
 (l7 (h1 B O Y) (PSs.ex λz:(Addr->Bool)×Ev=>h2 B z.1 z.2 dx fd)).imp λEn σ H ⟨E,hx,⟨fs,a1,a2,a3⟩,fd',q,k⟩=>by
 obtain⟨o1,q1,q2⟩:=bind_some q;refine⟨E,o1,q1,?_⟩;cases o1 with
 |nx Y'=>exactλσ' H' O' s' E'=>⟨⟨O',Y'⟩,E',hx,⟨fs,a1,a2,IsL.mono s' _ _ a3⟩,fd',q2,k⟩
 |rt d=>cases q2
 |bk Y'=>cases q2
 |ct Y'=>cases q2
theorem FN (i:Nat) (hv:PEv X e g) (h2:PIn X Ca x rest G) (hN:X.N[i]?=some self) (hvis:Vis X.env.scope self) (hd:(self==("__debug__":Str))=false) (hcd:(self==("__classdict__":Str))=false) (hs:swapsWith e (some (.Attribute (.Name self px) f pos')) pos.line X.env=pure false) (c:Cls X.K Ca) (na:NoAttr X.K Ca f):PIn X Ca x (.Assign [.Attribute (.Name self px) f pos'] e pos::rest) (Cq x i f g G):=λB O Y dx fd=>
 (l7 (EJ (cF hN hvis hd hcd) (hv B O Y).1 hs) (PSs.ex λz:Bs×(Addr->Bool)×Ev×List _=>h2 z.1 z.2.1 z.2.2.1 dx z.2.2.2)).imp λEn σ H ⟨E,hx,⟨fs,a1,a2,a3⟩,fd',q,k⟩=>by
 obtain⟨⟨s,Y'⟩,q1,q⟩:=bind_some q;refine⟨E,s,Y',q1,λy H1 O1 s1 E1=>?_⟩;obtain⟨O2,E2,s2,iy⟩:=E1.thaw;have q':(match jt Y' i with|some (.sh,.adr a)=>if a=x/\fd.length<900 then G Y' _ else none|_=>none)=some fd':=q;split at q'
 ·rename_i a ha;split at q'
  ·rename_i hc;obtain⟨rfl,hl⟩:=hc;obtain⟨F,f1,_⟩:=E2.fp;obtain⟨w,ew,ow⟩:=f1 i _ (cM ha);cases(ow.2);have hb:=E2.same a _ a1;have hlen:fs.length=fd.length:=by have:=congrArg List.length a2;simpa using this
   refine⟨.ref a,ew,a,Ca,dx,fs,rfl,hb,c,na,by omega,?_⟩;obtain⟨E3,me⟩:=E2.store hx a1;have a3':=IsL.mono (s1.trans s2) _ _ a3;obtain⟨b1,b2⟩:=vx iy a2 a3';refine⟨⟨⟨upd B.H a (.ins Ca dx _),B.O⟩,O2,Y',t9 f s.2 fd⟩,E3,hx,⟨_,ar,b1,by rw[me];exact b2⟩,fd',q',λσ' H' O' fs' k1 k2 k3 k4 k5=>k σ' H' O' fs' (λb o hb h=>k1 b o hb (by show upd B.H a _ b=some o;rw[au hb];exact h)) k2 k3 k4 k5⟩
  ·cases q'
 ·cases q'
end
def ua (n:Nat) (x:Addr) (ds:List D):Ev:=aL n (.adr x::ds)
def yX (n m:Nat) (I:Addr->InF) (x:Addr) (ds:List D):Option (List (Str×D)):=if ds.length+1=n then I x (ua m x ds) []else none
theorem LA {K} {st} (Fn:Fun K x qual st f fd) (S:FnScope N ps (aE st)) (hg:∀ds r,g ds=some r->∀y,yX ps.length N.length I y ds=some r) (hb:∀ (y:Addr) (cdv:Value) (A:Around) (outer:List Env) (s:Shared) (H:Hp) (E:XK),Room k (A.deeper (envOfC qual (aE st) s.heap.objs.size f cdv))->PIn (pN CX0 P w K mg base N qual (aE st) f cdv A outer s H E).nox Ca y (bj st) (I y)):
  FnOk P w K mg base CX0 (k+1) f fd ps (spI K Ca g):=by
 refine Fn.ok S (λvs H Q E ⟨y,vs',dx,O,ds,r,e1,_,_,_,il,e,_⟩=>?_) (λcdv A outer s H vs Q E hr ⟨y,vs',dx,O,ds,r,e1,hy,hO,hOy,il,e,kk⟩=>?_)
 ·have:=hg ds r e 0;unfold yX at this;split at this
  ·rename_i h;rw[e1,length_cons,<-il.len];exact h
  ·cases this
 ·have q:=hg ds r e y;unfold yX at q;split at q
  ·subst e1;have il':IsL K (msk O H) (.adr y::ds) (.ref y::vs'):=⟨_,_,rfl,rfl,il⟩;refine⟨_,hb y cdv A outer s H E hr ⟨H,O⟩ O (aL N.length _) dx [],rL hO il',hOy,⟨[],hy,rfl,rfl⟩,r,q,λσ' H' O' fs' k1 k2 k3 k4 k5=>?_⟩;refine kk H' fs' k1 k3 k4 (IsL.mono (λb o z=>?_) _ _ k5);obtain⟨z1,z2⟩:=bv z;rw[aS];exact z2;cases zz:O b with
   |false=>rfl
   |true=>rw[k2 b zz]at z1;cases z1
  ·cases q
structure NSt (b:Bool) (z j l:Addr) (k:Nat) (h:Heap):Prop where
 ne:z≠j
 hz:∃old,IsEnum h z j k old
 h1:ItK b h j l k
section
variable {prog:Program} {w:World} {A:Around} {E:Value->Shared->Prop} {s:Shared}
theorem yY {k:Nat} {Q:Value->Shared->Prop} (Z:IsEnum s.heap z j k old) (J:ItK b s.heap j l k) (C:CoK b s.heap l xs) (hx:xs[k]?=some x) (ne:z≠j) (hQ:∀g,IsEnumOut g z j ((k:Int)+1) x s.heap.objs.size->ItK b g j l (k+1)->g.get? s.heap.objs.size=some {cls:=.type "tuple",data:=.seq #[.int k s.toks,x]}->g.objs.size=s.heap.objs.size+1->
   (∀d o,d≠z->d≠j->s.heap.get? d=some o->g.get? d=some o)->Q (.ref s.heap.objs.size) {s with heap:=g,toks:=s.toks+1}):
  wpAny (model prog w) A (Builtin.«enumerate.__next__» ⟨[.ref z],[]⟩) (λfin s'=>∃v,fin=.done (.ret v)/\Q v s') E s:=by
 cases s with
 |mk hp gn dr tk os=>
 show wpAny _ _ (field (.ref z) 2>>=_) _ _ _
 refine wpAny_bind (wpAny_field Z rfl rfl (wpAny_bind (vi J C hx λg1 J1 s1=>?_)))
 replace s1:Heap.SameBut j hp g1:=s1
 have Z1:=(s1.2 z ne).trans Z
 refine wpAny_bind (wpAny_field Z1 rfl rfl ?_)
 refine wpAny_bind (wpAny_field Z1 rfl rfl ?_)
 refine wpAny_bind (wpAny_mkInt ?_)
 show wpAny _ _ (setField (.ref z) 3 (rawInt ((k:Int)+1))>>=_) _ _ ⟨g1,gn,dr,tk+1,os⟩
 refine wpAny_bind (wpAny_setField_rec Z1 (by simp) λg2 Z2 s2=>?_)
 replace s2:Heap.SameBut z g1 g2:=s2
 replace Z2:IsEnum g2 z j ((k:Int)+1) old:=Z2
 refine wpAny_bind (wpAny_setField_rec Z2 (by simp) λg3 Z3 s3=>?_)
 replace s3:Heap.SameBut z g2 g3:=s3
 replace Z3:IsEnum g3 z j ((k:Int)+1) old:=Z3
 refine wpAny_bind (wpAny_newTuple ?_)
 have Z4:IsEnum (g3.push {cls:=.type "tuple",data:=.seq #[.int k tk,x]}) z j ((k:Int)+1) old:=Heap.get?_push_of_some _ Z3
 have sz:g3.objs.size=hp.objs.size:=by rw[s3.1,s2.1,s1.1]
 have zl:=Heap.lt_size Z
 have T4:(g3.push {cls:=.type "tuple",data:=.seq #[.int k tk,x]}).get? hp.objs.size=some {cls:=.type "tuple",data:=.seq #[.int k tk,x]}:=by rw[<-sz];exact Heap.get?_push_size _ rfl
 have z4:(g3.push {cls:=.type "tuple",data:=.seq #[.int k tk,x]}).objs.size=hp.objs.size+1:=by rw[Heap.size_push,sz]
 have k4:∀d o,d≠z->d≠j->hp.get? d=some o->(g3.push {cls:=.type "tuple",data:=.seq #[.int k tk,x]}).get? d=some o:=λd o n1 n2 e=>
  Heap.get?_push_of_some _ (s3.extBut d o n1 (s2.extBut d o n1 (s1.extBut d o n2 e)))
 have J4:ItK b (g3.push {cls:=.type "tuple",data:=.seq #[.int k tk,x]}) j l (k+1):=((J1.ext s2 ne.symm).ext s3 ne.symm).at λo e=>Heap.get?_push_of_some _ e
 generalize g3.push {cls:=.type "tuple",data:=.seq #[.int k tk,x]}=g4 at Z4 T4 z4 k4 J4
 rw[sz]
 refine wpAny_bind ?_
 refine wpAny_bind (wpAny_field Z4 rfl rfl (wpAny_pure ?_))
 refine wpAny_bind (wpAny_rule (wpAny_bind (wpAny_field Z4 rfl (x:=old) rfl (wpAny_bind (wpAny_setField_rec Z4 (by simp) λg5 Z5 s5=>?_)))))
 replace s5:Heap.SameBut z g4 g5:=s5
 replace Z5:IsEnum g5 z j ((k:Int)+1) x:=Z5
 show wpAny _ _ (Builtin.SmallTypes.ownedTupleHandOut (.ref z) (.ref hp.objs.size)>>=_) _ _ ⟨g5,gn,dr,tk+1,os⟩
 refine wpAny_bind ?_
 refine wpAny_bind (wpAny_setField_rec Z5 (by simp) λg6 Z6 s6=>?_)
 replace s6:Heap.SameBut z g5 g6:=s6
 replace Z6:IsEnumOut g6 z j ((k:Int)+1) x hp.objs.size:=Z6
 refine wpAny_setField_rec Z6 (by simp) λg7 Z7 s7=>?_
 replace s7:Heap.SameBut z g6 g7:=s7
 replace Z7:IsEnumOut g7 z j ((k:Int)+1) x hp.objs.size:=Z7
 have up:∀d o,d≠z->g4.get? d=some o->g7.get? d=some o:=λd o n e=>s7.extBut d o n (s6.extBut d o n (s5.extBut d o n e))
 exact wpAny_bind (wpAny_letGo (wpAny_pure ⟨_,rfl,hQ g7 Z7 (J4.at λo e=>up _ o ne.symm e) (up _ _ (Nat.ne_of_gt zl) T4) (by rw[s7.1,s6.1,s5.1,z4]) λd o n1 n2 e=>up d o n1 (k4 d o n1 n2 e)⟩))
theorem yZ (Z:NSt b z j l k s.heap) (C:CoK b s.heap l xs) (hx:xs[k]?=some x) (hQ:∀g,IsEnumOut g z j ((k:Int)+1) x s.heap.objs.size->ItK b g j l (k+1)->g.get? s.heap.objs.size=some {cls:=.type "tuple",data:=.seq #[.int k s.toks,x]}->g.objs.size=s.heap.objs.size+1->
   (∀d o,d≠z->d≠j->s.heap.get? d=some o->g.get? d=some o)->Q (some (.ref s.heap.objs.size)) {s with heap:=g,toks:=s.toks+1}):wpAny (model prog w) A (pyNext (.ref z)) Q E s:=by
 obtain⟨ne,⟨old,hz⟩,h1⟩:=Z
 have T:s.TypeIs (.ref z) "enumerate":=⟨_,hz,rfl⟩
 exact wpAny_bind (wpAny_attempt (wpAny_callSpecial?_slot T F.slot_enumerate_next (wpAny_call_entry F.slot_enumerate_next T F.entry_enumerate_next
  (yY hz h1 C hx ne λg a c d e f=>wpAny_pure (hQ g a c d e f)) (F.args_enumerate_next_1 _))))
theorem y6 (hh:A.handled=none) (Z:NSt b z j l k s.heap) (C:CoK b s.heap l xs) (hx:xs[k]?=none) (hQ:∀g,Heap.ExtBut j s.heap g->Q none {s with heap:=g}):wpAny (model prog w) A (pyNext (.ref z)) Q E s:=by
 obtain⟨ne,⟨old,hz⟩,h1⟩:=Z;have T:s.TypeIs (.ref z) "enumerate":=⟨_,hz,rfl⟩;refine wpAny_bind (wpAny_attempt (wpAny_callSpecial?_slot T F.slot_enumerate_next (wpAny_call_entry F.slot_enumerate_next T F.entry_enumerate_next ?_ (F.args_enumerate_next_1 _))));show wpAny _ _ (field (.ref z) 2>>=_) _ _ _;refine wpAny_bind (wpAny_field hz rfl rfl (wpAny_bind (j3 hh h1 C hx λg e q he=>?_)));obtain⟨o,ho,hc⟩:=he;exact wpAny_bind (wpAny_isInstance ⟨o,ho,hc⟩ isSubtype_stop (wpAny_pure (hQ _ q)))
abbrev nG (h:Heap) (b:Bool) (l:Addr):Heap:=(h.push (aT b l)).push {cls:=.type "enumerate",data:=.fields #[.none,.bool false,.ref h.objs.size,rawInt 0,.none,.none]}
theorem Cs (b:Bool) (l:Addr) (xs:Array Value):Meets (Builtin.«enumerate.__new__» ⟨[.type "enumerate",.ref l],[]⟩) (λ_ R s=>CoK b s.heap l xs/\
   R (.ok (.ret (.ref (s.heap.push (aT b l)).objs.size))) {s with heap:=nG s.heap b l}):=
 .of_wp λprog w A R s h=>by
  cases s with
  |mk hp gn dr tk os=>
  obtain⟨c0,h⟩:=h;have hsub:=sub_enumerate;have C:CoK b (Shared.heap ⟨hp,gn,dr,tk,os⟩) l xs:=c0;wp_walk using rG C;refine wpAny_stack_any λst=>wpAny_pure ?_;split
  ·rename_i c _ _ _ _ _;cases(c==Value.type "enumerate")<;>(wp_walk using rG C;exact⟨_,rfl,h⟩)
  ·wp_walk using rG C;exact⟨_,rfl,h⟩
theorem y7 (C:CoK b s.heap l xs) (h:∀g,NSt b (s.heap.objs.size+1) s.heap.objs.size l 0 g->g.objs.size=s.heap.objs.size+2->(∀d o,s.heap.get? d=some o->g.get? d=some o)->Q (.ref (s.heap.objs.size+1)) {s with heap:=g}):
  wpAny (model prog w) A (call (.type "enumerate") [.ref l]) Q E s:=by
 refine callType_new F.called_enumerate (by decide) (F.typeCall_enumerate_1 _) (F.newCall_enumerate_1 _) (λobj=>F.args_object_init_2 obj _) F.entry_enumerate_new (Cs b l xs) ⟨C,?_⟩
 have z1:(s.heap.push (aT b l)).objs.size=s.heap.objs.size+1:=Heap.size_push ..
 have g2:IsEnum (nG s.heap b l) (s.heap.objs.size+1) s.heap.objs.size 0 .none:=by
  have:=Heap.get?_push_size (s.heap.push (aT b l)) (o:={cls:=.type "enumerate",data:=.fields #[.none,.bool false,.ref s.heap.objs.size,rawInt 0,.none,.none]}) rfl;rw[z1]at this;exact this
 have fb:(aT b l).isFreed=false:=by cases b<;>rfl
 have g1:(nG s.heap b l).get? s.heap.objs.size=some _:=Heap.get?_push_of_some _ (Heap.get?_push_size _ fb)
 have i1:ItK b (nG s.heap b l) s.heap.objs.size l 0:=by cases b<;>exact⟨_,g1,rfl,rfl⟩
 rw[z1]
 exact⟨⟨_,g2,rfl⟩,h _ ⟨Nat.succ_ne_self _,⟨_,g2⟩,i1⟩ (by rw[Heap.size_push,z1]) λd o x=>Heap.get?_push_of_some _ (Heap.get?_push_of_some _ x)⟩
end
def Itn (K:Frag) (b:Bool) (l:Addr):It:=
 ⟨λi H=>∃xs x,SqK b K H l xs/\xs[i]?=some x,
  λi H v H'=>∃p x,v=.ref p/\H p=none/\H'=upd H p (.tup [.int i,x])/\∀xs,SqK b K H l xs->xs[i]?=some x,
  λi H=>∃xs,SqK b K H l xs/\xs.length<=i⟩
theorem NSt.live (Z:NSt b z j l k h) (hd:d∈[z,j]):∃o,h.get? d=some o/\∀v,o.data≠.cell v:=by
 simp at hd;rcases hd with rfl|rfl
 ·obtain⟨old,e⟩:=Z.hz;exact⟨_,e,λv q=>by cases q⟩
 ·obtain⟨o,n,vs,e,_,dd,_⟩:=Z.h1.live;exact⟨o,e,λv q=>by rw[dd]at q;cases q⟩
theorem y8 {P:Program} {w:World} {K:Frag} {elts:List Expr} {x1:Nat} {tpos:Pos} (b:Bool) (l z j:Addr):
  Turn P w K (.Tuple elts x1 tpos) (Itn K b l) [z,j] z (λi h=>NSt b z j l i h) where
 mem:=by simp
 obj:=λi h Z d hd=>Z.live hd
 keep:=λi h h' Z k=>by
  obtain⟨old,e⟩:=Z.hz;exact⟨Z.ne,⟨old,k z (by simp) _ e⟩,Z.h1.at λo q=>k j (by simp) o q⟩
 item:=by
  intro X hP hw hK hc i pins s σ H E I hf Z hg;subst hP hw hK;obtain⟨xs,x,hx,ex⟩:=hg;obtain⟨its,rv,p1,_⟩:=I.coK hx;obtain⟨u,hu,ru⟩:=rv.get ex;refine yZ Z p1 (by simpa using hu) λh' Z' J' T' sz k'=>⟨_,rfl,?_⟩;refine wpAny_letOwnedTupleGo_enum Z' λh2 hz2 sb=>?_;obtain⟨old,hz⟩:=Z.hz;have zlt:=Heap.lt_size hz;have Z2:NSt b z j l (i+1) h2:=⟨Z.ne,⟨_,by rw[show((i+1:Nat):Int)=(i:Int)+1 from rfl];exact hz2⟩,J'.at λo q=>sb.extBut _ _ Z.ne.symm q⟩;have T2:=sb.extBut _ _ (Nat.ne_of_gt zlt) T';have kk:∀d o,d ∉ [z,j]->s.heap.get? d=some o->h2.get? d=some o:=λd o hd e=>by
   simp at hd;exact sb.extBut _ _ hd.1 (k' d o hd.1 hd.2 e)
  have fr:=I.hok.fresh (le_refl _);refine⟨.ref s.heap.objs.size,_,I.turnedNew hf kk (le_refl _) ?_,rfl,⟨s.heap.objs.size,x,rfl,fr,rfl,λzs hzs=>by rw[I.coK_inj hzs hx];exact ex⟩,Z2,λd hd=>?_⟩
  ·exact⟨by show 2<=sizeLine;decide,[.int i s.toks,u],.cons ⟨_,rfl⟩ (.cons ru .nil),⟨_,T2,rfl,_,rfl⟩⟩
  ·obtain⟨o,eo,_⟩:=Z.live hd;rw[au (Nat.ne_of_lt (Heap.lt_size eo))];exact(hf d hd).1
 done:=by
  intro X hP hw hK hc i pins s σ H E I hf Z hg;subst hP hw hK;obtain⟨xs,hx,hl⟩:=hg;obtain⟨its,rv,p1,_⟩:=I.coK hx;have e1:=rv.length;refine y6 (I.ok.hd hc) Z p1 (by simp;omega) λh' k'=>⟨rfl,I.turnedL hf λd o hd e=>?_⟩;simp at hd;exact k' d o hd.2 e
 self:=λ_ _ _ _ _ Z h=>by
  obtain⟨old,e⟩:=Z.hz;exact wpAny_pyIter_enum e h
section
variable {X:Cx} {tg a b e:Expr} {es:List Expr} {p pos:Pos}
theorem FO:bootBuiltins "enumerate"=some (.type "enumerate"):=by decide+kernel
def LB (K:Frag) (ta:TA):TI:=λσ H R=>ta σ H λvs H1=>∃b l xs,vs=[.ref l]/\SqK b K H1 l xs/\R (Itn K b l) H1
theorem FP {x1} (hg:Gl X "enumerate") (hm:X.mg "enumerate"=none) (ha:PA X [a] ta) (hs:starEach [a] X.env=[(false,eval a X.env)]):
  PI X (.Tuple elts x1 tpos) (.Call (.Name "enumerate" p) [a] [] pos) (LB X.K ta):=by
 intro pins s σ H R I h
 refine Call_ (cU I hg hm FO (PyProof.Rows.callWith_type1 (thn (ha pos pins s σ H _ I h) λus s1 ⟨vs,H1,I1,r1,q1⟩=>?_) (by rw[hs];rfl) (by rfl)))
 obtain⟨b,l,xs,e,hx,q⟩:=q1
 subst e
 obtain⟨u,rfl,ru⟩:=fK r1
 cases ru
 obtain⟨its,rx,p1,_⟩:=I1.coK hx
 refine y7 p1 λh' Z sz k=>?_
 obtain⟨old,hz⟩:=Z.hz
 refine wpAny_pyIter_enum hz ?_
 have I2:Inv X pins σ H1 {s1 with heap:=h'}:=I1.kept k
 refine⟨s1.heap.objs.size+1,[s1.heap.objs.size+1,s1.heap.objs.size],_,_,H1,rfl,I2,y8 b l _ _,Z,λd hd=>?_,q⟩
 have hge:s1.heap.objs.size<=d:=by
  simp at hd;rcases hd with rfl|rfl<;>first|exact Nat.le_add_right _ _|exact le_refl _
 exact I1.fpOk hge (I1.hok.fresh hge)
def lh (xs:List D):List D:=xs.zipIdx.map λp=>.tup [.int (p.2:Nat),p.1]
theorem y9 {K} {b} (hx:SqK b K Hm l xs) (il:IsL K Hm ds xs):kX K Hm (Itn K b l) (lh ds):=λi H O s hd=>by
 have hx':=hx.mono (s.trans msk_le);refine⟨λd hi=>?_,λhi=>⟨xs,hx',?_⟩⟩
 ·unfold lh at hi;rw[getElem?_map,List.getElem?_zipIdx]at hi;cases e:ds[i]? with
  |none=>rw[e]at hi;cases hi
  |some d1=>
   rw[e]at hi;cases hi;obtain⟨x,ex,ix⟩:=il.get e;refine⟨⟨xs,x,hx',ex⟩,?_⟩;rintro v H3 ⟨q,x',rfl,hq,rfl,kx⟩;have z1:=kx xs hx';rw[ex]at z1;cases z1;have hO:=fL hd hq;refine⟨Same.new hq,q,[.int i,x],rfl,.of (by rw[aS hO,ar]),?_⟩;have le:Same (msk O H) (msk O (upd H q (.tup [.int i,x]))):=(Same.new hq).msk;exact⟨.int i,[x],rfl,by show V.int _=V.int _;simp,x,[],rfl,Is.mono (s.trans le) _ _ ix,rfl⟩
 ·have h1:=il.len;unfold lh at hi;rw[length_map,List.length_zipIdx]at hi;omega
def vy:List D->Option (List D):=un1 λc=>(seqD c).bind λxs=>some (lh xs)
theorem FQ {x1} (hg:Gl X "enumerate") (hm:X.mg "enumerate"=none) (ha:PX X [a] fa) (hs:starEach [a] X.env=[(false,eval a X.env)]):
  PJ X (.Tuple elts x1 tpos) (.Call (.Name "enumerate" p) [a] [] pos) (λY=>(fa Y).bind vy):=λO Y=>(FP hg hm (ha O Y) hs).imp λσ H R ⟨E,ds,q,k⟩=>by
 obtain⟨as,e1,q⟩:=bind_some q
 refine⟨E,as,e1,λvs H1 s1 il=>?_⟩
 obtain⟨c,rfl,q1⟩:=bw q
 obtain⟨xs,q2,q3⟩:=bind_some q1
 cases q3
 obtain⟨u,rfl,iu⟩:=is1 il
 obtain⟨l1,us,rfl,t1,m1⟩:=gc q2 iu
 obtain⟨b1,t1⟩:=tV t1
 exact⟨b1,l1,us,rfl,t1.mono msk_le,k _ H1 s1 (y9 t1 m1)⟩
end
section
variable {X:Cx} {a b:Expr} {pos:Pos}
def Ji (K:Frag):R2:=λx y H Q=>∃l m xs zs,x=.ref l/\y=.ref m/\SqL K H l xs/\SqL K H m zs/\xs.length+zs.length<=sizeLine/\∀p,H p=none->Q (.ref p) (upd H p (.lst (xs++zs)))
theorem Ct:OpR X (binaryOp .Add) (Ji X.K):=by
 intro pins s σ H x y v u Q I rx ry h;obtain⟨l,m,xs,zs,rfl,rfl,h1,h2,hz,q⟩:=h;cases rx;cases ry;obtain⟨its,r1,⟨⟨c1,d1,t1,s1⟩,n1,e1,k1,_,w1⟩,_⟩:=I.list h1;obtain⟨jts,r2,⟨⟨c2,d2,t2,s2⟩,n2,e2,k2,_,w2⟩,_⟩:=I.list h2;subst k1 w1 k2 w2;have hl1:=r1.length;have hl2:=r2.length;refine concat_meets ⟨_,e1,rfl⟩ ⟨_,e2,rfl⟩ noFill_list_add seq_list_add PySem.F.slot_list_add PySem.F.entry_list_add (PySem.F.args_list_add_2 _ _) (list_addW l m its.toArray jts.toArray n1 n2 d1 d2 s1 s2 (by rw[size_toArray,size_toArray];omega)) ⟨e1,e2,?_⟩;rw[show its.toArray++jts.toArray=(its++jts).toArray by simp];exact⟨.ref _,_,I.lnew (r1.append r2) (by rw[length_append];omega),rfl,q _ I.fresh⟩
def LC (d e:D):Option (List D):=(fN d).bind λxs=>(fN e).bind λys=>bZ (some (xs++ys))
def iX (fa fb:Vv->Option D):Vv->Option (List D):=λY=>(fa Y).bind λx=>(fb Y).bind λy=>LC x y
theorem FR (ha:PP X a fa) (hb:PP X b fb):PF X (.BinOp a .Add b pos) (iX fa fb):=λO Y=>(xS Ct (ha O Y) (hb O Y)).imp λσ H Q ⟨E,ds,q,k⟩=>by
 obtain⟨dx,e1,q⟩:=bind_some q;obtain⟨dy,e2,q⟩:=bind_some q;obtain⟨xs,f1,q⟩:=bind_some q;obtain⟨ys,f2,q⟩:=bind_some q;obtain⟨g1,g2⟩:=da q;cases g1;refine⟨E,dx,e1,λx H1 s1 i1=>⟨E.grow s1,dy,e2,λy H2 s2 i2=>?_⟩⟩;obtain⟨l,us,rfl,t1,l1⟩:=dO f1 (Is.mono s2.msk dx x i1);obtain⟨m,ws,rfl,t2,l2⟩:=dO f2 i2;refine⟨l,m,us,ws,rfl,rfl,msk_le.seq t1,msk_le.seq t2,?_,λp hp=>k p _ H2 (s1.trans s2) hp (l1.app l2)⟩;rw[length_append]at g2;rw[<-l1.len,<-l2.len];exact Nat.le_of_lt g2
end
theorem Cu:typeLookup (.type "list_reverseiterator") "__len__"=pure none:=by rw[typeLookup_type,builtinLookup_eq_fast];kernel_rfl
theorem zc:typeLookup (.type "list_reverseiterator") "__length_hint__"=pure (some (.builtin "list_reverseiterator.__length_hint__")):=by rw[typeLookup_type,builtinLookup_eq_fast];kernel_rfl
section
variable {prog:Program} {w:World} {A:Around} {E:Value->Shared->Prop} {s:Shared}
theorem zd (J:s.heap.IsRevIter j l i) (h:Q false s):wpAny (model prog w) A (Builtin.List.listLengthHint (.ref j)) Q E s:=by
 refine wpAny_bind (wpAny_specialOf J.typeIs Cu ?_);refine wpAny_bind (wpAny_specialOf J.typeIs zc ?_);generalize hid:("list_reverseiterator.__length_hint__":String)=id0;wp_delta;rw[show splitId id0=some ("list_reverseiterator","__length_hint__")from by subst hid;decide+kernel];subst hid;refine wpAny_bind (wpAny_isInstance (b:=true) J.typeIs (by rw[isSubtype_type];kernel_rfl) ?_);refine wpAny_ite_split (λhab=>absurd hab (by decide)) (λ_=>?_);refine wpAny_ite_split (λ_=>?_) (λhab=>absurd (by decide+kernel) hab);refine wpAny_ite_split (λhab=>absurd hab (by decide+kernel)) (λ_=>?_);exact wpAny_pure h
theorem vz (hh:A.handled=none) (J:s.heap.IsRevIter j l ((xs.size:Int)-1)) (C:s.heap.IsList l xs) (ne:l≠j) (hS:s.heap.get? S=some {cls:=.type "list",data:=.seq #[] c₀}) (nj:S≠j) (nl:S≠l) (hn:xs.size<=sizeLine) (hR:∀g tk acc c,(∀d o,d≠S->d≠j->s.heap.get? d=some o->g.get? d=some o)->g.get? S=some {cls:=.type "list",dict:=none,data:=.seq acc c,slots:=#[]}->
   ItemsOf (λi v=>xs[xs.size-1-i]?=some v) acc xs.size->R (.ok (.ret res)) {s with heap:=g,toks:=tk}):
  wpAny (model prog w) A.in1 (Builtin.List.listExtendWith (.ref S) (.ref j) res)
   (λfin s'=>match fin with|.done f=>R (.ok f) s'|.again c'=>c'.quiet=true/\codeAny (model prog w) A c' R s') (λe s'=>R (.error e) s') s:=by
 have W:=(Walks.listRev (prog:=prog) (w:=w) (A:=A.in1) hh j l ne xs).toS
 refine wpAny_bind (wpAny_typeOf J.typeIs ?_)
 have h1:Builtin.List.listSameRef (.ref S) (.ref j)=false:=by simp[Builtin.List.listSameRef,nj]
 have h2:(Value.type "list_reverseiterator"==Value.type "list")=false:=by decide
 have h3:(Value.type "list_reverseiterator"==Value.type "tuple")=false:=by decide
 simp only[h1,h2,h3,Bool.or_false,Bool.false_eq_true,if_false]
 refine wpAny_bind (wpAny_pyIter_revIter J (wpAny_bind (wpAny_holding (zd J ?_))))
 refine wpAny_ite_split (λhab=>absurd hab (by decide+kernel)) (λ_=>wpAny_pure ⟨plainId_quiet F.plain_extend_loop _,?_⟩)
 refine codeAny_extend_loopS W hn S (by simp[nj,nl]) res xs.size 0 _ #[] c₀ rfl (Nat.zero_le _) ⟨Nat.zero_le _,by simpa using J,C⟩ hS (ItemsOf.nil _) λs' acc c hm hS' hacc=>?_
 rw[Moved.eq_with hm]
 exact hR s'.heap s'.toks acc c (λd o n1 n2 e=>hm.heap d o (by simp[n1,n2]) e) hS' hacc
theorem ze (hh:A.handled=none) (J:s.heap.IsRevIter j l ((xs.size:Int)-1)) (C:s.heap.IsList l xs) (ne:l≠j) (hn:xs.size<=sizeLine) (hQ:∀g tk acc c,(∀d o,d≠j->s.heap.get? d=some o->g.get? d=some o)->g.get? s.heap.objs.size=some {cls:=.type "list",dict:=none,data:=.seq acc c,slots:=#[]}->
   ItemsOf (λi v=>xs[xs.size-1-i]?=some v) acc xs.size->Q (.ref s.heap.objs.size) {s with heap:=g,toks:=tk}):wpAny (model prog w) A (call (.type "list") [.ref j]) Q E s:=by
 have jl:j<s.heap.objs.size:=by obtain⟨o,e,_⟩:=J;exact Heap.lt_size e
 have ll:l<s.heap.objs.size:=by obtain⟨o,e,_⟩:=C;exact Heap.lt_size e
 refine callType_codes (Q₁:=λobj z=>obj=.ref s.heap.objs.size/\z={s with heap:=s.heap.push {cls:=.type "list",data:=.seq #[]}}) F.called_list (F.typeCall_list_1 _) F.entry_list_init (code_list_new _ ⟨rfl,rfl⟩) λobj z hz=>?_
 obtain⟨rfl,rfl⟩:=hz
 have hS:(s.heap.push {cls:=.type "list",data:=.seq #[]}).get? s.heap.objs.size=some {cls:=.type "list",data:=.seq #[]}:=Heap.get?_push_size _ rfl
 refine⟨⟨_,hS,rfl⟩,F.args_list_init_2 _ _,?_⟩
 refine wpAny_bind ?_
 refine wpAny_bind (wpAny_seqItems hS rfl (wpAny_pure ?_))
 refine wpAny_bind (wpAny_updateSeq hS rfl (wpAny_bind (wpAny_letGo ?_)))
 have hS2:=Heap.get?_update_self (Obj.mapSeq (λ_=>(#[]:Array Value))) hS rfl
 have up:∀d o,d≠s.heap.objs.size->s.heap.get? d=some o->((s.heap.push {cls:=.type "list",data:=.seq #[]}).update s.heap.objs.size (Obj.mapSeq (λ_=>(#[]:Array Value)))).get? d=some o:=
  λd o n e=>(Heap.get?_update_other _ _ (Ne.symm n)).trans (Heap.get?_push_of_some _ e)
 refine vz hh (J.at λo e=>up _ o (Nat.ne_of_lt jl) e) (C.at λo e=>up _ o (Nat.ne_of_lt ll) e) ne hS2 (Nat.ne_of_gt jl) (Nat.ne_of_gt ll) hn λg tk acc c k hg hi=>?_
 exact⟨rfl,hQ g tk acc c (λd o n e=>k d o (Nat.ne_of_lt (Heap.lt_size e)) n (up d o (Nat.ne_of_lt (Heap.lt_size e)) e)) hg hi⟩
theorem oW {xs acc:Array Value} (h:ItemsOf (λi v=>xs[xs.size-1-i]?=some v) acc xs.size):acc.toList=xs.toList.reverse:=by
 apply List.ext_getElem?;intro i;by_cases hi:i<xs.size
 ·have h1:i<acc.size:=by rw[h.1];exact hi
  have e:=h.2 i _ (Array.getElem?_eq_getElem h1);rw[List.getElem?_reverse (by simpa using hi),Array.getElem?_toList,Array.getElem?_toList,Array.getElem?_eq_getElem h1,<-e];simp
 ·rw[List.getElem?_eq_none (by rw[Array.length_toList,h.1];omega),List.getElem?_eq_none (by rw[List.length_reverse,Array.length_toList];omega)]
end
section
variable {X:Cx} {a:Expr} {p p2 pos pos2:Pos}
theorem zf:bootBuiltins "reversed"=some (.type "reversed"):=by decide+kernel
theorem DU:bootBuiltins "list"=some (.type "list"):=by decide+kernel
def LD (K:Frag) (ta:TA):TE:=λσ H Q=>ta σ H λvs H1=>∃l xs,vs=[.ref l]/\SqL K H1 l xs/\∀q,H1 q=none->Q (.ref q) (upd H1 q (.lst xs.reverse))
theorem FS (hc:X.calm=true) (hg:Gl X "list") (hm:X.mg "list"=none) (hg2:Gl X "reversed") (hm2:X.mg "reversed"=none) (ha:PA X [a] ta) (hs:starEach [a] X.env=[(false,eval a X.env)]):
  PE X (.Call (.Name "list" p) [.Call (.Name "reversed" p2) [a] [] pos2] [] pos) (LD X.K ta):=by
 intro pins s σ H Q I h
 refine wpAny_Call_Name_kw (cU I hg hm DU (PyProof.Rows.callWith_type1 ?_ rfl rfl))
 show wpAny _ _ (spliced ((false,eval (.Call (.Name "reversed" p2) [a] [] pos2) X.env)::[])) _ _ s
 refine Calls.spliced_cons ?_
 refine wpAny_Call_Name_kw (cU I hg2 hm2 zf (PyProof.Rows.callWith_type1 (thn (ha pos2 pins s σ H _ I h) λus s1 ⟨vs,H1,I1,r1,q1⟩=>?_) (by rw[hs];rfl) rfl))
 obtain⟨l,xs,rfl,hx,q⟩:=q1
 obtain⟨u,rfl,ru⟩:=fK r1
 cases ru
 obtain⟨its,rv,pl,hz⟩:=I1.list hx
 have C:=pl.isList
 have ll:l<s1.heap.objs.size:=by obtain⟨o,e,_⟩:=C;exact Heap.lt_size e
 refine call_reversed_list C (Calls.spliced_nil ?_)
 have up:∀d o,s1.heap.get? d=some o->(s1.heap.push (revObj l ((its.toArray.size:Int)-1))).get? d=some o:=λd o e=>Heap.get?_push_of_some _ e
 have I2:Inv X pins σ H1 {s1 with heap:=s1.heap.push (revObj l ((its.toArray.size:Int)-1))}:=I1.kept up
 have hl:=rv.length
 refine ze (I1.ok.hd hc) ⟨_,Heap.get?_push_size _ rfl,rfl,rfl⟩ (C.at λo e=>up _ o e) (Nat.ne_of_lt ll) (by rw[size_toArray];omega) λg tk acc c k hgS hi=>?_
 have e:=oW hi
 have fr:=I2.hok.fresh (le_refl _)
 refine⟨.ref _,_,I2.turnedNew (ch:=[s1.heap.objs.size]) (λb hb=>?_) (λb o hb e=>k b o (by simpa using hb) e) (le_refl _) ?_,rfl,q _ fr⟩
 ·rw[mem_singleton.mp hb];exact I1.fpOk (le_refl _) (I1.hok.fresh (le_refl _))
 ·refine⟨by rw[List.length_reverse];exact hz,its.reverse,c,rv.reverse,?_⟩;have e2:acc=its.reverse.toArray:=by
   apply Array.toList_inj.mp;rw[e]
  rw[<-e2];exact hgS
def revD:List D->Option (List D):=un1 λd=>(fN d).bind λds=>some ds.reverse
theorem IsL.rev {K}:∀ {ds:List D} {xs:List V},IsL K H ds xs->IsL K H ds.reverse xs.reverse
 |[],xs,h=>by cases h;rfl
 |d::ds,xs,⟨x,r,e,h,l⟩=>by
  subst e;rw[List.reverse_cons,List.reverse_cons];exact(IsL.rev l).app ⟨_,_,rfl,h,rfl⟩
theorem FT (hc:X.calm=true) (hg:Gl X "list") (hm:X.mg "list"=none) (hg2:Gl X "reversed") (hm2:X.mg "reversed"=none) (ha:PX X [a] fa) (hs:starEach [a] X.env=[(false,eval a X.env)]):
  PF X (.Call (.Name "list" p) [.Call (.Name "reversed" p2) [a] [] pos2] [] pos) (λY=>(fa Y).bind revD):=λO Y=>(FS hc hg hm hg2 hm2 (ha O Y) hs).imp λσ H Q ⟨E,ds,q,k⟩=>by
 obtain⟨as,e1,q⟩:=bind_some q
 refine⟨E,as,e1,λvs H1 s1 il=>?_⟩
 obtain⟨c,rfl,q2⟩:=bw q
 obtain⟨xs,q3,q4⟩:=bind_some q2
 cases q4
 obtain⟨v,rfl,h⟩:=is1 il
 obtain⟨l,ys,rfl,t,l2⟩:=dO q3 h
 exact⟨l,ys,rfl,msk_le.seq t,λb hb=>k b _ H1 s1 hb l2.rev⟩
end
theorem xf (l:Addr) (xs:Array Value) (n:Nat) (m:Addr) (ys:Array Value) (k:Nat) (dd:Option Addr) (sl:Array (Option Value)) (hc0:¬(!xs.isEmpty&&Builtin.List.listTooLong (xs.size+ys.size))=true) (hc1:xs.size<=sizeLine) (hs2:xs.size+ys.size<=sizeLine+1):
  Meets (Builtin.«list.extend» ⟨[.ref l,.ref m],[]⟩) (λ_ R s=>s.heap.get? l=some {cls:=.type "list",dict:=none,data:=.seq xs n,slots:=#[]}/\s.heap.get? m=some {cls:=.type "list",dict:=dd,data:=.seq ys k,slots:=sl}/\R (.ok (.ret Value.none)) {s with heap:=s.heap.update l (Obj.mapSeq λx=>x++ys),toks:=s.toks}):=
 .of_wp λprog w A R s h=>by
  obtain⟨hp,g,d,tk,os⟩:=s;obtain⟨hl,hb,h⟩:=h;have f1:=AutoSeq1.idx_int;have f2:=AutoSeq1.sub_tuple_tuple;have f3:=AutoSeq1.sub_list_list;have f4:=AutoSeq1.sub_tuple_list;have f5:=AutoSeq1.sub_list_tuple;have hz':(xs++ys).size<=sizeLine+1:=by rw[Array.size_append];exact hs2
  wp_walk using (wpAny_updateSeq hl rfl),AutoSeq1.wpAny_loadPart' hl,AutoSeq1.wpAny_loadPart' hb;exact⟨_,rfl,h⟩
def Jj (K:Frag):V->List V->Hp->VK->Prop:=λx vs H Q=>∃l m xs zs,x=.ref l/\vs=[.ref m]/\H l=some (.lst xs)/\SqL K H m zs/\xs.length+zs.length<=sizeLine/\Q .non (upd H l (.lst (xs++zs)))
theorem Cv:MtM X "list.extend" (Jj X.K):=by
 intro pins s σ H x vs v us Q I rx rv h;obtain⟨l,m,xs,zs,rfl,rfl,hH,hB,hz,q⟩:=h;cases rx;obtain⟨u,rfl,ru⟩:=rv.one;cases ru;obtain⟨z,its,n,r,hl,e⟩:=I.lstM hH;obtain⟨jts,r2,⟨⟨c2,d2,t2,s2⟩,n2,e2,k2,_,w2⟩,_⟩:=I.list hB;subst k2 w2;have hl2:=r2.length;have hsz:its.toArray.size+jts.toArray.size<=sizeLine:=by rw[size_toArray,size_toArray];omega
 have hlong:¬ (!its.toArray.isEmpty&&Builtin.List.listTooLong (its.toArray.size+jts.toArray.size))=true:=by
  rw[rh hsz,Bool.and_false];exact Bool.false_ne_true
 refine call_meets F.slot_list_extend ⟨_,e,rfl⟩ F.entry_list_extend (F.args_list_extend_2 _ _) (xf l its.toArray n m jts.toArray n2 d2 s2 hlong (by rw[size_toArray];omega) (by omega)) ⟨e,e2,?_⟩;refine⟨.non,_,I.lset hH e (by simp) (r.append r2) ?_,rfl,q⟩;rw[length_append];omega
def extS (d:D):Sl:=if lfD d then(.deep,d)else(.sh,d)
def extC:Cat->List D->Cat
 |c,[]=>c
 |c,d::ds=>extC (newCat c (extS d)) ds
section
variable {K:Frag} {B:Bs}
theorem EnvOk.moreS (E:EnvOk K B O σ H Y) (h:Is K (msk O H) d v):EnvOk K B O (σ++[some v]) H (Y++[some (extS d)]):=by
 unfold extS;split
 ·rename_i f;exact E.more (A:=[]) (Same.refl _) (Same.refl _) (λ_ h=>.inl h) (λ_ h=>h) (λ_ h=>(nomatch h)) (λ_ h=>(nomatch h)) List.nodup_nil (λ_ h=>(nomatch h)) (Is.deep d v f h)
 ·exact E.moreSh h
theorem xg (c:Cat) (s:Sl):newCat c s≠.sh:=by unfold newCat;split<;>intro z<;>cases z
theorem zg (h:H a=some o):upd H a o=H:=by
 funext b;by_cases e:b=a
 ·subst e;rw[ar,h]
 ·rw[au e]
theorem EnvOk.extend {i:Nat}:∀ {es:List D} {zs:List V} {O:Addr->Bool} {H:Hp} {Y:Ev} {c:Cat} {ds:List D},EnvOk K B O σ H Y->Y[i]?=some (some (c,.lst ds))->c≠.sh->IsL K (msk O H) es zs->
  ∃a xs,σ[i]?=some (some (.ref a))/\H a=some (.lst xs)/\ds.length=xs.length/\∃O',EnvOk K B O' σ (upd H a (.lst (xs++zs))) (Y.set i (some (extC c es,.lst (ds++es))))/\Same (msk O H) (msk O' (upd H a (.lst (xs++zs))))
 |[],zs,O,H,Y,c,ds,E,h,hc,l=>by
  have l':zs=[]:=l;subst l';obtain⟨a,xs,e1,e2,e3,_⟩:=E.ownAt h hc;refine⟨a,xs,e1,e2,e3,O,?_,?_⟩
  ·rw[List.append_nil,List.append_nil,zg e2];show EnvOk K B O σ H (Y.set i (some (c,.lst ds)));rw[show Y.set i (some (c,D.lst ds))=Y from by
    obtain⟨hi,e⟩:=List.getElem?_eq_some_iff.mp h;rw[<-e];exact List.set_getElem_self hi]
   exact E
  ·rw[List.append_nil,zg e2];exact Same.refl _
 |d::es,zs,O,H,Y,c,ds,E,h,hc,l=>by
  obtain⟨z,r,rfl,hz,l⟩:=l;obtain⟨a,xs,e1,e2,e3,O1,E1,s1⟩:=(E.moreS hz).change fP yT p8 h hc;have hi:=(List.getElem?_eq_some_iff.mp h).1;have h2:(Y.set i (some (newCat c (extS d),.lst (fP ds (extS d).2))))[i]?=some (some (newCat c (extS d),.lst (fP ds (extS d).2))):=by rw[List.getElem?_set_self hi]
  obtain⟨a',xs',f1,f2,f3,O2,E2,s2⟩:=EnvOk.extend E1 h2 (xg _ _) (IsL.mono s1 _ _ l);rw[e1]at f1;cases f1;rw[ar]at f2;cases f2;rw[Bq]at E2 s2;rw[List.set_set]at E2;have ed:(extS d).2=d:=by unfold extS;split<;>rfl
  rw[ed]at E2;unfold fP at E2 s1 s2;rw[List.append_assoc,List.append_assoc]at E2;rw[List.append_assoc]at s2;exact⟨a,xs,e1,e2,e3,O2,E2,s1.trans s2⟩
end
section
variable {X:Cx} {e:Expr} {pos:Pos}
def qh (i:Nat) (R:Vv->Option D):Ev->Option Out:=λY=>(iD Y i).bind λw=>(R (shv Y)).bind λd=>(fN d).bind λes=>if w.2.length+es.length<big then some (.nx (Y.set i (some (extC w.1 es,.lst (w.2++es)))))else none
theorem xh (i:Nat) (h:PP X e R) (hN:X.N[i]?=some x) (hv:Vis X.env.scope x) (hd:(x==("__debug__":Str))=false) (hcd:(x==("__classdict__":Str))=false) (hst:starEach [e] X.env=(false,eval e X.env)::starEach [] X.env) (hline:(apos.endLine==cpos.line)=true):PR X (.Expr (.Call (.Attribute (.Name x px) "extend" apos) [e] [] cpos) pos) (qh i R):=λB O Y=>
 (dj (jj PySem.F.plainAttrs_list PySem.F.slot_list_extend PySem.F.type_list_extend Cv (cF hN hv hd hcd) (bx (h O (shv Y)) pa_nil hst) rfl (by rw[hst];rfl) hline hst rfl)).imp λEn σ H ⟨E,o,q,k⟩=>by
 obtain⟨⟨c,ds⟩,q1,q⟩:=bind_some q;obtain⟨d,q2,q⟩:=bind_some q;obtain⟨es,q3,q⟩:=bind_some q;obtain⟨hz,q⟩:=ax q;subst q;obtain⟨h0,hc0⟩:=cO q1;obtain⟨a,xs0,e1,r3,_⟩:=E.ownAt h0 hc0;refine⟨.ref a,e1,.inl ⟨rfl,_,SqL.of r3⟩,E.viewS,d,q2,λv H1 s1 i1=>?_⟩;obtain⟨m,zs,rfl,t,l⟩:=dO q3 i1;obtain⟨a',xs,e2,r4,hl,O2,E2,s2⟩:=(E.grow s1).extend h0 hc0 l;rw[e1]at e2;cases e2;exact⟨a,m,xs,zs,rfl,rfl,r4,msk_le.seq t,by rw[<-hl,<-l.len,gb];exact Nat.le_of_lt hz,k σ _ O2 (s1.msk.trans s2) E2⟩
end
theorem slot_rt_next:Slot "reversed" "__next__" "reversed.__next__":=
 .of (owner:="reversed") (n:="__next__") (by rw[typeLookup_type,builtinLookup_eq_fast];kernel_rfl) (by decide+kernel) (by decide+kernel) (by decide+kernel)
  (by first|exact .inl (by decide+kernel)|exact .inr (by decide+kernel)) (by rw[isSubtype_type];kernel_rfl)
theorem iJ:entryFor table "reversed.__next__"=some Builtin.«reversed.__next__»:=entryFor_of_tree (by kernel_rfl)
theorem jv (a:Value):argsOk "reversed.__next__" ⟨[a],[]⟩:=by unfold argsOk;kernel_rfl
theorem jw:Slot "reversed" "__iter__" "reversed.__iter__":=
 .of (owner:="reversed") (n:="__iter__") (by rw[typeLookup_type,builtinLookup_eq_fast];kernel_rfl) (by decide+kernel) (by decide+kernel) (by decide+kernel)
  (by first|exact .inl (by decide+kernel)|exact .inr (by decide+kernel)) (by rw[isSubtype_type];kernel_rfl)
theorem qi (a:Value):argsOk "reversed.__iter__" ⟨[a],[]⟩:=by unfold argsOk;kernel_rfl
theorem nX:entryFor table "reversed.__iter__"=some Builtin.«dict_keyiterator.__iter__»:=
 entryFor_alias (id':="dict_keyiterator.__iter__") (by kernel_rfl) (by first|rfl|decide+kernel|(unfold String.splitOn;simp+decide [String.splitOnAux])) (by decide+kernel) (by kernel_rfl)
theorem qj:Slot "reversed" "__init__" "object.__init__":=
 .of (owner:="object") (n:="__init__") (by rw[typeLookup_type,builtinLookup_eq_fast];kernel_rfl) (by decide+kernel) (by decide+kernel) (by decide+kernel)
  (by first|exact .inl (by decide+kernel)|exact .inr (by decide+kernel)) (by rw[isSubtype_type];kernel_rfl)
theorem called_rt:TypeCalled "reversed" "reversed.__new__" "object.__init__":=
 ⟨by decide+kernel,by decide+kernel,⟨_,_,F.mro_reversed⟩,F.made_reversed,by decide+kernel,by rw[isSubtype_type];kernel_rfl,qj⟩
theorem xi:typeLookup (.type "tuple") "__reversed__"=pure none:=by rw[typeLookup_type,builtinLookup_eq_fast];kernel_rfl
theorem ub:isSubtype (.type "tuple") (.type "dict")=pure false:=by rw[isSubtype_type];kernel_rfl
def rtO (t:Addr) (i:Int):Obj:={cls:=.type "reversed",data:=.fields #[.ref t,rawInt i]}
def IsRT (h:Heap) (a t:Addr) (i:Int):Prop:=∃o,h.get? a=some o/\o.cls=.type "reversed"/\o.data=.fields #[.ref t,rawInt i]
section
variable {prog:Program} {w:World} {A:Around} {E:Value->Shared->Prop} {s:Shared}
theorem IsRT.typeIs (x:IsRT s.heap a t i):s.TypeIs (.ref a) "reversed":=let⟨o,ho,hc,_⟩:=x;⟨o,ho,hc⟩
theorem IsRT.at (x:IsRT h a t i) (e:∀o,h.get? a=some o->h'.get? a=some o):IsRT h' a t i:=let⟨o,ho,r⟩:=x;⟨o,e _ ho,r⟩
theorem Cw (ht:IsTup s.heap t items):s.TypeIs (.ref t) "tuple":=let⟨o,ho,hc,_⟩:=ht;⟨o,ho,hc⟩
theorem rM (ht:IsTup s.heap t items) (hz:items.size<=sizeLine) (h:∀tk,Q₁ (.ref s.heap.objs.size) {s with heap:=s.heap.push (rtO t ((items.size:Int)-1)),toks:=tk}):
  codeAny (model prog w) A (.call (.builtin "reversed.__new__") ⟨[.type "reversed",.ref t],[]⟩) (wants Q₁ E) s:=by
 refine codeAny_of_tree ?_
 refine wpAny_bind (wpAny_of_eq (F.newCall_reversed_1 _) (wpAny_pure ⟨plainId_quiet F.plain_reversed_new _,codeAny_builtin F.entry_reversed_new ?_⟩))
 refine wpAny_bind (wpAny_of_eq (newClass_reversed _) ?_)
 refine wpAny_bind (wpAny_of_eq (by first|rfl|kernel_rfl) ?_)
 refine wpAny_bind (wpAny_of_eq (by first|rfl|kernel_rfl) ?_)
 refine wpAny_bind (wpAny_specialOf (Cw ht) xi ?_)
 refine wpAny_bind ?_
 wp_delta
 refine wpAny_bind (wpAny_isInstance (Cw ht) ub ?_)
 refine wpAny_bind (wpAny_specialOf (Cw ht) slot_tuple_getitem.lookup ?_)
 refine wpAny_pure ?_
 refine wpAny_bind (len_tuple ht (by have:=gy;omega) ?_)
 refine wpAny_bind (wpAny_of_eq rfl ?_)
 refine wpAny_bind ?_
 show wpAny _ _ (newObj (.type "reversed") (.fields #[.ref t,rawInt ((items.size:Int)-1)])) _ _ _
 exact wpAny_newObj_type (wpAny_pure (h _))
theorem Cy (ht:IsTup s.heap t items) (hz:items.size<=sizeLine) (h:∀tk,Q (.ref s.heap.objs.size) {s with heap:=s.heap.push (rtO t ((items.size:Int)-1)),toks:=tk}):wpAny (model prog w) A (call (.type "reversed") [.ref t]) Q E s:=by
 refine callType_codes (Q₁:=λobj s₁=>s₁.TypeIs obj "reversed"/\Q obj s₁) called_rt (F.typeCall_reversed_1 _) F.entry_object_init
  (rM ht hz λtk=>⟨⟨_,Heap.get?_push_size _ rfl,rfl⟩,h tk⟩) λobj s₁ h₁=>?_
 exact⟨h₁.1,F.args_object_init_2 obj _,object_init_meets called_rt.init.lookup called_rt.made (by decide) prog w A.in1 _ s₁ ⟨h₁.1,rfl,h₁.2⟩⟩
theorem vA (hit:IsRT s.heap it t i) (h:Q (.ref it) s):wpAny (model prog w) A (pyIter (.ref it)) Q E s:=by
 refine wpAny_pyIter_slot hit.typeIs jw (wpAny_call_entry jw hit.typeIs nX ?_ (qi _));exact wpAny_pure ⟨_,rfl,"reversed",_,hit.typeIs,slot_rt_next.lookup,h⟩
theorem Cz {i:Nat} (hit:IsRT s.heap it t (i:Int)) (ht:IsTup s.heap t items) (hz:items.size<=sizeLine) (hx:items[i]?=some x) (hQ:∀h' tk,IsRT h' it t ((i:Int)-1)->Heap.SameBut it s.heap h'->Q (some x) {s with heap:=h',toks:=tk}):wpAny (model prog w) A (pyNext (.ref it)) Q E s:=by
 obtain⟨o,ho,hc,hd⟩:=id hit;have hi:=(Array.getElem?_eq_some_iff.mp hx).1;have h63:=gy;refine wpAny_bind (wpAny_attempt (wpAny_callSpecial?_slot hit.typeIs slot_rt_next
  (wpAny_call_entry slot_rt_next hit.typeIs iJ ?_ (jv _))))
 refine wpAny_bind (wpAny_of_eq rfl ?_);refine wpAny_bind (wpAny_field ho hd (x:=.ref t) rfl ?_);refine wpAny_bind (wpAny_field ho hd rfl ?_);refine wpAny_bind (wpAny_specialOf (Cw ht) slot_tuple_getitem.lookup ?_);refine wpAny_bind (wpAny_mkInt ?_);refine wpAny_bind (wpAny_attempt (getItem_tuple ht (by omega) (by omega) (by
  simp only[seqIndex?];rw[if_neg (show¬ ((i:Nat):Int)<0 by omega),if_pos (by rw[and_eq_true];exact⟨decide_eq_true (by omega),decide_eq_true (by omega)⟩)];rfl) hx ?_))
 refine wpAny_bind (wpAny_field ho hd rfl ?_);refine wpAny_bind (wpAny_setField ho hd (by simp) ?_);refine wpAny_pure ⟨x,rfl,wpAny_pure (hQ _ _ ?_ (Heap.SameBut.update ..))⟩;exact⟨_,Heap.get?_update_self _ ho (Obj.isFreed_of_fields (Obj.data_mapFields hd _)),(Obj.cls_mapFields ..).trans hc,by
  rw[Obj.data_mapFields hd];simp⟩
theorem FU (hh:A.handled=none) (hit:IsRT s.heap it t (-1)) (hQ:∀h',Heap.ExtBut it s.heap h'->Q none {s with heap:=h'}):wpAny (model prog w) A (pyNext (.ref it)) Q E s:=by
 obtain⟨o,ho,hc,hd⟩:=id hit
 refine wpAny_bind (wpAny_attempt (wpAny_callSpecial?_slot hit.typeIs slot_rt_next
  (wpAny_call_entry slot_rt_next hit.typeIs iJ ?_ (jv _))))
 refine wpAny_bind (wpAny_of_eq rfl ?_)
 refine wpAny_bind (wpAny_field ho hd (x:=.ref t) rfl ?_)
 refine wpAny_bind (wpAny_field ho hd rfl ?_)
 refine wpAny_bind (wpAny_rule ?_)
 refine wpAny_bind ?_
 wp_delta
 refine wpAny_bind (wpAny_setField ho hd (by simp) ?_)
 refine wpAny_setField (Heap.get?_update_self _ ho (Obj.isFreed_of_fields (Obj.data_mapFields hd _))) (Obj.data_mapFields hd _) (by simp) ?_
 obtain⟨H2,hH⟩:∃H2,H2=(s.heap.update it (Obj.mapFields λx=>x.setIfInBounds 1 (rawInt (-1)))).update it (Obj.mapFields λx=>x.setIfInBounds 0 Value.none):=⟨_,rfl⟩
 have hE:Heap.ExtBut it s.heap H2:=by
  rw[hH]
  exact(Heap.SameBut.update ..).extBut.trans (Heap.SameBut.update ..).extBut
 rw[<-hH]
 first
 |show wpAny _ _ (newExc (.type "StopIteration") []>>=_) _ _ _
 |(refine wpAny_bind ?_;show wpAny _ _ (newExc (.type "StopIteration") []>>=_) _ _ _)
 refine wpAny_bind ?_
 refine wpAny_bind (wpAny_newObj_type ?_ (by size_fits))
 refine wpAny_bind (wpAny_of_eq (by first|rfl|(simp only[firstArgMember];rfl)) ?_)
 refine wpAny_newObj_type ?_ (by size_fits)
 refine wpAny_bind (wpAny_handled ?_)
 first|rw[show A.in1.handled=none from hh]|rw[hh]
 refine wpAny_bind (wpAny_pure (wpAny_throw ?_))
 refine wpAny_bind (wpAny_isInstance ⟨_,Heap.get?_push_size _ rfl,rfl⟩ isSubtype_stop ?_)
 exact wpAny_pure (hQ _ ((hE.push _).push _))
def Itv (K:Frag) (a:Addr) (n:Nat):It:=
 ⟨λi H=>∃xs x,SqT K H a xs/\xs.length=n/\xs.reverse[i]?=some x,λi H x H'=>H'=H/\∀xs,SqT K H a xs->xs.reverse[i]?=some x,λi _=>n<=i⟩
theorem CA {P:Program} {w:World} {K:Frag} {tg:Expr} (a it:Addr) (n:Nat):Turn P w K tg (Itv K a n) [it] it (λi h=>IsRT h it a ((n:Int)-1-(min i n:Nat))) where
 mem:=by simp
 obj:=λi h st b hb=>by
  have e:b=it:=by simpa using hb
  subst e;obtain⟨o,e,c,d⟩:=st;exact⟨o,e,λv z=>by rw[d]at z;cases z⟩
 keep:=λi h h' st k=>st.at λo e=>k it (by simp) o e
 item:=by
  intro X hP hw hK hc i pins s σ H E I hf st hg;subst hP hw hK;obtain⟨xs,x,hq,hn,hx⟩:=hg;subst hn;obtain⟨its,rv,p,hz⟩:=I.tuple hq;have hi:i<xs.length:=by
   have:=(List.getElem?_eq_some_iff.mp hx).1;rwa [List.length_reverse]at this
  have hl:=rv.length;rw[List.getElem?_reverse hi]at hx;obtain⟨u,hu,ru⟩:=rv.get hx;obtain⟨f0,f1,f2,f3,f4,f5⟩:=hf it (by simp);have ei:((xs.length:Nat):Int)-1-((min i xs.length:Nat):Int)=((xs.length-1-i:Nat):Int):=by omega
  have st:=ei▸st;refine Cz st p (by rw[size_toArray];omega) (by simpa using hu) λh' tk st' sb=>?_;have I1:Inv X pins σ H {s with heap:=h',toks:=tk}:=I.turned (λb o hb e=>(sb.2 b hb).trans e) f0 f1 f3 f4 f5;obtain⟨o,e,c,d⟩:=id st';refine⟨u,rfl,u5 e c d (by decide) ⟨x,H,I1,ru,⟨rfl,λys hy=>by rw[I.tuple_inj hy hq,List.getElem?_reverse hi];exact hx⟩,?_,λb hb=>(hf b hb).1⟩⟩;have ej:((xs.length-1-i:Nat):Int)-1=((xs.length:Nat):Int)-1-((min (i+1) xs.length:Nat):Int):=by omega
  exact ej▸st'
 done:=by
  intro X hP hw hK hc i pins s σ H E I hf st hg;have hg:n<=i:=hg;obtain⟨f0,f1,f2,f3,f4,f5⟩:=hf it (by simp);have ei:((n:Nat):Int)-1-((min i n:Nat):Int)= -1:=by omega
  exact FU (I.ok.hd hc) (ei▸st) λh' eb=>⟨rfl,I.turned (λb o hb e=>eb b o hb e) f0 f1 f3 f4 f5⟩
 self:=λ_ _ _ _ _ st h=>vA st h
theorem CB {K} (q:SqT K Hm a xs) (il:IsL K Hm ds xs):kX K Hm (Itv K a xs.length) ds.reverse:=λi H O s hd=>by
 have q':=(s.trans msk_le).seqT q;have ir:=il.rev;refine⟨λd hi=>?_,λhi=>?_⟩
 ·obtain⟨x,hx,ix⟩:=ir.get hi;refine⟨⟨xs,x,q',rfl,hx⟩,λy H3 ⟨e,hy⟩=>?_⟩;subst e;have:=hy xs q';rw[hx]at this;cases this;exact⟨Same.refl _,Is.mono s d x ix⟩
 ·show xs.length<=i;rw[<-il.len,<-List.length_reverse];exact hi
end
section
variable {X:Cx} {tg a:Expr} {p pos:Pos}
def iRt (K:Frag) (ta:TA):TI:=λσ H R=>ta σ H λvs H1=>∃t xs,vs=[.ref t]/\SqT K H1 t xs/\R (Itv K t xs.length) H1
theorem Jk (hg:Gl X "reversed") (hm:X.mg "reversed"=none) (ha:PA X [a] ta) (hs:starEach [a] X.env=[(false,eval a X.env)]):PI X tg (.Call (.Name "reversed" p) [a] [] pos) (iRt X.K ta):=by
 intro pins s σ H R I h;refine wpAny_Call_Name_kw (cU I hg hm zf (PyProof.Rows.callWith_type1 (thn (ha pos pins s σ H _ I h) λus s1 ⟨vs,H1,I1,r1,q1⟩=>?_) (by rw[hs];rfl) rfl));obtain⟨t,xs,rfl,hx,q⟩:=q1;obtain⟨u,rfl,ru⟩:=fK r1;cases ru;obtain⟨its,rv,pl,hz⟩:=I1.tuple hx;have hl:=rv.length;refine Cy pl (by rw[size_toArray];omega) λtk=>?_;have J:IsRT (s1.heap.push (rtO t ((its.toArray.size:Int)-1))) s1.heap.objs.size t ((its.toArray.size:Int)-1):=⟨_,Heap.get?_push_size _ rfl,rfl,rfl⟩;refine vA J ?_;refine⟨s1.heap.objs.size,[s1.heap.objs.size],_,_,H1,rfl,I1.kept λb o e=>Heap.get?_push_of_some _ e,CA t _ xs.length,?_,λb hb=>?_,q⟩
 ·have e:((xs.length:Nat):Int)-1-((min 0 xs.length:Nat):Int)=(its.toArray.size:Int)-1:=by rw[size_toArray,<-hl];omega
  rw[e];exact J
 ·have e:b=s1.heap.objs.size:=by simpa using hb
  subst e;exact I1.fpOk (le_refl _) (I1.hok.fresh (le_refl _))
def rvT:List D->Option (List D):=un1 λd=>(Fh d).bind λds=>some ds.reverse
theorem Jl (hg:Gl X "reversed") (hm:X.mg "reversed"=none) (ha:PX X [a] fa) (hs:starEach [a] X.env=[(false,eval a X.env)]):PJ X tg (.Call (.Name "reversed" p) [a] [] pos) (λY=>(fa Y).bind rvT):=
 λO Y=>(Jk hg hm (ha O Y) hs).imp λσ H R ⟨E,ds,q,k⟩=>by
 obtain⟨as,e1,q⟩:=bind_some q
 refine⟨E,as,e1,λvs H1 s1 il=>?_⟩
 obtain⟨c,rfl,q1⟩:=bw q
 obtain⟨es,q2,q3⟩:=bind_some q1
 cases q3
 obtain⟨v,rfl,iv⟩:=is1 il
 cases c with
 |tup fs=>
  cases q2;obtain⟨t,xs,rfl,h2,l2⟩:=iv;exact⟨t,xs,rfl,msk_le.seqT h2,k _ H1 s1 (CB h2 l2)⟩
 |_=>cases q2
end
open PySem.AutoSeq1 (wpAny_loadPart')
section
variable {prog:Program} {w:World} {A:Around} {E:Value->Shared->Prop} {s:Shared}
theorem rN (hh:A.handled=none) (J:s.heap.IsRevIter j l ((xs.size:Int)-1)) (C:s.heap.IsList l xs) (ne:l≠j) (hn:xs.size<=sizeLine) (hQ:∀ (g:Heap) tk acc,(∀d o,d≠j->s.heap.get? d=some o->g.get? d=some o)->s.heap.objs.size<=g.objs.size->ItemsOf (λi v=>xs[xs.size-1-i]?=some v) acc xs.size->Q acc.toList {s with heap:=g,toks:=tk}):wpAny (model prog w) A (collect (.ref j)) Q E s:=by
 have jl:j<s.heap.objs.size:=by obtain⟨o,e,_⟩:=J;exact Heap.lt_size e
 have ll:l<s.heap.objs.size:=by obtain⟨o,e,_⟩:=C;exact Heap.lt_size e
 have up:∀d o,s.heap.get? d=some o->(s.heap.push {cls:=.type "list",data:=.seq ([]:List Value).toArray}).get? d=some o:=λd o e=>Heap.get?_push_of_some _ e;have key:∀R:Result->Shared->Prop,(∀g tk acc c,(∀d o,d≠s.heap.objs.size->d≠j->(s.heap.push {cls:=.type "list",data:=.seq ([]:List Value).toArray}).get? d=some o->g.get? d=some o)->g.get? s.heap.objs.size=some {cls:=.type "list",dict:=none,data:=.seq acc c,slots:=#[]}->
   ItemsOf (λi v=>xs[xs.size-1-i]?=some v) acc xs.size->R (.ok (.ret _)) {s with heap:=g,toks:=tk})->codeAny (model prog w) A (.builtin "proto.collect" ⟨[.ref j],[]⟩) R s:=λR hR=>by
  refine codeAny_builtin F.entry_proto_collect ?_
  refine wpAny_bind (wpAny_newObj_type ?_)
  refine wpAny_pure ⟨plainId_quiet F.plain_list_iadd _,codeAny_builtin F.entry_list_iadd ?_⟩
  exact vz hh (J.at λo e=>up _ o e) (C.at λo e=>up _ o e) ne (Heap.get?_push_size s.heap rfl) (Nat.ne_of_gt jl) (Nat.ne_of_gt ll) hn λg tk acc c k hg hi=>hR g tk acc c k hg hi
 refine wpAny_bind (wpAny_runValue (key _ λg tk acc c k hg hi=>?_));refine wpAny_bind (wpAny_load hg ?_);exact wpAny_pure (hQ g tk acc (λd o n e=>k d o (Nat.ne_of_lt (Heap.lt_size e)) n (up d o e)) (Nat.le_of_lt (Heap.lt_size hg)) hi)
theorem xj (hh:A.handled=none) (J:s.heap.IsRevIter j l ((xs.size:Int)-1)) (C:s.heap.IsList l xs) (ne:l≠j) (hn:xs.size<=sizeLine) (hQ:∀ (g:Heap) tk acc,(∀d o,d≠j->s.heap.get? d=some o->g.get? d=some o)->s.heap.objs.size<=g.objs.size->ItemsOf (λi v=>xs[xs.size-1-i]?=some v) acc xs.size->Q (.ref g.objs.size) {s with heap:=g.push {cls:=.type "tuple",data:=.seq acc},toks:=tk}):
  wpAny (model prog w) A (call (.type "tuple") [.ref j]) Q E s:=by
 refine callType_codes (Q₁:=λobj s₁=>s₁.TypeIs obj "tuple"/\Q obj s₁) F.called_tuple (F.typeCall_tuple_1 _) F.entry_object_init ?_ λobj s₁ h₁=>?_
 ·refine codeAny_of_tree ?_;show wpAny _ A.in1.in1 (do checkBuiltinCall "tuple.__new__" ⟨[.type "tuple",.ref j],[]⟩;again (.builtin "tuple.__new__" ⟨[.type "tuple",.ref j],[]⟩)) _ _ s;refine wpAny_bind (wpAny_of_eq (F.newCall_tuple_1 _) (wpAny_pure ⟨plainId_quiet F.plain_tuple_new _,codeAny_builtin F.entry_tuple_new ?_⟩));rw[Around.under_plainId F.plain_tuple_new _];have hsub:=sub_tuple_self;have hinit:=init_tuple_lookup;have hmh:=madeHere_tuple;have hTI:=J.typeIs;have cr:∀ {Q:List Value->Shared->Prop} {E:Value->Shared->Prop},(∀ (g:Heap) tk acc,(∀d o,d≠j->s.heap.get? d=some o->g.get? d=some o)->s.heap.objs.size<=g.objs.size->ItemsOf (λi v=>xs[xs.size-1-i]?=some v) acc xs.size->Q acc.toList {s with heap:=g,toks:=tk})->wpAny (model prog w) A.in1.in1 (collect (.ref j)) Q E s:=λhq=>rN (A:=A.in1.in1) hh J C ne hn hq;wp_walk using wpAny_typeOf hTI,cr;intro g tk acc k hle hacc;show wpAny _ _ (Builtin.Tuple.tupleExact acc.toList.toArray>>=λv=>ret v) _ _ _;unfold Builtin.Tuple.tupleExact;refine wpAny_bind (wpAny_newObj_type ?_ (by show acc.toList.toArray.size<=sizeLine;simp only[Array.toArray_toList];rw[hacc.1];exact hn));refine wpAny_pure ?_;have e:acc.toList.toArray=acc:=by simp
  rw[e];exact⟨⟨_,Heap.get?_push_size _ rfl,rfl⟩,hQ g tk acc k hle hacc⟩
 ·exact⟨h₁.1,F.args_object_init_2 obj _,object_init_meets F.called_tuple.init.lookup F.called_tuple.made (by decide) prog w A.in1 _ s₁ ⟨h₁.1,rfl,h₁.2⟩⟩
end
section
variable {X:Cx} {a:Expr} {p p2 pos pos2:Pos}
def LF (K:Frag) (ta:TA):TE:=λσ H Q=>ta σ H λvs H1=>∃l xs,vs=[.ref l]/\SqL K H1 l xs/\∀q,H1 q=none->Q (.ref q) (upd H1 q (.tup xs.reverse))
theorem Jm:bootBuiltins "tuple"=some (.type "tuple"):=by decide+kernel
theorem FV (hc:X.calm=true) (hg:Gl X "tuple") (hm:X.mg "tuple"=none) (hg2:Gl X "reversed") (hm2:X.mg "reversed"=none) (ha:PA X [a] ta) (hs:starEach [a] X.env=[(false,eval a X.env)]):
  PE X (.Call (.Name "tuple" p) [.Call (.Name "reversed" p2) [a] [] pos2] [] pos) (LF X.K ta):=by
 intro pins s σ H Q I h
 refine wpAny_Call_Name_kw (cU I hg hm Jm (PyProof.Rows.callWith_type1 ?_ rfl rfl))
 show wpAny _ _ (spliced ((false,eval (.Call (.Name "reversed" p2) [a] [] pos2) X.env)::[])) _ _ s
 refine Calls.spliced_cons ?_
 refine wpAny_Call_Name_kw (cU I hg2 hm2 zf (PyProof.Rows.callWith_type1 (thn (ha pos2 pins s σ H _ I h) λus s1 ⟨vs,H1,I1,r1,q1⟩=>?_) (by rw[hs];rfl) rfl))
 obtain⟨l,xs,rfl,hx,q⟩:=q1
 obtain⟨u,rfl,ru⟩:=fK r1
 cases ru
 obtain⟨its,rv,pl,hz⟩:=I1.list hx
 have C:=pl.isList
 have ll:l<s1.heap.objs.size:=by obtain⟨o,e,_⟩:=C;exact Heap.lt_size e
 refine call_reversed_list C (Calls.spliced_nil ?_)
 have up:∀d o,s1.heap.get? d=some o->(s1.heap.push (revObj l ((its.toArray.size:Int)-1))).get? d=some o:=λd o e=>Heap.get?_push_of_some _ e
 have I2:Inv X pins σ H1 {s1 with heap:=s1.heap.push (revObj l ((its.toArray.size:Int)-1))}:=I1.kept up
 have hl:=rv.length
 refine xj (I1.ok.hd hc) ⟨_,Heap.get?_push_size _ rfl,rfl,rfl⟩ (C.at λo e=>up _ o e) (Nat.ne_of_lt ll) (by rw[size_toArray];omega) λg tk acc k hsz hi=>?_
 have e:=oW hi
 have e2:acc=its.reverse.toArray:=by
  apply Array.toList_inj.mp;rw[e]
 have fr:=I2.hok.fresh hsz
 refine⟨.ref _,_,I2.turnedNew (ch:=[s1.heap.objs.size]) (λb hb=>?_) (λb o hb e=>Heap.get?_push_of_some _ (k b o (by simpa using hb) e)) hsz ?_,rfl,q _ fr⟩
 ·rw[mem_singleton.mp hb];exact I1.fpOk (le_refl _) (I1.hok.fresh (le_refl _))
 ·rw[e2];exact⟨by rw[List.length_reverse];exact hz,its.reverse,rv.reverse,IsTup.new _ _⟩
def FW:List D->Option D:=un1 λd=>(fN d).bind λds=>some (.tup ds.reverse)
theorem FX (hc:X.calm=true) (hg:Gl X "tuple") (hm:X.mg "tuple"=none) (hg2:Gl X "reversed") (hm2:X.mg "reversed"=none) (ha:PX X [a] fa) (hs:starEach [a] X.env=[(false,eval a X.env)]):
  PP X (.Call (.Name "tuple" p) [.Call (.Name "reversed" p2) [a] [] pos2] [] pos) (λY=>(fa Y).bind FW):=λO Y=>(FV hc hg hm hg2 hm2 (ha O Y) hs).imp λσ H Q ⟨E,d,q,k⟩=>by
 obtain⟨as,e1,q⟩:=bind_some q
 refine⟨E,as,e1,λvs H1 s1 il=>?_⟩
 obtain⟨c,rfl,q2⟩:=bw q
 obtain⟨xs,q3,q4⟩:=bind_some q2
 cases q4
 obtain⟨v,rfl,h⟩:=is1 il
 obtain⟨l,ys,rfl,t,l2⟩:=dO q3 h
 refine⟨l,ys,rfl,msk_le.seq t,λb hb=>?_⟩
 have hO:=(E.grow s1).fresh hb
 have le:Same (msk O H1) (msk O (upd H1 b (.tup ys.reverse))):=by rw[lS hO];exact Same.new (by rw[aS hO];exact hb)
 exact k _ _ (s1.trans (Same.new hb)) ⟨b,ys.reverse,rfl,.of (by rw[aS hO,ar]),IsL.mono le _ _ l2.rev⟩
end
def shO:Option Sl->Option Sl
 |some (_,d)=>some (.sh,d)
 |none=>none
def frz1 (i:Nat) (Y:Ev):Ev:=match Y[i]? with
 |some x=>Y.set i (shO x)
 |none=>Y
def frzS:List Nat->Ev->Ev
 |[],Y=>Y
 |i::is,Y=>frzS is (frz1 i Y)
section
variable {K:Frag} {B:Bs} {O:Addr->Bool} {σ:St} {H:Hp} {Y:Ev}
theorem EnvOk.frz1 (E:EnvOk K B O σ H Y) (i:Nat):∃O',EnvOk K B O' σ H (frz1 i Y)/\Same (msk O H) (msk O' H):=by
 unfold L2.frz1;cases hx:Y[i]? with
 |none=>exact⟨O,E,Same.refl _⟩
 |some x=>
  obtain⟨F,h1,h2,h3,h4⟩:=E.fp;have le:Same (msk O H) (msk (λb=>O b&&!decide (b∈F i)) H):=λb o q=>by
   obtain⟨q1,q2⟩:=bv q;rw[aS (by simp[q1])];exact q2
  refine⟨λb=>O b&&!decide _,⟨E.same,E.bdom,λb hb=>?_,λb hb=>E.lis b (by simp at hb;exact hb.1),by rw[List.length_set];exact E.len,λj=>if j=i then[]else F j,λj s q=>?_,λj=>?_,λj k a hj hk=>?_,λj a hj=>?_⟩,le⟩
  ·have n:b ∉ F i:=λz=>E.bdom b hb (h4 i b z).2;simp[E.sub b hb,n]
  ·rcases get_set_some q with⟨e,q'⟩|⟨e,q'⟩
   ·subst e;cases x with
    |none=>cases q'
    |some z=>
     cases q';obtain⟨v,e1,o1⟩:=h1 j _ hx;refine⟨v,e1,?_⟩;simp only[if_true];exact⟨rfl,o1.is le λa ha=>by simp[ha]⟩
   ·obtain⟨v,e1,o1⟩:=h1 j s q';refine⟨v,e1,?_⟩;simp only[if_neg e];exact o1.frame le λ_ _ _ z=>z
  ·dsimp only;split
   ·exact List.nodup_nil
   ·exact h2 _
  ·by_cases e:j=i
   ·simp[e]at hj
   ·by_cases e2:k=i
    ·simp[e2]at hk
    ·simp only[if_neg e]at hj;simp only[if_neg e2]at hk;exact h3 j k a hj hk
  ·by_cases e:j=i
   ·simp[e]at hj
   ·simp only[if_neg e]at hj;obtain⟨o1,o2⟩:=h4 j a hj;have n:a ∉ F i:=λz=>e (h3 j i a hj z);exact⟨by simp[o1,n],o2⟩
theorem EnvOk.frzS:∀ (is:List Nat) {O:Addr->Bool} {Y:Ev},EnvOk K B O σ H Y->∃O',EnvOk K B O' σ H (frzS is Y)/\Same (msk O H) (msk O' H)
 |[],O,Y,E=>⟨O,E,Same.refl _⟩
 |i::is,O,Y,E=>by
  obtain⟨O1,E1,s1⟩:=E.frz1 i;obtain⟨O2,E2,s2⟩:=EnvOk.frzS is E1;exact⟨O2,E2,s1.trans s2⟩
end
theorem zh (is:List Nat) (h:PEv X e g):PEv X e (λY=>g (frzS is Y)):=λB O Y=>(PU.ex λO'=>h B O' _).imp λσ H Q ⟨E,s,Y',q,k⟩=>by
 obtain⟨O',E',le⟩:=E.frzS is;exact⟨O',E',s,Y',q,λv H' O2 s2 E2=>k v H' O2 (le.trans s2) E2⟩
def lsX (f:{α:Type}->List α->α->List α):Prop:=∀ {K:Frag} {M H:Hp} {ds:List D} {xs:List V} {A:List Addr} {d:D} {v:V},DeepL K M H ds xs A->Deep K M H d v []->DeepL K M H (f ds d) (f xs v) A
theorem uc:lsX fP:=λ{K M H ds xs A d v} h q=>by
 have:=DeepL.snoc q h;rw[List.append_nil]at this;exact this
theorem DeepL.sub {K} (f:{α:Type}->List α->α->List α) (hf:lsX f) (lf:lfD d=true) (hi:Is K M d v):∀ {ds:List D} {xs:List V} {A:List Addr} {j:Nat},DeepL K M H ds xs A->A.Nodup->ds[j]?=some (.lst ds2)->
  ∃a ys,xs[j]?=some (.ref a)/\a∈A/\H a=some (.lst ys)/\ds2.length=ys.length/\DeepL K M (upd H a (.lst (f ys v))) (ds.set j (.lst (f ds2 d))) xs A
 |[],xs,A,j,h,nd,e=>by simp at e
 |d0::ds,xs,A,0,⟨x,r,A1,A2,e1,e2,h1,h2⟩,nd,e=>by
  simp at e;subst e;obtain⟨a,ys,A',z1,z2,z3,l⟩:=h1;subst z1 e1 e2 z3;have n1:a ∉ A'/\a ∉ A2:=by
   have:=(List.nodup_cons.mp (show(a::(A'++A2)).Nodup from nd)).1;simp at this;exact this
  have fr:∀ (L:List Addr),a ∉ L->∀b∈L,∀o,H b=some o->upd H a (.lst (f ys v)) b=some o:=λL n b hb o q=>by rw[au (show b≠a fromλz=>n (z▸hb))];exact q
  refine⟨a,ys,rfl,by simp,z2,DeepL.len l,_,_,a::A',A2,rfl,rfl,⟨a,f ys v,A',rfl,ar,rfl,?_⟩,DeepL.frame (NL.of (Same.refl _)) _ _ _ (fr A2 n1.2) h2⟩;exact hf (DeepL.frame (NL.of (Same.refl _)) _ _ _ (fr A' n1.1) l) (Is.deep d v lf hi)
 |d0::ds,xs,A,j+1,⟨x,r,A1,A2,e1,e2,h1,h2⟩,nd,e=>by
  subst e1 e2;obtain⟨n1,n2,n3⟩:=List.nodup_append.mp nd;obtain⟨a,ys,f1,f2,f3,f4,f5⟩:=DeepL.sub f hf lf hi h2 n2 (show ds[j]?=some (.lst ds2)by simpa using e);have na:a ∉ A1:=λz=>n3 a z a f2 rfl;refine⟨a,ys,by simpa using f1,mem_append_right _ f2,f3,f4,x,r,A1,A2,rfl,rfl,Deep.frame (NL.of (Same.refl _)) _ _ _ (λb hb o q=>?_) h1,f5⟩;rw[au (show b≠a fromλz=>na (z▸hb))];exact q
section
variable {K:Frag} {B:Bs} {O:Addr->Bool} {σ:St} {H:Hp} {Y:Ev}
theorem EnvOk.changeIn (E:EnvOk K B O σ H Y) (f:{α:Type}->List α->α->List α) (hf:lsX f) {i j:Nat} (h:Y[i]?=some (some (.deep,.lst ds))) (hj:ds[j]?=some (.lst ds2)) (lf:lfD d=true) (hi:Is K (msk O H) d v):
  ∃a xs a2 ys,σ[i]?=some (some (.ref a))/\H a=some (.lst xs)/\ds.length=xs.length/\xs[j]?=some (.ref a2)/\H a2=some (.lst ys)/\ds2.length=ys.length/\
   EnvOk K B O σ (upd H a2 (.lst (f ys v))) (Y.set i (some (.deep,.lst (ds.set j (.lst (f ds2 d))))))/\Same (msk O H) (msk O (upd H a2 (.lst (f ys v)))):=by
 obtain⟨F,h1,h2,h3,h4⟩:=E.fp
 obtain⟨v0,e0,o0⟩:=h1 i _ h
 obtain⟨a,xs,A',z1,z2,z3,l⟩:=o0
 subst z1
 have nd:=h2 i
 rw[z3]at nd
 obtain⟨nA,ndA⟩:=List.nodup_cons.mp nd
 obtain⟨a2,ys,f1,f2,f3,f4,f5⟩:=DeepL.sub f hf lf hi l ndA hj
 have ha2:a2∈F i:=by rw[z3];exact mem_cons_of_mem _ f2
 obtain⟨o2,b2⟩:=h4 i a2 ha2
 have me:msk O (upd H a2 (.lst (f ys v)))=msk O H:=f9 o2
 have le:Same (msk O H) (msk O (upd H a2 (.lst (f ys v)))):=by rw[me];exact Same.refl _
 have ne:a≠a2:=λz=>nA (z▸f2)
 refine⟨a,xs,a2,ys,e0,z2,DeepL.len l,f1,f3,f4,⟨λb o q=>?_,E.bdom,E.sub,λb hb=>?_,by rw[List.length_set];exact E.len,F,λk s q=>?_,h2,h3,h4⟩,le⟩
 ·rw[au (aH q b2)];exact E.same b o q
 ·by_cases e:b=a2
  ·subst e;exact .inl ⟨_,ar⟩
  ·rw[au e];exact E.lis b hb
 ·rcases get_set_some q with⟨e,q'⟩|⟨e,q'⟩
  ·cases q';subst e;refine⟨.ref a,e0,a,xs,A',rfl,by rw[au ne];exact z2,z3,?_⟩;rw[me];exact f5
  ·obtain⟨w,e1,o1⟩:=h1 k s q';refine⟨w,e1,o1.frame le λb hb o z=>?_⟩;have:b≠a2:=λz2=>e (h3 k i a2 (z2▸hb) ha2);rw[au this];exact z
end
section
variable {X:Cx} {e:Expr} {pos:Pos}
def vB (Y:Ev) (i:Nat):Option (List D):=(iD Y i).bind λw=>if w.1=.deep then some w.2 else none
def qk (i:Nat) (fk:Vv->Option D) (R:Vv->Option D):Ev->Option Out:=λY=>(vB Y i).bind λds=>(fk (vw Y)).bind λy=>(gH y).bind λk=>(ixN ds.length k).bind λj=>(ds[j]?).bind λz=>(fN z).bind λds2=>
 (lfO (R (shv Y))).bind λd=>if ds2.length+1<big then some (.nx (Y.set i (some (.deep,.lst (ds.set j (.lst (ds2++[d])))))))else none
theorem lstD_some (h:fN d=some ds):d=.lst ds:=by
 cases d<;>first|(cases h;rfl)|cases h
theorem zi (i:Nat) (hk:PP X ik fk) (h:PP X e R) (hN:X.N[i]?=some x) (hv:Vis X.env.scope x) (hd:(x==("__debug__":Str))=false) (hcd:(x==("__classdict__":Str))=false) (hix:dN ik) (hst:starEach [e] X.env=(false,eval e X.env)::starEach [] X.env) (hline:(apos.endLine==cpos.line)=true):
  PR X (.Expr (.Call (.Attribute (.Subscript (.Name x px) ik spos) "append" apos) [e] [] cpos) pos) (qk i fk R):=λB O Y=>
 (dj (jj PySem.F.plainAttrs_list PySem.F.slot_list_append PySem.F.type_list_append ig (oI ix_list (cF hN hv hd hcd) (hk noO (vw Y)) hix) (bx (h O _) pa_nil hst) rfl (by rw[hst];rfl) hline hst rfl)).imp λEn σ H ⟨E,o,q,k⟩=>by
 obtain⟨ds,q1,q⟩:=bind_some q
 obtain⟨y,q2,q⟩:=bind_some q
 obtain⟨n,q3,q⟩:=bind_some q
 obtain⟨j,q4,q⟩:=bind_some q
 obtain⟨z,q5,q⟩:=bind_some q
 obtain⟨ds2,q6,q⟩:=bind_some q
 obtain⟨d,q7,q⟩:=bind_some q
 obtain⟨hz,q⟩:=ax q
 subst q
 obtain⟨⟨c,ds'⟩,p1,p2⟩:=bind_some q1
 obtain⟨p3,p4⟩:=ax p2
 subst p3 p4
 obtain⟨h0,hc0⟩:=cO p1
 cases intD_some q3
 cases lstD_some q6
 obtain⟨d',p5,p6⟩:=bind_some q7
 obtain⟨lf,p7⟩:=ax p6
 subst p7
 obtain⟨a,xs0,e1,r3,hl0,oa,_⟩:=E.ownAt h0 hc0
 refine⟨.ref a,e1,E.view,_,q2,λyv H1 s1 iy=>?_⟩
 cases(iy)
 have E1:=E.grow s1
 obtain⟨a',xs,a2,ys,g1,g2,g3,g4,g5,g6,_⟩:=E1.changeIn fP uc (d:=.non) h0 q5 rfl rfl
 rw[e1]at g1
 cases g1
 refine⟨a,xs,n,.ref a2,rfl,rfl,SqL.of g2,?_,.inl ⟨rfl,_,SqL.of g5⟩,E1.viewS,d',p5,λv H2 s2 iv=>?_⟩
 ·unfold atI;rw[<-g3,q4];exact g4
 obtain⟨b',zs,b2,ws,k1,k2,k3,k4,k5,k6,k7,k8⟩:=(E1.grow s2).changeIn fP uc h0 q5 lf iv;rw[e1]at k1;cases k1;have w1:=s2 _ _ g2;rw[w1]at k2;cases k2;rw[g4]at k4;cases k4;exact⟨a2,ws,v,rfl,rfl,k5,by rw[gb,<-k6];exact Nat.lt_of_succ_lt hz,k σ _ O (s1.msk.trans (s2.msk.trans k8)) k7⟩
end
theorem FY:PFr X (.Dict [] [] pos) (λ_=>some (.dct [] [])):=λY=>PE.pu (pe_dnewK.imp λσ H Q ⟨E,d,q,k⟩=>by
 cases q;exactλp hp=>k _ _ [p] (Same.new hp) ⟨p,[],[],rfl,ar,rfl,rfl,rfl,rfl⟩ (by simp) λa ha=>by rw[mem_singleton.mp ha];exact hp) rfl
def Jn (Y:Ev) (i:Nat):Option (List Key×List D):=(jt Y i).bind λs=>match s with
 |(.deep,.dct ks ds)=>some (ks,ds)
 |_=>none
theorem xk (h:Jn Y i=some w):Y[i]?=some (some (.deep,.dct w.1 w.2)):=by
 obtain⟨⟨c,d⟩,h1,h2⟩:=bind_some h;have h2':(match(c,d)with|(.deep,.dct ks ds)=>some _|_=>none)=some w:=h2;split at h2'
 ·rename_i ks ds e;cases h2';cases e;exact cM h1
 ·cases h2'
section
variable {K:Frag} {B:Bs} {O:Addr->Bool} {σ:St} {H:Hp} {Y:Ev}
theorem EnvOk.dctAt (E:EnvOk K B O σ H Y) {i:Nat} (h:Y[i]?=some (some (.deep,.dct ks ds))):∃a kvs,σ[i]?=some (some (.ref a))/\H a=some (.dK kvs)/\kvs.map (·.1)=ks/\O a=true/\B.H a=none:=by
 obtain⟨F,h1,h2,h3,h4⟩:=E.fp;obtain⟨v,e,a,kvs,A',z1,z2,z3,z4,l⟩:=h1 i _ h;exact⟨a,kvs,by rw[e,z1],z2,z3,h4 i a (by rw[z4];exact mem_cons_self)⟩
end
section
variable {X:Cx} {e:Expr} {pos:Pos}
end
section
variable {X:Cx} {a:Expr} {p pos:Pos}
theorem zj:bootBuiltins "sorted"=some (.builtin "sorted"):=by decide+kernel
def gx (ns:List Int):List Int:=ns.mergeSort (λa b=>decide (a<=b))
theorem ud (h1:ms.Perm ns) (h2:ms.Pairwise (·<=·)):ms=gx ns:=by
 refine List.Perm.eq_of_pairwise (λa b _ _ h h'=>Int.le_antisymm h h') h2 ?_ (h1.trans (List.mergeSort_perm _ _).symm);have:=List.pairwise_mergeSort (le:=λa b:Int=>decide (a<=b)) (λa b c h1 h2=>decide_eq_true (Int.le_trans (of_decide_eq_true h1) (of_decide_eq_true h2))) (λa b=>by simp;omega) ns;exact this.imp λh=>of_decide_eq_true h
theorem DV:∀ {ns:List Int} {us:List Value},Vals (ns.map V.int) us->IntsAre us ns
 |[],_,.nil=>.nil
 |n::ns,_,.cons ⟨t,e⟩ r=>by subst e;exact .cons n t (DV r)
theorem j7:∀ {us:List Value} {ns:List Int},IntsAre us ns->Vals (ns.map V.int) us
 |_,_,.nil=>.nil
 |_,_,.cons n t r=>.cons ⟨t,rfl⟩ (j7 r)
def Jo (K:Frag):List V->Hp->VK->Prop:=λvs H Q=>∃l ns,vs=[.ref l]/\SqL K H l (ns.map V.int)/\ns.length<64/\∀q,H q=none->Q (.ref q) (upd H q (.lst ((gx ns).map V.int)))
theorem xl:dM X (.builtin "sorted") (Jo X.K):=by
 intro pins s σ H xs us Q I r h;obtain⟨l,ns,rfl,hx,h64,q⟩:=h;obtain⟨u,rfl,ru⟩:=fK r;cases ru;obtain⟨its,rv,pl,hz⟩:=I.list hx;have hl:=rv.length;rw[length_map]at hl;refine PyProof.Rows.sorted_ints pl.isList (DV rv) (by omega) λout ms h1 h2 h3=>?_;obtain⟨e,he⟩:=sortedAll_at s.heap its out;have z:=ud h2 h3;subst z;have fr:=I.hok.fresh (Nat.le_succ _);refine⟨.ref _,_,I.laid (λb o q=>sortedAll_old q) (Nat.le_succ _) (o:=.lst _) ⟨?_,out.toList,e,j7 h1,by simpa using he⟩,rfl,q _ fr⟩;rw[length_map,h2.length_eq];have:(64:Nat)<=sizeLine:=by decide
 omega
def vC:List D->Option (List D):=un1 λd=>(fN d).bind λds=>(dZ ds).bind λns=>if ns.length<64 then some ((gx ns).map D.int)else none
theorem jx {K}:∀ (ns:List Int),IsL K H (ns.map D.int) (ns.map V.int)
 |[]=>rfl
 |n::ns=>⟨_,_,rfl,rfl,jx ns⟩
theorem CC (hg:Gl X "sorted") (hm:X.mg "sorted"=none) (ha:PX X [a] fa) (hs:starEach [a] X.env=[(false,eval a X.env)]):
  PF X (.Call (.Name "sorted" p) [a] [] pos) (λY=>(fa Y).bind vC):=λO Y=>(jh xl hg hm zj (ha O Y) (by decide) (by decide) (by rw[hs];rfl) rfl).imp λσ H Q ⟨E,ds,q,k⟩=>by
 obtain⟨as,e1,q⟩:=bind_some q
 refine⟨E,as,e1,λvs H1 s1 il=>?_⟩
 obtain⟨c,rfl,q2⟩:=bw q
 obtain⟨xs,q3,q4⟩:=bind_some q2
 obtain⟨ns,q5,q6⟩:=bind_some q4
 obtain⟨h64,q7⟩:=ax q6
 subst q7
 obtain⟨v,rfl,h⟩:=is1 il
 obtain⟨l,ys,rfl,t,l2⟩:=dO q3 h
 rw[fM q5 l2]at t
 exact⟨l,ns,rfl,msk_le.seq t,h64,λb hb=>k b _ H1 s1 hb (jx _)⟩
end
section
variable {X:Cx} {a:Expr} {p p2 pos pos2:Pos}
theorem mL:∀ (l:List Value) (k:Int),(∀ (i:Nat) (v:Value),l[i]?=some v->∃t,v=Value.int (k+(i:Int)) t)->Vals ((List.range l.length).map λ(i:Nat)=>V.int (k+(i:Int))) l
 |[],_,_=>.nil
 |v::l,k,h=>by
  rw[length_cons,List.range_succ_eq_map,List.map_cons,List.map_map];obtain⟨t,e⟩:=h 0 v rfl;refine .cons ⟨t,by simpa using e⟩ ?_;have:=mL l (k+1) λi w q=>by
   obtain⟨t,e⟩:=h (i+1) w (by simpa using q);exact⟨t,by rw[e];congr 1;omega⟩
  have e2:((List.range l.length).map λ(i:Nat)=>V.int (k+1+(i:Int)))=(List.range l.length).map ((λ(i:Nat)=>V.int (k+(i:Int)))∘Nat.succ):=by
   apply List.map_congr_left;intro i _;show V.int _=V.int _;congr 1;simp;omega
  rw[<-e2];exact this
def tLr (ta:TA):TE:=λσ H Q=>ta σ H λvs H1=>∃j:Int,vs=[.int j]/\inR j/\j<1000000/\∀q,H1 q=none->Q (.ref q) (upd H1 q (.lst ((List.range j.toNat).map λ(i:Nat)=>V.int (i:Int))))
theorem CD (hc:X.calm=true) (hg:Gl X "list") (hm:X.mg "list"=none) (hg2:Gl X "range") (hm2:X.mg "range"=none) (ha:PA X [a] ta) (hs:starEach [a] X.env=[(false,eval a X.env)]):
  PE X (.Call (.Name "list" p) [.Call (.Name "range" p2) [a] [] pos2] [] pos) (tLr ta):=by
 intro pins s σ H Q I h
 refine wpAny_Call_Name_kw (cU I hg hm DU (PyProof.Rows.callWith_type1 ?_ rfl rfl))
 show wpAny _ _ (spliced ((false,eval (.Call (.Name "range" p2) [a] [] pos2) X.env)::[])) _ _ s
 refine Calls.spliced_cons ?_
 refine wpAny_Call_Name_kw (cU I hg2 hm2 boot_range (PyProof.Rows.callWith_type1 (thn (ha pos2 pins s σ H _ I h) λus s1 ⟨vs,H1,I1,r1,q1⟩=>?_) (by rw[hs];rfl) rfl))
 obtain⟨j,rfl,hj,hj2,q⟩:=q1
 obtain⟨u,rfl,ru⟩:=fK r1
 obtain⟨t,rfl⟩:=ru
 have hj':=hj
 refine call_range_1 (Calls.spliced_nil ?_)
 have up:∀d o,s1.heap.get? d=some o->(s1.heap.push {cls:=.type "range",data:=.fields #[.int 0 s1.toks,.int j t,.int 1 (s1.toks+1)]}).get? d=some o:=λd o e=>Heap.get?_push_of_some _ e
 have I2:Inv X pins σ H1 {s1 with heap:=s1.heap.push {cls:=.type "range",data:=.fields #[.int 0 s1.toks,.int j t,.int 1 _]},toks:=s1.toks+1+1}:=I1.kept up
 have hn:Builtin.Range.rangeSize 0 j 1=(j.toNat:Nat):=by rw[rangeSize_one];split<;>omega
 refine call_list_range (I1.ok.hd hc) (IsRange.new ..) (small_one (by omega) (by omega) hj'.1 hj'.2) hn (by omega) λg tk acc c k hgS hi=>?_
 have fr:H1 (s1.heap.push {cls:=.type "range",data:=.fields #[.int 0 s1.toks,.int j t,.int 1 _]}).objs.size=none:=I2.hok.fresh (le_refl _)
 refine⟨.ref _,_,I2.laid (o:=.lst ((List.range j.toNat).map λ(i:Nat)=>V.int (i:Int))) k (le_refl _) ⟨?_,acc.toList,c,?_,by simpa using hgS⟩,rfl,q _ fr⟩
 ·rw[length_map,length_range,sizeLine_eq];omega
 ·have:=mL acc.toList 0 λi v e=>by
   obtain⟨t,z⟩:=hi.2 i v (by rw[<-Array.getElem?_toList];exact e);exact⟨t,by rw[z];congr 1;omega⟩
  rw[Array.length_toList,hi.1]at this;simpa using this
def lrD:List D->Option (List D):=un1 λd=>(gH d).bind λj=>if inR j/\j<1000000 then some (lC 0 j.toNat)else none
theorem CF (hc:X.calm=true) (hg:Gl X "list") (hm:X.mg "list"=none) (hg2:Gl X "range") (hm2:X.mg "range"=none) (ha:PX X [a] fa) (hs:starEach [a] X.env=[(false,eval a X.env)]):
  PF X (.Call (.Name "list" p) [.Call (.Name "range" p2) [a] [] pos2] [] pos) (λY=>(fa Y).bind lrD):=λO Y=>(CD hc hg hm hg2 hm2 (ha O Y) hs).imp λσ H Q ⟨E,ds,q,k⟩=>by
 obtain⟨as,e1,q⟩:=bind_some q
 refine⟨E,as,e1,λvs H1 s1 il=>?_⟩
 obtain⟨c,rfl,q2⟩:=bw q
 obtain⟨j,q3,q4⟩:=bind_some q2
 obtain⟨h1,h2⟩:=ax q4
 subst h2
 obtain⟨v,rfl,h⟩:=is1 il
 cases intD_some q3
 refine⟨j,by rw[show v=.int j from h],h1.1,h1.2,λb hb=>k b _ H1 s1 hb ?_⟩
 have e:lC 0 j.toNat=((List.range j.toNat).map λ(i:Nat)=>(i:Int)).map D.int:=by unfold lC;rw[List.map_map];apply List.map_congr_left;intro i _;simp
 have e2:((List.range j.toNat).map λ(i:Nat)=>V.int (i:Int))=((List.range j.toNat).map λ(i:Nat)=>(i:Int)).map V.int:=by rw[List.map_map];rfl
 rw[e,e2]
 exact jx _
end
section
variable {X:Cx} {e:Expr} {pos:Pos}
theorem oX:∀ (bs:List Bool),((List.range bs.length).any λi=>bs.getD i false)=bs.any (λz=>z)
 |[]=>rfl
 |b::bs=>by
  rw[length_cons,List.range_succ_eq_map,List.any_cons,List.any_map,List.any_cons,<-oX bs];rfl
theorem call_any (hc:X.calm=true):dM X (.builtin "any") (λxs H Q=>∃ (p:Addr) (bs:List Bool),xs=[.ref p]/\SqL X.K H p (bs.map V.bl)/\Q (.bl (bs.any (λz=>z))) H):=by
 intro pins s σ H xs us Q I r h;obtain⟨l,bs,rfl,hl,q⟩:=h;obtain⟨u,rfl,ru⟩:=fK r;cases ru;obtain⟨its,rv,pl,hz⟩:=I.list hl;have eb:=mE rv;subst eb;have hL:=pl.isList;have hlt:l<s.heap.objs.size:=by obtain⟨_,e,_⟩:=hL;exact Heap.lt_size e
 refine call_any_walk (wpAny_pyIter_list hL ?_);refine⟨s.heap.objs.size,[s.heap.objs.size,l],[s.heap.objs.size],_,_,_,λi=>bs.getD i false,rfl,Walks.list (A:=X.A.in1) (I.ok.hd hc) _ l (Nat.ne_of_lt hlt) (bs.map Value.bool).toArray,
  ⟨⟨_,Heap.get?_push_size _ rfl,rfl,rfl⟩,hL.push _⟩,λi v s' Q' E' hP hQ=>?_,λh' tk hk=>?_⟩
 ·have hP':(bs.map Value.bool)[i]?=some v:=by simpa using hP
  rw[getElem?_map]at hP';cases e:bs[i]? with
  |none=>rw[e]at hP';cases hP'
  |some b=>
   rw[e]at hP';cases hP';have e':bs.getD i false=b:=by rw[List.getD_eq_getElem?_getD,e];rfl
   dsimp only at hQ;rw[e']at hQ;exact wpAny_truthy_bool hQ
 ·have e:((List.range (bs.map Value.bool).toArray.size).any λi=>bs.getD i false)=bs.any (λz=>z):=by
   rw[size_toArray,length_map];exact oX bs
  rw[e];exact⟨.bl _,H,I.kept λb o ho=>hk b o (λhm=>by rw[mem_singleton.mp hm]at ho;exact Nat.lt_irrefl _ (Heap.lt_size ho)) (Heap.get?_push_of_some _ ho),rfl,q⟩
def ue:List D->Option D:=un1 λd=>(fN d).bind λds=>(wV ds).bind λbs=>some (.bl (bs.any (λz=>z)))
theorem rn_any:RnD X.K (λxs H Q=>∃ (p:Addr) (bs:List Bool),xs=[.ref p]/\SqL X.K H p (bs.map V.bl)/\Q (.bl (bs.any (λz=>z))) H) ue:=λO H xs ds d Q hd l e k=>by
 obtain⟨c,rfl,e⟩:=bw e;obtain⟨es,e1,e2⟩:=bind_some e;obtain⟨bs,e3,e4⟩:=bind_some e2;cases e4;obtain⟨v,rfl,h⟩:=is1 l;obtain⟨p,ys,rfl,q,l2⟩:=dO e1 h;rw[pU e3 l2]at q;exact⟨p,bs,rfl,msk_le.seq q,k _ H (Same.refl _) rfl⟩
def DW:List V->Hp->VK->Prop:=λxs H Q=>∃b:Bool,xs=[.bl b]/\Q (.int (if b then 1 else 0)) H
theorem call_intB:dM X (.type "int") DW:=by
 intro pins s σ H xs us Q I r h;obtain⟨b,rfl,q⟩:=h;obtain⟨u,rfl,ru⟩:=fK r;cases(ru);refine call_int_bool ?_;exact⟨.int _,H,I.kept λb o ho=>ho,⟨_,rfl⟩,q⟩
def DX:List D->Option D:=un1 λd=>d.asB.bind λb=>some (.int (if b then 1 else 0))
theorem rn_intB:RnD X.K DW DX:=λO H xs ds d Q hd l e k=>by
 obtain⟨c,rfl,e⟩:=bw e;obtain⟨b,e1,e2⟩:=bind_some e;cases e2;cases asB_some e1;obtain⟨v,rfl,h⟩:=is1 l;cases(h);exact⟨b,rfl,k _ H (Same.refl _) rfl⟩
end
def insL (k:Nat) {α:Type} (l:List α) (x:α):List α:=l.take k++x::l.drop k
theorem DeepL.appR {K} (h2:DeepL K M H es ys C):∀ {ds:List D} {xs:List V} {A:List Addr},DeepL K M H ds xs A->DeepL K M H (ds++es) (xs++ys) (A++C)
 |[],xs,A,h=>by obtain⟨rfl,rfl⟩:=h;exact h2
 |d::ds,xs,A,⟨x,r,A1,A2,e1,e2,g1,g2⟩=>by
  subst e1 e2;exact⟨x,r++ys,A1,A2++C,rfl,List.append_assoc ..,g1,DeepL.appR h2 g2⟩
theorem DeepL.cutAt {K}:∀ {ds:List D} {xs:List V} {A:List Addr} (k:Nat),DeepL K M H ds xs A->∃A1 A2,A=A1++A2/\DeepL K M H (ds.take k) (xs.take k) A1/\DeepL K M H (ds.drop k) (xs.drop k) A2
 |ds,xs,A,0,h=>⟨[],A,rfl,⟨rfl,rfl⟩,h⟩
 |[],xs,A,k+1,h=>by obtain⟨rfl,rfl⟩:=h;exact⟨[],[],rfl,⟨rfl,rfl⟩,⟨rfl,rfl⟩⟩
 |d::ds,xs,A,k+1,⟨x,r,A1,A2,e1,e2,g1,g2⟩=>by
  subst e1 e2;obtain⟨B1,B2,e,q1,q2⟩:=DeepL.cutAt k g2;subst e;exact⟨A1++B1,B2,(List.append_assoc ..).symm,⟨x,_,A1,B1,rfl,rfl,g1,q1⟩,q2⟩
theorem Jp (k:Nat):lsW (insL k):=λ{K M H ds xs A A1 d v} h q nd=>by
 obtain⟨B1,B2,rfl,q1,q2⟩:=DeepL.cutAt k h;have q3:DeepL K M H (d::ds.drop k) (v::xs.drop k) (A1++B2):=⟨v,_,A1,B2,rfl,rfl,q,q2⟩;refine⟨B1++(A1++B2),DeepL.appR q3 q1,?_,λb hb=>?_⟩
 ·have p:(B1++(A1++B2)).Perm (B1++B2++A1):=by
   rw[List.append_assoc];exact List.Perm.append_left _ List.perm_append_comm
  exact p.nodup_iff.mpr nd
 ·simp only[mem_append]at hb⊢;rcases hb with hb|hb|hb
  ·exact .inl (.inl hb)
  ·exact .inr hb
  ·exact .inl (.inr hb)
theorem IsL.takeD {K}:∀ {ds:List D} {xs:List V} (k:Nat),IsL K M ds xs->IsL K M (ds.take k) (xs.take k)/\IsL K M (ds.drop k) (xs.drop k)
 |ds,xs,0,h=>⟨rfl,h⟩
 |[],xs,k+1,h=>by cases(show xs=[]from h);exact⟨rfl,rfl⟩
 |d::ds,xs,k+1,⟨x,r,e,g1,g2⟩=>by
  subst e;obtain⟨q1,q2⟩:=IsL.takeD k g2;exact⟨⟨x,_,rfl,g1,q1⟩,q2⟩
theorem Jq (k:Nat):lsI (insL k):=λh q=>(IsL.takeD k h).1.app ⟨_,_,rfl,q,(IsL.takeD k h).2⟩
theorem Jr (k:Nat):lsX (insL k):=λ{K M H ds xs A d v} h q=>by
 obtain⟨B1,B2,rfl,q1,q2⟩:=DeepL.cutAt k h;have q3:DeepL K M H (d::ds.drop k) (v::xs.drop k) B2:=⟨v,_,[],B2,rfl,rfl,q,q2⟩;exact DeepL.appR q3 q1
theorem Vals.ins (k:Nat) (r:Vals xs us) (ru:RelV y u):Vals (insL k xs y) (insL k us u):=(r.take k).append (.cons ru (r.drop k))
def CG:V->List V->Hp->VK->Prop:=λx vs H Q=>∃ (l:Addr) (xs:List V) (i:Int) (k:Nat) (y:V),x=.ref l/\vs=[.int i,y]/\i=(k:Int)/\H l=some (.lst xs)/\k<=xs.length/\xs.length<sizeLine/\Q .non (upd H l (.lst (insL k xs y)))
theorem CH (its:List Value) (x:Int) (k:Nat) (u:Value) (hx:x=(k:Int)) (hk:k<=its.length):(its.toArray.extract 0 (if x<0 then(x+((its.toArray.size:Nat):Int)).toNat else min x.toNat its.toArray.size)).push u++its.toArray.extract (if x<0 then(x+((its.toArray.size:Nat):Int)).toNat else min x.toNat its.toArray.size)=(insL k its u).toArray:=by
 have h0:¬ (x<0):=by omega
 have h1:x.toNat=k:=by omega
 rw[if_neg h0,size_toArray,h1,Nat.min_eq_left hk];apply Array.ext';simp[insL];exact List.take_of_length_le (by rw[List.length_drop];exact le_refl _)
theorem oY:MtM X "list.insert" CG:=by
 intro pins s σ H x vs v us Q I rx rv h;obtain⟨l,xs,i,k,y,rfl,rfl,hi,hH,hk,hz,q⟩:=h;cases rx;cases rv with
 |cons r1 r2=>
 obtain⟨u,rfl,ru⟩:=(show Vals [y] _ from r2).one;obtain⟨t,rfl⟩:=r1;obtain⟨z,its,n,r,hl,e⟩:=I.lstM hH;have hf:Builtin.List.listFitsIndex i=true:=by
  have:sizeLine<2^63:=by decide
  unfold Builtin.List.listFitsIndex;simp only[and_eq_true,decide_eq_true_eq];omega
 refine call_meets F.slot_list_insert ⟨_,e,rfl⟩ F.entry_list_insert (F.args_list_insert_3 _ _ _) (AutoSeq1.list_insert_list_int_val_1 l its.toArray n i t u (by simp[hf]) (by rw[size_toArray];omega)) ⟨e,?_⟩;refine⟨.non,_,I.lset hH e ?_ (r.ins k ru) ?_,rfl,q⟩
 ·exact CH its i k u hi (by omega)
 ·unfold insL;rw[length_append,length_cons,List.length_take,List.length_drop];omega
section
variable {X:Cx} {e:Expr} {pos:Pos}
def zk (n:Nat) (d:D):Option Nat:=match d with
 |.int i=>if 0<=i/\i<=(n:Int)then some i.toNat else none
 |_=>none
theorem oZ (h:zk n d=some k):d=.int (k:Int)/\k<=n:=by
 unfold zk at h;split at h
 ·split at h
  ·cases h;rename_i i c;exact⟨by rw[Int.toNat_of_nonneg c.1],by omega⟩
  ·cases h
 ·cases h
def Js (i:Nat) (fk R:Vv->Option D):Ev->Option Out:=λY=>(iD Y i).bind λw=>(fk (shv Y)).bind λy=>(zk w.2.length y).bind λk=>(lfO (R (shv Y))).bind λd=>
 if w.2.length+1<big then some (.nx (Y.set i (some (newCat w.1 (.deep,d),.lst (insL k w.2 d)))))else none
theorem xm (i:Nat) (hk:PP X ek fk) (h:PP X e R) (hN:X.N[i]?=some x) (hv:Vis X.env.scope x) (hd:(x==("__debug__":Str))=false) (hcd:(x==("__classdict__":Str))=false) (hst:starEach [ek,e] X.env=(false,eval ek X.env)::starEach [e] X.env) (hst2:starEach [e] X.env=(false,eval e X.env)::starEach [] X.env) (hline:(apos.endLine==cpos.line)=true):
  PR X (.Expr (.Call (.Attribute (.Name x px) "insert" apos) [ek,e] [] cpos) pos) (Js i fk R):=λB O Y=>
 (dj (jj PySem.F.plainAttrs_list PySem.F.slot_list_insert PySem.F.type_list_insert oY (cF hN hv hd hcd) (bx (hk O _) (bx (h O _) pa_nil hst2) hst) rfl (by rw[hst,hst2];rfl) hline hst (by rw[hst2];rfl))).imp λEn σ H ⟨E,o,q,k⟩=>by
 obtain⟨⟨c,ds⟩,q1,q⟩:=bind_some q
 obtain⟨y,q2,q⟩:=bind_some q
 obtain⟨j,q3,q⟩:=bind_some q
 obtain⟨d,q4,q⟩:=bind_some q
 obtain⟨hz,q⟩:=ax q
 subst q
 obtain⟨h0,hc0⟩:=cO q1
 obtain⟨d',p5,p6⟩:=bind_some q4
 obtain⟨lf,p7⟩:=ax p6
 subst p7
 obtain⟨ey,hj⟩:=oZ q3
 subst ey
 obtain⟨a,xs0,e1,r3,_⟩:=E.ownAt h0 hc0
 refine⟨.ref a,e1,.inl ⟨rfl,_,SqL.of r3⟩,E.viewS,_,q2,λyv H1 s1 iy=>?_⟩
 cases(iy)
 have E1:=E.grow s1
 refine⟨E1.viewS,d',p5,λv H2 s2 iv=>?_⟩
 have E2:=E1.grow s2
 have E3:=E2.moreS iv
 have ex:extS d'=(.deep,d'):=by unfold extS;rw[if_pos lf]
 rw[ex]at E3
 obtain⟨a',xs,e2,r4,hl,O2,E4,s4⟩:=E3.change (insL j) (Jp j) (Jq j) h0 hc0
 rw[e1]at e2
 cases e2
 exact⟨a,xs,_,j,v,rfl,rfl,rfl,r4,by rw[<-hl];exact hj,by rw[gb,<-hl];exact Nat.lt_of_succ_lt hz,k σ _ O2 (s1.msk.trans (s2.msk.trans s4)) E4⟩
def zm (i:Nat) (fj fk R:Vv->Option D):Ev->Option Out:=λY=>(vB Y i).bind λds=>(fj (vw Y)).bind λy=>(gH y).bind λn=>(ixN ds.length n).bind λj=>(ds[j]?).bind λz=>(fN z).bind λds2=>
 (fk (shv Y)).bind λy2=>(zk ds2.length y2).bind λm=>(lfO (R (shv Y))).bind λd=>if ds2.length+1<big then some (.nx (Y.set i (some (.deep,.lst (ds.set j (.lst (insL m ds2 d)))))))else none
theorem FZ (i:Nat) (hj:PP X ij fj) (hk:PP X ek fk) (h:PP X e R) (hN:X.N[i]?=some x) (hv:Vis X.env.scope x) (hd:(x==("__debug__":Str))=false) (hcd:(x==("__classdict__":Str))=false) (hix:dN ij) (hst:starEach [ek,e] X.env=(false,eval ek X.env)::starEach [e] X.env) (hst2:starEach [e] X.env=(false,eval e X.env)::starEach [] X.env) (hline:(apos.endLine==cpos.line)=true):
  PR X (.Expr (.Call (.Attribute (.Subscript (.Name x px) ij spos) "insert" apos) [ek,e] [] cpos) pos) (zm i fj fk R):=λB O Y=>
 (dj (jj PySem.F.plainAttrs_list PySem.F.slot_list_insert PySem.F.type_list_insert oY (oI ix_list (cF hN hv hd hcd) (hj noO (vw Y)) hix) (bx (hk O (shv Y)) (bx (h O (shv Y)) pa_nil hst2) hst) rfl (by rw[hst,hst2];rfl) hline hst (by rw[hst2];rfl))).imp λEn σ H ⟨E,o,q,k⟩=>by
 obtain⟨ds,q1,q⟩:=bind_some q
 obtain⟨y,q2,q⟩:=bind_some q
 obtain⟨n,q3,q⟩:=bind_some q
 obtain⟨j,q4,q⟩:=bind_some q
 obtain⟨z,q5,q⟩:=bind_some q
 obtain⟨ds2,q6,q⟩:=bind_some q
 obtain⟨y2,q8,q⟩:=bind_some q
 obtain⟨m,q9,q⟩:=bind_some q
 obtain⟨d,q7,q⟩:=bind_some q
 obtain⟨hz,q⟩:=ax q
 subst q
 obtain⟨⟨c,ds'⟩,p1,p2⟩:=bind_some q1
 obtain⟨p3,p4⟩:=ax p2
 have p3:c=.deep:=p3
 have p4:ds'=ds:=p4
 subst p3 p4
 obtain⟨h0,hc0⟩:=cO p1
 cases intD_some q3
 cases lstD_some q6
 obtain⟨d',p5,p6⟩:=bind_some q7
 obtain⟨lf,p7⟩:=ax p6
 subst p7
 obtain⟨ey,hm⟩:=oZ q9
 subst ey
 obtain⟨a,xs0,e1,r3,hl0,oa,_⟩:=E.ownAt h0 hc0
 refine⟨.ref a,e1,E.view,_,q2,λyv H1 s1 iy=>?_⟩
 cases(show yv=.int n from iy)
 have E1:=E.grow s1
 obtain⟨a',xs,a2,ys,g1,g2,g3,g4,g5,g6,_⟩:=E1.changeIn fP uc (d:=.non) (v:=.non) h0 q5 rfl rfl
 rw[e1]at g1
 cases g1
 refine⟨a,xs,n,.ref a2,rfl,rfl,SqL.of g2,?_,.inl ⟨rfl,_,SqL.of g5⟩,E1.viewS,_,q8,λyv H2 s2 iy=>?_⟩
 ·unfold atI;rw[<-g3,q4];exact g4
 cases(show yv=.int (m:Int)from iy);have E2:=E1.grow s2;refine⟨E2.viewS,d',p5,λv H3 s3 iv=>?_⟩;obtain⟨b',zs,b2,ws,k1,k2,k3,k4,k5,k6,k7,k8⟩:=(E2.grow s3).changeIn (insL m) (Jr m) h0 q5 lf iv;rw[e1]at k1;cases k1;have w1:=s3 _ _ (s2 _ _ g2);rw[w1]at k2;cases k2;rw[g4]at k4;cases k4;exact⟨a2,ws,_,m,v,rfl,rfl,rfl,k5,by rw[<-k6];exact hm,by rw[gb,<-k6];exact Nat.lt_of_succ_lt hz,k σ _ O (s1.msk.trans (s2.msk.trans (s3.msk.trans k8))) k7⟩
end
def zn {α:Type} (l:List α) (_:α):List α:=l.reverse
theorem DeepL.rev {K}:∀ {ds:List D} {xs:List V} {A:List Addr},DeepL K M H ds xs A->∃A',DeepL K M H ds.reverse xs.reverse A'/\A'.Perm A
 |[],xs,A,h=>by obtain⟨rfl,rfl⟩:=h;exact⟨[],⟨rfl,rfl⟩,.refl _⟩
 |d::ds,xs,A,⟨x,r,A1,A2,e1,e2,g1,g2⟩=>by
  subst e1 e2;obtain⟨A',q,p⟩:=DeepL.rev g2;refine⟨A'++A1,?_,(p.append_right _).trans List.perm_append_comm⟩;rw[List.reverse_cons,List.reverse_cons];exact DeepL.snoc g1 q
theorem Jt:lsW zn:=λh q nd=>by
 obtain⟨A',l,p⟩:=DeepL.rev h;exact⟨A',l,p.nodup_iff.mpr (List.nodup_append.mp nd).1,λb hb=>.inl (p.mem_iff.mp hb)⟩
theorem IsL.revD {K}:∀ {ds:List D} {xs:List V},IsL K M ds xs->IsL K M ds.reverse xs.reverse
 |[],xs,h=>by cases(show xs=[]from h);exact rfl
 |d::ds,xs,⟨x,r,e,g1,g2⟩=>by
  subst e;rw[List.reverse_cons,List.reverse_cons];exact(IsL.revD g2).app ⟨_,[],rfl,g1,rfl⟩
theorem zo:lsI zn:=λh _=>IsL.revD h
section
variable {X:Cx} {e:Expr} {pos:Pos}
def Ju (i:Nat):Ev->Option Out:=λY=>(iD Y i).bind λw=>some (.nx (Y.set i (some (newCat w.1 (.deep,.non),.lst w.2.reverse))))
theorem uf (i:Nat) (hN:X.N[i]?=some x) (hv:Vis X.env.scope x) (hd:(x==("__debug__":Str))=false) (hcd:(x==("__classdict__":Str))=false) (hline:(apos.endLine==cpos.line)=true):PR X (.Expr (.Call (.Attribute (.Name x px) "reverse" apos) [] [] cpos) pos) (Ju i):=λB O Y=>
 (dj (yh PySem.F.plainAttrs_list PySem.F.slot_list_reverse PySem.F.type_list_reverse mr (cF hN hv hd hcd) rfl hline)).imp λEn σ H ⟨E,o,q,k⟩=>by
 obtain⟨⟨c,ds⟩,q1,q⟩:=bind_some q;cases q;obtain⟨h0,hc0⟩:=cO q1;have E3:=E.moreS (d:=.non) rfl;obtain⟨a,xs,e1,r4,hl,O2,E4,s4⟩:=E3.change zn Jt zo h0 hc0;exact⟨.ref a,e1,.inl ⟨rfl,_,SqL.of r4⟩,a,xs,rfl,rfl,r4,k σ _ O2 s4 E4⟩
theorem PS.ex {e} {ι:Type} {t:ι->TS} (h:∀z,PS X e (t z)):PS X e (λD σ H=>∃z,t z D σ H):=λpins s σ H D I ⟨z,q⟩=>h z pins s σ H D I q
theorem F0 {st} (is:List Nat) (h:PR X st F):PR X st (λY=>F (frzS is Y)):=λB O Y=>(PS.ex λO'=>h B O' _).imp λEn σ H ⟨E,out,q,k⟩=>by
 obtain⟨O',E',le⟩:=E.frzS is;exact⟨O',E',out,q,k.mono le⟩
def tJB (K:Frag) (O:Addr->Bool) (Y:Vv) (o:Option (List D)):TI:=λσ H R=>VE K noO σ H Y/\∃ds,o=some ds/\∀J H',Same H H'->kX K (msk O H') J ds->R J H'
theorem ug (hg:Gl X "range") (hm:X.mg "range"=none) (ha:PX X [e] fa) (hs:starEach [e] X.env=[(false,eval e X.env)]) (O:Addr->Bool) (Y:Vv):PI X tg (.Call (.Name "range" p) [e] [] pos) (tJB X.K O Y ((fa Y).bind lD)):=
 (oA hg hm (ha noO Y) hs).imp λσ H R ⟨E,ds,q,k⟩=>by
 obtain⟨as,e1,q⟩:=bind_some q
 refine⟨E,as,e1,λvs H1 s1 il=>?_⟩
 obtain⟨c,rfl,q1⟩:=bw q
 obtain⟨j,q2,q3⟩:=bind_some q1
 obtain⟨h1,h2⟩:=ax q3
 subst h2
 obtain⟨v,rfl,iv⟩:=is1 il
 cases intD_some q2
 have h1':-(2^62)<=j/\j<2^62:=h1
 exact⟨j,by rw[show v=.int j from iv],h1'.1,h1'.2,k _ H1 s1 iU⟩
def Jv (fi:Vv->Option (List D)) (g:D->Ev->Option Ev) (F:Ev->Option Out):Ev->Option Out:=λY=>(fi (vw Y)).bind λds=>fw (lF g F) ds Y
theorem CI (hp:PassesOwn (model X.prog X.w) X.A X.env X.xe) (hc:X.calm=true) (hg0:Gl X "range") (hm:X.mg "range"=none) (ha:PX X [e] fa) (hst:starEach [e] X.env=[(false,eval e X.env)]) (hg:PGE X tg g) (hb:PRs X body F) (hs:∀x,foldedSetIterable (.Call (.Name "range" p) [e] [] pos) X.env x=pure x):PR X (.For tg (.Call (.Name "range" p) [e] [] pos) body [] pos') (Jv (λY=>(fa Y).bind lD) g F):=λB O Y=>
 (tu hp hc (ug hg0 hm ha hst O (vw Y)) (PG.ex λz:(Addr->Bool)×Ev×D=>hg B z.1 z.2.1 z.2.2) (PSs.ex λz:(Addr->Bool)×Ev=>hb B z.1 z.2) hs).imp λEn σ H ⟨E,out,q,k⟩=>by
 obtain⟨ds,q1,q2⟩:=bind_some q;obtain⟨_,ds',e',kk⟩:=pZ (o:=some ds) (Yv:=shv Y) (g:=g) (F:=F) E E.viewS (show((some ds).bind λds=>fw (lF g F) ds Y)=some out from q2) k;cases e';exact⟨E.view,ds,q1,kk⟩
theorem DeepL.get {K}:∀ {ds:List D} {xs:List V} {A:List Addr} {j:Nat},DeepL K M H ds xs A->ds[j]?=some d->∃v A',xs[j]?=some v/\Deep K M H d v A'/\(∀a∈A',a∈A)/\(A.Nodup->A'.Nodup)
 |[],xs,A,j,h,e=>by simp at e
 |d0::ds,xs,A,0,⟨x,r,A1,A2,e1,e2,h1,h2⟩,e=>by
  simp at e;subst e e1 e2;exact⟨x,A1,rfl,h1,λa ha=>mem_append_left _ ha,λn=>(List.nodup_append.mp n).1⟩
 |d0::ds,xs,A,j+1,⟨x,r,A1,A2,e1,e2,h1,h2⟩,e=>by
  subst e1 e2;obtain⟨v,A',f1,f2,f3,f4⟩:=DeepL.get h2 (show ds[j]?=some d by simpa using e);exact⟨v,A',by simpa using f1,f2,λa ha=>mem_append_right _ (f3 a ha),λn=>f4 (List.nodup_append.mp n).2.1⟩
def fIx (f:Vv->Option D) (fk:Vv->Option D):Vv->Option D:=λY=>(f Y).bind λl=>(fN l).bind λds=>(fk Y).bind λy=>(gH y).bind λn=>(ixN ds.length n).bind λj=>ds[j]?
theorem Jw (h:PFr X e f) (hk:PP X b fk) (hix:dN b):PFr X (.Subscript e b pos) (fIx f fk):=λY=>PE.pu ((oI ix_list (h Y).1 (hk noO Y) hix).imp λσ H Q ⟨E,d,q,k⟩=>by
 obtain⟨l,q1,qa⟩:=bind_some q;obtain⟨ds,q2,qb⟩:=bind_some qa;obtain⟨y,q3,qc⟩:=bind_some qb;obtain⟨n,q4,qd⟩:=bind_some qc;obtain⟨j,q5,qe⟩:=bind_some qd;cases lstD_some q2;cases intD_some q4;refine⟨E,_,q1,λv H1 A s1 i1 n1 f1=>⟨E.grow s1,_,q3,λyv H2 s2 iy=>?_⟩⟩;cases(show yv=.int n from iy);have i2:=Deep.frame (NL.of s2) _ v A (λa _ o h=>s2 _ _ h) i1;obtain⟨p,xs,A',z1,z2,z3,l⟩:=i2;subst z1 z3;obtain⟨w,A2,g1,g2,g3,g4⟩:=DeepL.get l qe;refine⟨p,xs,n,w,rfl,rfl,SqL.of z2,?_,k w H2 A2 (s1.trans s2) g2 (g4 (List.nodup_cons.mp n1).2) λa ha=>f1 a (mem_cons_of_mem _ (g3 a ha))⟩;unfold atI;rw[<-l.len,q5];exact g1) rfl
end
theorem IsL.rep {K} (h:IsL K M ds xs):∀n:Nat,IsL K M (List.replicate n ds).flatten (List.replicate n xs).flatten
 |0=>rfl
 |n+1=>by
  rw[List.replicate_succ,List.replicate_succ,List.flatten_cons,List.flatten_cons];exact h.app (IsL.rep h n)
section
variable {X:Cx} {a b e tg:Expr} {pos:Pos}
def rO (fa:Vv->Option (List D)) (fb:Vv->Option D):Vv->Option (List D):=λY=>(fa Y).bind λxs=>(fb Y).bind λy=>(gH y).bind λn=>if 0<=n/\n<256/\xs.length*n.toNat<=256 then some (List.replicate n.toNat xs).flatten else none
theorem F3 (ha:PF X a fa) (hb:PP X b fb):PF X (.BinOp a .Mult b pos) (rO fa fb):=λO Y=>(xS EM (ha O Y) (hb O Y)).imp λσ H Q ⟨E,ds,q,k⟩=>by
 obtain⟨xs,e1,q⟩:=bind_some q;obtain⟨dy,e2,q⟩:=bind_some q;obtain⟨n,f2,q⟩:=bind_some q;obtain⟨g1,g2⟩:=ax q;subst g2;cases intD_some f2;refine⟨E,xs,e1,λp us H1 s1 hp l=>?_⟩;have s2:=s1.trans (Same.new (o:=.lst us) hp);refine⟨E.grow s2,_,e2,λy H2 s3 i2=>?_⟩;have hz:us.length*n.toNat<=sizeLine:=by
  rw[<-l.len];exact Nat.le_trans g1.2.2 (by decide)
 exact⟨p,n,us,rfl,i2,s3 _ _ (ar ..),by omega,by omega,hz,λp' hp'=>k p' _ H2 (s2.trans s3) hp' ((IsL.mono (((Same.new hp).trans s3).msk) _ _ l).rep _)⟩
end
section
variable {K:Frag} {B:Bs} {O:Addr->Bool} {σ:St} {H:Hp} {Y:Ev}
theorem EnvOk.changeQ (E:EnvOk K B O σ H Y) (f:{α:Type}->List α->α->List α) (hf:lsI f) {i:Nat} (h:Y[i]?=some (some (.pr,.tup [d0,.lst ds]))) (hi:Is K (msk O H) d v):
  ∃b u a xs,σ[i]?=some (some (.ref b))/\H b=some (.tup [u,.ref a])/\H a=some (.lst xs)/\ds.length=xs.length/\
   EnvOk K B O σ (upd H a (.lst (f xs v))) (Y.set i (some (.pr,.tup [d0,.lst (f ds d)])))/\Same (msk O H) (msk O (upd H a (.lst (f xs v)))):=by
 obtain⟨F,h1,h2,h3,h4⟩:=E.fp
 obtain⟨v0,e0,b,u,a,d1,ds1,xs,z,rfl,zb,zu,zA,za,zl⟩:=h1 i _ h
 cases z
 have ha:a∈F i:=by rw[zA];exact mem_cons_self
 obtain⟨o2,b2⟩:=h4 i a ha
 have me:msk O (upd H a (.lst (f xs v)))=msk O H:=f9 o2
 have le:Same (msk O H) (msk O (upd H a (.lst (f xs v)))):=by rw[me];exact Same.refl _
 refine⟨b,u,a,xs,e0,msk_le _ _ zb,za,zl.len,⟨λb o q=>?_,E.bdom,E.sub,λb hb=>?_,by rw[List.length_set];exact E.len,F,λk s q=>?_,h2,h3,h4⟩,le⟩
 ·rw[au (aH q b2)];exact E.same b o q
 ·by_cases e:b=a
  ·subst e;exact .inl ⟨_,ar⟩
  ·rw[au e];exact E.lis b hb
 ·rcases get_set_some q with⟨e,q'⟩|⟨e,q'⟩
  ·cases q';subst e;refine⟨.ref b,e0,b,u,a,d0,_,f xs v,rfl,rfl,le _ _ zb,Is.mono le _ _ zu,zA,ar,?_⟩;rw[me];exact hf zl hi
  ·obtain⟨w,e1,o1⟩:=h1 k s q';refine⟨w,e1,o1.frame le λb hb o z=>?_⟩;have hn:b≠a:=λz2=>by subst z2;exact e (h3 k i b hb ha)
   rw[au hn];exact z
end
section
variable {X:Cx} {e:Expr} {es:List Expr} {p pos:Pos}
def qrS:Option Sl->Option (D×List D)
 |some (.pr,.tup [d,.lst ds])=>some (d,ds)
 |_=>none
theorem rP (h:qrS o=some (d,ds)):o=some (.pr,.tup [d,.lst ds]):=by
 unfold qrS at h;split at h
 ·cases h;rfl
 ·cases h
def apQ (i:Nat) (R:Vv->Option D):Ev->Option Out:=λY=>(qrS (jt Y i)).bind λw=>(R (shv Y)).bind λd=>
 if w.2.length+1<big then some (.nx (Y.set i (some (.pr,.tup [w.1,.lst (w.2++[d])]))))else none
theorem F4 (i:Nat) (h:PP X e R) (hk:PP X k1 λ_=>some (.int 1)) (hx:dN k1) (hN:X.N[i]?=some x) (hv:Vis X.env.scope x) (hd:(x==("__debug__":Str))=false) (hcd:(x==("__classdict__":Str))=false) (hst:starEach [e] X.env=(false,eval e X.env)::starEach [] X.env) (hline:(apos.endLine==cpos.line)=true):
  PR X (.Expr (.Call (.Attribute (.Subscript (.Name x px) k1 sp) "append" apos) [e] [] cpos) pos) (apQ i R):=λB O Y=>
 (dj (jj PySem.F.plainAttrs_list PySem.F.slot_list_append PySem.F.type_list_append ig (oI ix_tup (cF hN hv hd hcd) (hk noO (vw Y)) hx)
  (bx (h O (shv Y)) pa_nil hst) rfl (by rw[hst];rfl) hline hst rfl)).imp λEn σ H ⟨E,o,q,k⟩=>by
 obtain⟨⟨c,ds2⟩,q1,q⟩:=bind_some q
 obtain⟨d,q4,q⟩:=bind_some q
 obtain⟨hz,q⟩:=ax q
 subst q
 have h0:=cM (rP q1)
 have hz:ds2.length+1<big:=hz
 obtain⟨b,u,a2,ys,g1,g5,g6,g7,_⟩:=E.changeQ fP p8 (d:=.non) (v:=.non) h0 rfl
 refine⟨.ref b,g1,E.view,_,rfl,λyv H1 s1 iy=>?_⟩
 cases(show yv=.int 1 from iy)
 have E1:=E.grow s1
 refine⟨b,[u,.ref a2],1,.ref a2,rfl,rfl,SqT.of (s1 _ _ g5),rfl,.inl ⟨rfl,_,SqL.of (s1 _ _ g6)⟩,E1.viewS,d,q4,λv H3 s3 iv=>?_⟩
 have s13:=s1.trans s3
 obtain⟨b',u',a2',ys',k1,k5,k6,k7,k8,k9⟩:=(E1.grow s3).changeQ fP p8 h0 iv
 rw[g1]at k1
 cases k1
 rw[s13 _ _ g5]at k5
 cases k5
 exact⟨a2,ys',v,rfl,rfl,k6,by rw[gb,<-k7];exact Nat.lt_of_succ_lt hz,k σ _ O (s13.msk.trans k9) k8⟩
def rvQ (i:Nat):Ev->Option Out:=λY=>(qrS (jt Y i)).bind λw=>some (.nx (Y.set i (some (.pr,.tup [w.1,.lst w.2.reverse]))))
theorem F5 (i:Nat) (hk:PP X k1 λ_=>some (.int 1)) (hx:dN k1) (hN:X.N[i]?=some x) (hv:Vis X.env.scope x) (hd:(x==("__debug__":Str))=false) (hcd:(x==("__classdict__":Str))=false) (hline:(apos.endLine==cpos.line)=true):
  PR X (.Expr (.Call (.Attribute (.Subscript (.Name x px) k1 sp) "reverse" apos) [] [] cpos) pos) (rvQ i):=λB O Y=>
 (dj (yh PySem.F.plainAttrs_list PySem.F.slot_list_reverse PySem.F.type_list_reverse mr (oI ix_tup (cF hN hv hd hcd) (hk noO (vw Y)) hx) rfl hline)).imp λEn σ H ⟨E,o,q,k⟩=>by
 obtain⟨⟨c,ds2⟩,q1,q⟩:=bind_some q
 cases q
 have h0:=cM (rP q1)
 obtain⟨b,u,a2,ys,g1,g5,g6,g7,_⟩:=E.changeQ zn zo (d:=.non) (v:=.non) h0 rfl
 refine⟨.ref b,g1,E.view,_,rfl,λyv H1 s1 iy=>?_⟩
 cases(show yv=.int 1 from iy)
 have E1:=E.grow s1
 obtain⟨b',u',a2',ys',k1,k5,k6,k7,k8,k9⟩:=E1.changeQ zn zo (d:=.non) (v:=.non) h0 rfl
 rw[g1]at k1
 cases k1
 rw[s1 _ _ g5]at k5
 cases k5
 exact⟨b,[u,.ref a2],1,.ref a2,rfl,rfl,SqT.of (s1 _ _ g5),rfl,.inl ⟨rfl,_,SqL.of (s1 _ _ g6)⟩,a2,ys',rfl,rfl,k6,k σ _ O (s1.msk.trans k9) k8⟩
def rtQ (i:Nat) (L:Vv->Option (List D)):Ev->Option Out:=λY=>(jt Y i).bind λs=>if s.1=.sh then(L (shv Y)).bind λds=>some (.rt (.pr,.tup [s.2,.lst ds]))else none
theorem F6 (i:Nat) {x1 L} (h:PFu X e L) (hN:X.N[i]?=some x) (hv:Vis X.env.scope x) (hd:(x==("__debug__":Str))=false) (hcd:(x==("__classdict__":Str))=false) (hs:starEach [e] X.env=(false,eval e X.env)::starEach [] X.env):PR X (.Return (some (.Tuple [.Name x px,e] x1 p2)) pos) (rtQ i L):=λB O Y=>
 (tf (tH (bx (cF hN hv hd hcd) (bx (h O (shv Y)).1 pa_nil hs)))).imp λEn σ H ⟨E,o,q,k⟩=>by
 obtain⟨⟨ct,d⟩,q1,q2⟩:=bind_some q;have hc:ct=.sh:=by
  by_cases hc:ct=.sh
  ·exact hc
  ·rw[if_neg hc]at q2;cases q2
 have q3:=q2;rw[if_pos hc]at q3;cases hc;obtain⟨ds,q4,q5⟩:=bind_some q3;cases q5;obtain⟨F,h1,h2,h3,h4⟩:=E.fp;obtain⟨v,e0,_,iv⟩:=h1 i _ (cM q1);refine⟨v,e0,E.viewS,ds,q4,λl xs H1 s1 hl il=>?_⟩;refine⟨show 2<=sizeLine by decide,λt ht=>k _ _ ?_⟩;have E1:=E.grow s1;have n1:Same H1 (upd H1 l (.lst xs)):=Same.new hl;have n2:Same (upd H1 l (.lst xs)) (upd (upd H1 l (.lst xs)) t (.tup [v,.ref l])):=Same.new ht;have tl:t≠l:=λz=>by rw[z,ar]at ht;cases ht
 have ht1:H1 t=none:=by rw[au tl]at ht;exact ht
 have Ol:O l=false:=E1.fresh hl;have Ot:O t=false:=E1.fresh ht1;have sm:Same (msk O H1) (msk (λb=>O b||decide (b=l)) (upd (upd H1 l (.lst xs)) t (.tup [v,.ref l]))):=λb o hb=>by
  obtain⟨m1,m2⟩:=bv hb;have hbl:b≠l:=aH m2 hl;rw[aS (by simp[m1,hbl])];exact n2 _ _ (n1 _ _ m2)
 refine⟨λb=>O b||decide (b=l),[l],λb o hb=>n2 _ _ (n1 _ _ (s1 _ _ (E.same b o hb))),λb hb=>by simp[E.sub b hb],λb hb=>?_,by simp,λa ha=>?_,?_⟩
 ·rcases(Bool.or_eq_true _ _).mp hb with hb|hb
  ·exact((E1.lis b hb).same n1).same n2
  ·rw[of_decide_eq_true hb,au (Ne.symm tl),ar];exact .inl ⟨_,rfl⟩
 ·rw[mem_singleton.mp ha];refine⟨by simp,?_⟩;cases hq:B.H l with
  |none=>rfl
  |some o=>have:=s1 _ _ (E.same _ _ hq);rw[hl]at this;cases this
 ·exact⟨t,v,l,d,ds,xs,rfl,rfl,by rw[aS (by simp[Ot,tl]),ar],Is.mono (s1.msk.trans sm) _ _ iv,rfl,by rw[au (Ne.symm tl),ar],IsL.mono sm _ _ il⟩
def evQ (fa:Vv->Option (List D)) (f:List D->Option Sl):Ev->Option (Sl×Ev):=λY=>(fa (vw Y)).bind λds=>(f ds).bind λs=>if s.1=.pr then some (s,cH Y)else none
theorem LG (F:Df X.prog X.w X.K X.mg X.base x k f) (hr:Room k X.A) (hg:Gl X x) (ha:PX X (e::es) fa) (hdb:(x==("__debug__":Str))=false) (he:starEach (e::es) X.env=(false,eval e X.env)::starEach es X.env) (hpl:(backTo pos (starEach es X.env)).any (·.1)=false):
  PEv X (.Call (.Name x p) (e::es) [] pos) (evQ fa f):=λB O Y=>by
 obtain⟨a,fd,ps,hm,hk,hb,G⟩:=F.ex
 refine PE.pu ((pM G hr hg hm hk hb .nil oM (ha B.O (vw Y)) hdb he hpl).imp λσ H Q ⟨E,s,Y',q,kk⟩=>?_) rfl
 obtain⟨ds,q1,q2⟩:=bind_some q
 obtain⟨s',q3,q4⟩:=bind_some q2
 obtain⟨hs,q5⟩:=ax q4
 cases q5
 obtain⟨E',le⟩:=E.frozen
 refine⟨E.viewF,ds,q1,λvs H1 s1 il=>?_⟩
 show spC X.K f (vs++[]) H1 Q E0
 rw[List.append_nil]
 have E1:=E'.grow s1
 refine⟨B.O,ds,s,E1.lis,il,q3,λv H2 r=>?_⟩
 obtain⟨O',A,r1,r2,r3,r4,r5,r6⟩:=r
 have s2:Same H1 H2:=r1
 have hO:∀b,(B.O b||decide (b∈A))=true->O' b=true:=λb hb=>by
  rcases(Bool.or_eq_true _ _).mp hb with hb|hb
  ·exact r2 b hb
  ·exact(r5 b (of_decide_eq_true hb)).1
 have sm:Same (msk O' H2) (msk (λb=>B.O b||decide (b∈A)) H2):=λb o hb=>by
  obtain⟨m1,m2⟩:=bv hb;refine(aS ?_).trans m2;cases hq:(B.O b||decide (b∈A))with
  |false=>rfl
  |true=>rw[hO b hq]at m1;cases m1
 have l2:Same (msk B.O H1) (msk (λb=>B.O b||decide (b∈A)) H2):=λb o hb=>by
  obtain⟨m1,m2⟩:=bv hb;have:b ∉ A:=λz=>by have:=(r5 b z).2;rw[show H1 b=none from this]at m2;cases m2
  rw[aS (by simp[m1,this])];exact s2 _ _ m2
 exact kk v H2 _ (le.trans (s1.msk.trans l2)) (E1.more s2 l2 (λb hb=>by simpa using hb) (λb hb=>by simp[hb]) (λb hb=>by simp[hb]) (λa ha=>r3 a (r5 a ha).1) r4 (λa ha=>(r5 a ha).2) (r6.frame sm λ_ _ _ h=>h))
end
section
variable {X:Cx} {a b:Expr} {pos:Pos}
def zp (K:Frag):R2:=λx y H Q=>∃a b ys,x=.ref a/\y=.ref b/\SqT K H a []/\SqT K H b ys/\Q (.ref b) H
theorem zq:OpR X (binaryOp .Add) (zp X.K):=by
 intro pins s σ H x y v u Q I rx ry h;obtain⟨a,b,ys,rfl,rfl,ha,hb,q⟩:=h;cases rx;cases ry;obtain⟨its,r1,p1,_⟩:=I.tuple ha;obtain⟨its2,r2,p2,_⟩:=I.tuple hb;have hn:=r1.nil_iff.mpr rfl;subst hn;obtain⟨⟨cls,dd,data,sl⟩,ho,hc,n,hd⟩:=id p1;obtain⟨⟨cls2,dd2,data2,sl2⟩,ho2,hc2,n2,hd2⟩:=id p2;subst hc hd hc2 hd2;exact concat_meets ⟨_,ho,rfl⟩ ⟨_,ho2,rfl⟩ noFill_tuple_add seq_tuple_add PySem.F.slot_tuple_add PySem.F.entry_tuple_add (PySem.F.args_tuple_add_2 _ _) (tuple_addW0 a b _ _ n n2 dd dd2 sl sl2 rfl) ⟨ho,ho2,.ref b,H,I,rfl,q⟩
def rTT (K:Frag):R2:=λx y H Q=>DM K x y H Q\/zp K x y H Q
theorem Jx:OpR X (binaryOp .Add) (rTT X.K):=λpins s σ H x y v u Q I rx ry h=>h.elim (BG pins s σ H x y v u Q I rx ry) (zq pins s σ H x y v u Q I rx ry)
def LH:D->D->Option D
 |.tup a,.tup b=>if a.length+b.length<big then some (.tup (a++b))else none
 |_,_=>none
theorem LI {K}:R2D K (rTT K) LH:=λO H x y dx dy d Q hd ix iy e k=>by
 cases dx with
 |tup as=>
  cases dy with
  |tup bs=>
   obtain⟨hz,e⟩:=ax (e);subst e;obtain⟨p,us,rfl,t1,l1⟩:=ix;obtain⟨q,ws,rfl,t2,l2⟩:=iy;have hl1:=l1.len;have hl2:=l2.len;cases as with
   |nil=>
    have hu:=List.length_eq_zero_iff.mp (by rw[<-hl1];rfl);subst hu;exact .inr ⟨p,q,ws,rfl,rfl,msk_le.seqT t1,msk_le.seqT t2,k _ H (Same.refl _) ⟨q,ws,rfl,t2,l2⟩⟩
   |cons a as=>
    have hu:us≠[]:=λz=>by rw[z]at hl1;cases hl1
    refine .inl ⟨p,q,us,ws,rfl,rfl,msk_le.seqT t1,msk_le.seqT t2,hu,by rw[<-hl1,<-hl2];exact Nat.le_of_lt hz,λz=>?_,λz c hc=>?_⟩
    ·subst z;have hb:=List.length_eq_zero_iff.mp (by rw[hl2];rfl);subst hb;rw[List.append_nil]at k;exact k _ H (Same.refl _) ⟨p,us,rfl,t1,l1⟩
    ·have hO:=fL hd hc;have le:Same (msk O H) (msk O (upd H c (.tup (us++ws)))):=by rw[lS hO];exact Same.new (by rw[aS hO];exact hc)
     exact k _ _ (Same.new hc) ⟨c,us++ws,rfl,.of (by rw[aS hO,ar]),IsL.mono le _ _ (l1.app l2)⟩
  |_=>cases e
 |_=>cases e
def b9:D->D->Option D
 |.int i,.int j=>some (.int (i+j))
 |.tup a,.tup b=>if a.length+b.length<big then some (.tup (a++b))else none
 |_,_=>none
theorem F7 (ha:PP X a fa) (hb:PP X b fb):PP X (.BinOp a .Add b pos) (ac b9 fa fb):=λO Y=>(BP ha hb O Y).by2 (kU Jx LI ha hb O Y) λσ H Q ⟨E,d,q,k⟩=>by
 obtain⟨x,e1,q⟩:=bind_some q;obtain⟨y,e2,q⟩:=bind_some q;have w1:∀g:D->D->Option D,ac g fa fb Y=g x y:=λg=>by show(fa Y).bind _=_;rw[e1];show(fb Y).bind _=_;rw[e2];rfl
 cases x<;>cases y<;>first
  |exact .inl ⟨E,d,by rw[w1];exact q,k⟩
  |exact .inr ⟨E,d,by rw[w1];exact q,k⟩
def xn (k:Int) (ns:List Int):Option Nat:=ns.findIdx? λn=>n==k
def LJ (K:Frag):V->List V->Hp->VK->Prop:=λx vs H Q=>∃ (l:Addr) (ns:List Int) (k:Int) (j:Nat),x=.ref l/\vs=[.int k]/\SqL K H l (ns.map V.int)/\xn k ns=some j/\Q (.int (j:Int)) H
theorem zr (h:xn k ns=some j):∃hj:j<ns.length,ns[j]=k/\∀i (hi:i<ns.length),i<j->ns[i]≠k:=by
 obtain⟨hj,h1,h2⟩:=List.findIdx?_eq_some_iff_getElem.mp h;exact⟨hj,by simpa using h1,λi hi hlt=>by have:=h2 i hlt;simpa using this⟩
theorem zt:MtM X "list.index" (LJ X.K):=by
 intro pins s σ H x vs v us Q I rx rv h;obtain⟨l,ns,k,j,rfl,rfl,hx,hj,q⟩:=h;cases rx;obtain⟨u,rfl,ru⟩:=rv.one;obtain⟨t,rfl⟩:=ru;obtain⟨its,r,⟨⟨c1,d1,t1,s1⟩,n1,e1,k1,_,w1⟩,hz⟩:=I.list hx;simp only at k1 w1;subst k1 w1;obtain⟨hjl,hit,hno⟩:=zr hj;have hl:=r.length;rw[length_map]at hl hz;have get:∀i (hi:i<its.length) (hi2:i<ns.length),isInt k its[i]=(ns[i]==k):=λi hi hi2=>by
  obtain⟨w,hw,rw'⟩:=r.get (show(ns.map V.int)[i]?=some (V.int ns[i])by rw[getElem?_map,getElem?_eq_getElem hi2];rfl);rw[getElem?_eq_getElem hi]at hw;cases hw;obtain⟨t',e⟩:=rw';rw[e];rfl
 have hs:(j:Int)<2^63-1:=by
  have:sizeLine<2^62:=by decide
  omega
 refine call_meets F.slot_list_index ⟨_,e1,rfl⟩ F.entry_list_index (F.args_list_index_2 _ _) (PySem.SeqAt.list_indexAt l its.toArray n1 d1 s1 (.int k t) (isInt k) j (by rw[size_toArray];omega) hs ?_ ?_) ⟨e1,λy hy=>?_,?_⟩
 ·have:=get j (by omega) hjl;simp only[List.getElem_toArray];rw[this,hit];simp
 ·intro m hm hlt;have hm':m<its.length:=by simpa using hm
  have:=get m hm' (by omega);simp only[List.getElem_toArray];rw[this];simpa using hno m (by omega) hlt
 ·have hy':y∈its:=by simpa using hy
  obtain⟨i,hi⟩:=List.mem_iff_getElem?.mp hy';have hil:i<its.length:=(List.getElem?_eq_some_iff.mp hi).1;obtain⟨w,hw,rw'⟩:=r.get (show(ns.map V.int)[i]?=some (V.int (ns[i]'(by omega)))by rw[getElem?_map,getElem?_eq_getElem (by omega)];rfl);rw[hi]at hw;cases hw;obtain⟨t',e⟩:=rw';subst e;exact PySem.SeqAt.EqAt.int_int _ t' k t
 ·exact⟨.int (j:Int),H,I.kept (t':=s.toks+1) λb o ho=>ho,⟨_,rfl⟩,q⟩
def xo (fo fk:Vv->Option D):Vv->Option D:=λY=>(fo Y).bind λl=>(fN l).bind λds=>(dZ ds).bind λns=>(fk Y).bind λy=>(gH y).bind λk=>(xn k ns).bind λj=>some (.int (j:Int))
theorem zv (ho:PP X (.Name x px) fo) (hk:PP X e fk) (hst:starEach [e] X.env=(false,eval e X.env)::starEach [] X.env) (hl:(ap.endLine==cp.line)=true):
  PP X (.Call (.Attribute (.Name x px) "index" ap) [e] [] cp) (xo fo fk):=λO Y=>
 (jj PySem.F.plainAttrs_list PySem.F.slot_list_index PySem.F.type_list_index zt (ho O Y) (bx (hk O Y) pa_nil hst) rfl (by rw[hst];rfl) hl hst rfl).imp λσ H Q ⟨E,d,q,k⟩=>by
 obtain⟨l,q1,qa⟩:=bind_some q
 obtain⟨ds,q2,qb⟩:=bind_some qa
 obtain⟨ns,q3,qc⟩:=bind_some qb
 obtain⟨y,q4,qd⟩:=bind_some qc
 obtain⟨n,q5,qe⟩:=bind_some qd
 obtain⟨j,q6,qf⟩:=bind_some qe
 cases qf
 cases intD_some q5
 refine⟨E,l,q1,λv H1 s1 i1=>?_⟩
 obtain⟨p,xs,rfl,t,il⟩:=dO q2 i1
 refine⟨.inl ⟨rfl,xs,msk_le.seq t⟩,E.grow s1,_,q4,λyv H2 s2 iy=>?_⟩
 cases(show yv=.int n from iy)
 have hx:=fM q3 il
 subst hx
 exact⟨p,ns,n,j,rfl,rfl,s2.seq (msk_le.seq t),q6,k _ H2 (s1.trans s2) rfl⟩
end
section
variable {X:Cx} {a:Expr} {p pc pos:Pos}
theorem zw:dM X (.builtin "isinstance") (λxs H Q=>∃a dx fs,xs=[.ref a,.ref Ca]/\H a=some (.ins Ca dx fs)/\Q (.bl true) H):=by
 intro pins s σ H xs us Q I r ⟨a,dx,fs,e,ea,q⟩;subst e;obtain⟨u1,u2,rfl,r1,r2⟩:=oB r;cases(show u1=Value.ref a from r1);cases(show u2=Value.ref Ca from r2);obtain⟨mA,O,_⟩:=lR I.hok ea;obtain⟨od,J,_⟩:=O.look;refine call_isinstance_of ?_ (λz=>nomatch z);unfold Builtin.«isinstance.nested»;refine wpAny_bind ((J.type).at ?_);rw[if_pos (beq_self_eq_true _)];repeat (first|refine wpAny_pure ?_|refine wpAny_rule ?_|refine wpAny_bind ?_)
 exact⟨.bl true,H,I,rfl,q⟩
def Jy (C:Str):D->Option D
 |.obj C' _ _=>if C'=C then some (.bl true)else none
 |_=>none
def F8 (C:Str) (f:Vv->Option D):Vv->Option D:=λY=>(f Y).bind (Jy C)
theorem F9 (ha:PP X a fa) (hg:Gl X "isinstance") (hm:X.mg "isinstance"=none) (gC:Gl X C) (mC:X.mg C=some (.ref Ca)) (nC:nsIn X.K mainGlobals C=some (some (.ref Ca))) (hd:(C==("__debug__":Str))=false) (hs:starEach [a,.Name C pc] X.env=(false,eval a X.env)::starEach [.Name C pc] X.env):PP X (.Call (.Name "isinstance" p) [a,.Name C pc] [] pos) (F8 C fa):=λO Y=>by
 refine(jh (zw (Ca:=Ca)) hg hm (by decide+kernel) (bx (ha O Y) (bx (uY (v:=.ref Ca) gC mC rfl hd) pa_nil) hs) (by decide) (by decide) hs).imp λσ H Q ⟨E,d,q,k⟩=>?_;obtain⟨dv,q1,q2⟩:=bind_some q;refine⟨E,dv,q1,λv H1 s1 iv=>?_⟩;cases dv with
 |obj C' ns ds=>
  obtain⟨rfl,q3⟩:=ax (show(if C'=C then some (D.bl true)else none)=some d from q2);subst q3;obtain⟨b,Cb,dx,fs,rfl,h0,h1,_⟩:=iv;rw[nC]at h0;cases h0;exact⟨b,dx,fs,rfl,msk_le _ _ h1,k _ H1 s1 rfl⟩
 |_=>cases q2
end
section
variable {prog:Program} {w:World} {A:Around} {E:Value->Shared->Prop} {s:Shared} {T:String} {r d:Addr} {n:Nat} {P:Nat->Value->Prop} {OK:Heap->Prop}
theorem rQ (K:PySem.W.KdlSrc prog w T r d n P OK) (hh:A.handled=none) (hok:OK s.heap) (hn:n<=sizeLine) (hQ:∀h' tk acc',(∀b o,s.heap.get? b=some o->h'.get? b=some o)->s.heap.objs.size<h'.objs.size->ItemsOf P acc' n->Q acc'.toList {s with heap:=h',toks:=tk}):wpAny (model prog w) A (collect (.ref r)) Q E s:=by
 unfold collect;refine wpAny_bind (wpAny_runValue (codeAny_builtin F.entry_proto_collect ?_));rw[Around.under_plainId F.plain_proto_collect _];show wpAny _ A.in1 (newList []>>=λl=>again (.builtin "list.__iadd__" ⟨[l,.ref r],[]⟩)) _ _ s;refine wpAny_bind (wpAny_newObj_type ?_);refine wpAny_pure ⟨plainId_quiet F.plain_list_iadd _,codeAny_builtin F.entry_list_iadd ?_⟩;rw[Around.under_plainId F.plain_list_iadd _];have hlt:=K.there _ hok;have hS₁:(s.heap.push {cls:=.type "list",data:=.seq ([]:List Value).toArray}).get? s.heap.objs.size=some {cls:=.type "list",data:=.seq ([]:List Value).toArray}:=Heap.get?_push_size _ rfl;show wpAny _ A.in1 (Builtin.List.listExtendWith (.ref s.heap.objs.size) (.ref r) (.ref s.heap.objs.size)) _ _ _;refine PySem.W.kdl_extend (R:=λr s'=>match r with
  |.ok (.ret v)=>wpAny (model prog w) A (match v with
   |.ref a=>do
    let o<-load a
    match o.data with
    |.seq xs _=>pure xs.toList
    |_=>unsupported "internal:collect"
   |_=>unsupported "internal:collect") Q E s'
  |.ok _=>False
  |.error e=>E e s') (A:=A) (s:={s with heap:=s.heap.push {cls:=.type "list",data:=.seq ([]:List Value).toArray}}) K hh (K.keep _ _ hok λb _ o e=>Heap.get?_push_of_some _ e) _ (Nat.ne_of_gt hlt.1) (Nat.ne_of_gt hlt.2) _ _ hS₁ (λh' tk acc' c' hk hS' hacc=>?_) hn
 show wpAny _ A (load s.heap.objs.size>>=_) _ _ _;refine wpAny_bind (wpAny_load hS' ?_);exact wpAny_pure (hQ h' tk acc' (λb o e=>hk b o (Nat.ne_of_lt (Heap.lt_size e)) (Heap.get?_push_of_some _ e)) (Heap.lt_size hS') hacc)
theorem uh (K:PySem.W.KdlSrc prog w T r d n P OK) (hh:A.handled=none) (hok:OK s.heap) (hn:n<64) (hP:∀acc:Array Value,ItemsOf P acc n->IntsAre acc.toList ns) (h:∀h' tk (out:Array Value) ns' a e,(∀b o,s.heap.get? b=some o->h'.get? b=some o)->s.heap.objs.size<=a->h'.get? a=some (seqObj "list" out e)->IntsAre out.toList ns'->ns'.Perm ns->ns'.Pairwise (·<=·)->Q (.ref a) {s with heap:=h',toks:=tk}):
  wpAny (model prog w) A (call (.builtin "sorted") [.ref r]) Q E s:=by
 refine Calls.call_function_entry kind_sorted plain_sorted entry_sorted (args_sorted1 _) ?_
 unfold Builtin.«sorted»
 have z64:(64:Nat)<=sizeLine:=by decide
 refine wpAny_bind (m:=checkCount "sorted" 1 1 _) (wpAny_pure ?_)
 refine wpAny_bind (rQ (A:=A.in1) K hh hok (by omega) λh1 tk acc hk hlt1 hacc=>?_)
 have hI:=hP acc hacc
 have hsz:acc.size=n:=hacc.1
 refine wpAny_bind (wpAny_newList ?_ (by rw[Array.length_toList];omega))
 have hoL:(h1.push (seqObj "list" acc.toList.toArray 0)).get? h1.objs.size=some (seqObj "list" acc.toList.toArray 0):=Heap.get?_push_size _ rfl
 show wpAny _ _ _ _ _ {s with heap:=h1.push (seqObj "list" acc.toList.toArray 0),toks:=tk}
 refine wpAny_bind (wpAny_holding (wpAny_call_entry slot_list_sort ⟨_,hoL,rfl⟩ entry_list_sort (list_sort_tree hoL hI (by rw[Array.length_toList];omega) λout ns' a1 a2 a3=>⟨_,rfl,?_⟩) (args_list_sort _)))
 obtain⟨e,he⟩:=sortedHeap_at (out:=out) hoL
 refine wpAny_pure ⟨_,rfl,h _ tk out ns' _ e (λb o hb=>?_) ?_ he a1 a2 a3⟩
 ·have hlt:b<h1.objs.size:=Heap.lt_size (hk b o hb);rw[sortedHeap_old (Nat.ne_of_lt hlt) (by rw[size_push'];exact Nat.lt_succ_of_lt hlt),Heap.get?_push_ne _ _ _ (Nat.ne_of_lt hlt)];exact hk b o hb
 ·exact Nat.le_of_lt hlt1
end
theorem xq:∀ {ns:List Int},vs.length=ns.length->(∀ (j:Nat) (v:Value),vs[j]?=some v->∃n t,ns[j]?=some n/\v=Value.int n t)->IntsAre vs ns:=by
 induction vs with
 |nil=>
  intro ns hl _;cases ns with
  |nil=>exact .nil
  |cons _ _=>cases hl
 |cons v vs ih=>
  intro ns hl h;cases ns with
  |nil=>cases hl
  |cons n ns=>
   obtain⟨m,t,e1,e2⟩:=h 0 v List.getElem?_cons_zero;cases e1;subst e2;exact .cons n t (ih (by simpa using hl) λj v q=>h (j+1) v (by simpa using q))
section
variable {X:Cx} {a:Expr} {p pos:Pos}
def Ga:List V->Hp->VK->Prop:=λvs H Q=>∃l kvs ns,vs=[.ref l]/\Rd H l (.dK kvs)/\kvs.map (·.1)=ns.map Sum.inl/\ns.length<64/\∀q,H q=none->Q (.ref q) (upd H q (.lst ((gx ns).map V.int)))
theorem ui (hc:X.calm=true):dM X (.builtin "sorted") Ga:=by
 intro pins s σ H xs us Q I r h;obtain⟨l,kvs,ns,rfl,hx,hk,h64,q⟩:=h;obtain⟨u,rfl,ru⟩:=fK r;cases ru;obtain⟨z,hd,vs,rel,dd⟩:=DP I.hok hx;obtain⟨o,es,ep,d1,d2,d3,d4,d5,d6⟩:=dd;have hl:kvs.length=ns.length:=by have:=congrArg List.length hk;rwa [length_map,length_map]at this
 have hlv:vs.length=ns.length:=by rw[<-rel.length];exact hl
 have keys:vs.map (·.1)=ns.map Sum.inl:=by
  rw[<-hk];clear hk hl hlv d5 d6 hx z;induction rel with
  |nil=>rfl
  |cons h _ ih=>rw[List.map_cons,List.map_cons,ih];congr 1;exact h.1.symm
 refine uh (ns:=ns) (PySem.W.kdl_dict (knd:=cR X.prog X.w) (kvs:=vs) (ep:=ep) hd) (I.ok.hd hc) ⟨o,es,d1,d2,d3,d4,d5,d6⟩ (by omega) (λacc hacc=>?_) λh' tk out ms b e hold hb he h1 h2 h3=>?_
 ·refine xq (by rw[Array.length_toList,hacc.1];exact hlv) λj v hv=>?_;obtain⟨k,x,e1,e2⟩:=hacc.2 j v (by rw[<-Array.getElem?_toList];exact hv);have e3:(vs.map (·.1))[j]?=some k:=by rw[getElem?_map,e1];rfl
  rw[keys,getElem?_map]at e3;cases hn:ns[j]? with
  |none=>rw[hn]at e3;cases e3
  |some m=>
   rw[hn]at e3;cases e3;rcases keyIs_shape (show keyIs (Sum.inl m) v=true from e2)with⟨i,t,z1,z2⟩|⟨i,t,z1,z2⟩
   ·cases z1;exact⟨m,t,rfl,z2⟩
   ·cases z1
 ·have z:=ud h2 h3;subst z;refine⟨.ref _,_,I.laid (t':=tk) hold hb (o:=.lst ((gx ns).map V.int)) ⟨?_,out.toList,e,j7 h1,by simpa using he⟩,rfl,q _ (I.hok.fresh hb)⟩;rw[length_map,h2.length_eq];have:(64:Nat)<=sizeLine:=by decide
  omega
def uj:List Key->Option (List Int)
 |[]=>some []
 |.inl n::ks=>(uj ks).bind λns=>some (n::ns)
 |.inr _::_=>none
theorem pd:∀ {ks:List Key} {ns:List Int},uj ks=some ns->ks=ns.map Sum.inl
 |[],ns,h=>by cases h;rfl
 |.inl n::ks,ns,h=>by
  obtain⟨ms,h1,h2⟩:=bind_some (show(uj ks).bind _=some ns from h);cases h2;rw[pd h1];rfl
 |.inr _::_,ns,h=>by cases h
def vD:List D->Option (List D):=un1 λd=>match d with
 |.dct ks _=>(uj ks).bind λns=>if ns.length<64 then some ((gx ns).map D.int)else none
 |_=>none
theorem zx (hc:X.calm=true) (hg:Gl X "sorted") (hm:X.mg "sorted"=none) (ha:PX X [a] fa) (hs:starEach [a] X.env=[(false,eval a X.env)]):
  PF X (.Call (.Name "sorted" p) [a] [] pos) (λY=>(fa Y).bind vD):=λO Y=>(jh (ui hc) hg hm zj (ha O Y) (by decide) (by decide) (by rw[hs];rfl) rfl).imp λσ H Q ⟨E,ds,q,k⟩=>by
 obtain⟨as,e1,q⟩:=bind_some q
 refine⟨E,as,e1,λvs H1 s1 il=>?_⟩
 obtain⟨c,rfl,q2⟩:=bw q
 obtain⟨v,rfl,h⟩:=is1 il
 split at q2
 ·obtain⟨ns,q5,q6⟩:=bind_some q2;obtain⟨h64,q7⟩:=ax q6;subst q7;obtain⟨l,kvs,rfl,t,hk,_⟩:=h;exact⟨l,kvs,ns,rfl,Rd.of (msk_le _ _ t),by rw[hk];exact pd q5,h64,λb hb=>k b _ H1 s1 hb (jx _)⟩
 ·cases q2
end
section
variable {K:Frag} {M H:Hp}
theorem DeepL.zoom:∀ {ds:List D} {xs:List V} {A:List Addr} {j:Nat},DeepL K M H ds xs A->A.Nodup->ds[j]?=some d->
  ∃v A1,xs[j]?=some v/\Deep K M H d v A1/\(∀c∈A1,c∈A)/\A1.Nodup/\∀ (H':Hp) d' A1',(∀c∈A,c ∉ A1->H' c=H c)->A1'.Perm A1->Deep K M H' d' v A1'->∃A',A'.Perm A/\DeepL K M H' (ds.set j d') xs A'
 |[],xs,A,j,h,nd,e=>by simp at e
 |d0::ds,xs,A,0,⟨x,r,A1,A2,e1,e2,h1,h2⟩,nd,e=>by
  simp at e;subst e e1 e2;obtain⟨n1,n2,n3⟩:=List.nodup_append.mp nd;refine⟨x,A1,rfl,h1,λc h=>mem_append_left _ h,n1,λH' d' A1' fr p q=>⟨A1'++A2,p.append_right _,x,r,A1',A2,rfl,rfl,q,DeepL.frame (NL.of (Same.refl _)) _ _ _ (λb hb o z=>?_) h2⟩⟩;rw[fr b (mem_append_right _ hb) (λz2=>n3 b z2 b hb rfl)];exact z
 |d0::ds,xs,A,j+1,⟨x,r,A1,A2,e1,e2,h1,h2⟩,nd,e=>by
  subst e1 e2;obtain⟨n1,n2,n3⟩:=List.nodup_append.mp nd;obtain⟨v,B1,f1,f2,f3,f4,f5⟩:=DeepL.zoom h2 n2 (show ds[j]?=some d by simpa using e);refine⟨v,B1,by simpa using f1,f2,λc h=>mem_append_right _ (f3 c h),f4,λH' d' A1' fr p q=>?_⟩;obtain⟨A',p',q'⟩:=f5 H' d' A1' (λc hc=>fr c (mem_append_right _ hc)) p q;refine⟨A1++A',p'.append_left _,x,r,A1,A',rfl,rfl,Deep.frame (NL.of (Same.refl _)) _ _ _ (λb hb o z=>?_) h1,q'⟩;rw[fr b (mem_append_left _ hb) (λz2=>n3 b hb b (f3 b z2) rfl)];exact z
def Zm (K:Frag) (M H:Hp) (v:V) (A:List Addr) (d2:D) (v2:V) (A2:List Addr) (put:D->D):Prop:=
 Deep K M H d2 v2 A2/\(∀c∈A2,c∈A)/\A2.Nodup/\∀ (H':Hp) d' A',(∀c∈A,c ∉ A2->H' c=H c)->A'.Perm A2->Deep K M H' d' v2 A'->∃A'',A''.Perm A/\Deep K M H' (put d') v A''
theorem Zm.lst (h:Zm K M H v A (.lst ds2) v2 A2 put):∃a2 ys,v2=.ref a2/\H a2=some (.lst ys)/\ds2.length=ys.length/\a2∈A/\∃A3,DeepL K M H ds2 ys A3/\
  ∀ds2' ys' A3',A3'.Perm A3->DeepL K M H ds2' ys' A3'->∃A'',A''.Perm A/\Deep K M (upd H a2 (.lst ys')) (put (.lst ds2')) v A'':=by
 obtain⟨⟨a2,ys,A3,e1,e2,e3,l⟩,sb,nd,k⟩:=h
 subst e1 e3
 obtain⟨n1,n2⟩:=List.nodup_cons.mp nd
 refine⟨a2,ys,rfl,e2,DeepL.len l,sb _ (mem_cons_self ..),A3,l,λds2' ys' A3' p q=>k _ _ (a2::A3') (λc _ hc=>au λz=>hc (z▸mem_cons_self ..)) (p.cons _) ⟨a2,ys',A3',rfl,ar,rfl,DeepL.frame (NL.of (Same.refl _)) _ _ _ (λb hb o z=>?_) q⟩⟩
 rw[au (show b≠a2 fromλz2=>n1 (p.mem_iff.mp (z2▸hb)))];exact z
end
section
variable {K:Frag} {B:Bs} {O:Addr->Bool} {σ:St} {H:Hp} {Y:Ev}
theorem EnvOk.zoom (E:EnvOk K B O σ H Y) {i:Nat} (h:Y[i]?=some (some (.deep,d))):∃v A,σ[i]?=some (some v)/\Deep K (msk O H) H d v A/\A.Nodup/\
  ∀a2 ys' d' A',a2∈A->A'.Perm A->Deep K (msk O H) (upd H a2 (.lst ys')) d' v A'->EnvOk K B O σ (upd H a2 (.lst ys')) (Y.set i (some (.deep,d')))/\Same (msk O H) (msk O (upd H a2 (.lst ys'))):=by
 obtain⟨F,h1,h2,h3,h4⟩:=E.fp
 obtain⟨v,e0,o0⟩:=h1 i _ h
 refine⟨v,F i,e0,o0,h2 i,λa2 ys' d' A' ha2 p q=>?_⟩
 obtain⟨o2,b2⟩:=h4 i a2 ha2
 have me:msk O (upd H a2 (.lst ys'))=msk O H:=f9 o2
 have le:Same (msk O H) (msk O (upd H a2 (.lst ys'))):=by rw[me];exact Same.refl _
 have mem:∀k a,a∈(if k=i then A' else F k)->a∈F k:=λk a hk=>by
  by_cases e:k=i
  ·rw[if_pos e]at hk;rw[e];exact p.mem_iff.mp hk
  ·rw[if_neg e]at hk;exact hk
 refine⟨⟨λc o q=>?_,E.bdom,E.sub,λc hb=>?_,by rw[List.length_set];exact E.len,λk=>if k=i then A' else F k,λk s q'=>?_,λk=>?_,λj k a hj hk=>h3 j k a (mem j a hj) (mem k a hk),λk a hk=>h4 k a (mem k a hk)⟩,le⟩
 ·rw[au (aH q b2)];exact E.same c o q
 ·by_cases e:c=a2
  ·subst e;exact .inl ⟨_,ar⟩
  ·rw[au e];exact E.lis c hb
 ·rcases get_set_some q' with⟨e,q2⟩|⟨e,q2⟩
  ·cases q2;subst e;refine⟨v,e0,?_⟩;dsimp only;rw[if_pos rfl];show Deep K _ _ _ _ _;rw[me];exact q
  ·obtain⟨w,e1,o1⟩:=h1 k s q2;refine⟨w,e1,?_⟩;dsimp only;rw[if_neg e];refine o1.frame le λc hb o z=>?_;have:c≠a2:=λz2=>e (h3 k i a2 (z2▸hb) ha2);rw[au this];exact z
 ·dsimp only;split
  ·exact p.nodup_iff.mpr (h2 i)
  ·exact h2 k
theorem EnvOk.forget (E:EnvOk K B O σ H Y) (i:Nat):EnvOk K B O σ H (Y.set i none) where
 same:=E.same
 bdom:=E.bdom
 sub:=E.sub
 lis:=E.lis
 len:=by rw[List.length_set];exact E.len
 fp:=by
  obtain⟨F,h1,h2,h3,h4⟩:=E.fp;refine⟨F,λj s q=>?_,h2,h3,h4⟩;rcases get_set_some q with⟨e,q'⟩|⟨e,q'⟩
  ·cases q'
  ·exact h1 j s q'
theorem EnvOk.inD (E:EnvOk K B O σ H Y) {i j:Nat} (h:Y[i]?=some (some (.deep,.dct ks ds))) (hj:ds[j]?=some (.lst l)):
  ∃a kvs a2 ys,σ[i]?=some (some (.ref a))/\H a=some (.dK kvs)/\kvs.map (·.1)=ks/\(kvs.map (·.2))[j]?=some (.ref a2)/\H a2=some (.lst ys)/\l.length=ys.length/\∃A3,DeepL K (msk O H) H l ys A3/\
   ∀l' ys' A3',A3'.Perm A3->DeepL K (msk O H) H l' ys' A3'->EnvOk K B O σ (upd H a2 (.lst ys')) (Y.set i (some (.deep,.dct ks (ds.set j (.lst l')))))/\Same (msk O H) (msk O (upd H a2 (.lst ys'))):=by
 obtain⟨v,A,e0,dp,nd,k⟩:=E.zoom h
 obtain⟨a,kvs,A',e1,e2,e3,e4,dl⟩:=dp
 subst e1 e4
 obtain⟨n1,n2⟩:=List.nodup_cons.mp nd
 obtain⟨v2,A2,f1,f2,f3,f4,f5⟩:=DeepL.zoom dl n2 hj
 have z:Zm K (msk O H) H (.ref a) (a::A') (.lst l) v2 A2 (λy=>.dct ks (ds.set j y)):=⟨f2,λc h=>mem_cons_of_mem _ (f3 c h),f4,λH' d' A1 fr p q=>by
  obtain⟨A'',p',q'⟩:=f5 H' d' A1 (λc hc=>fr c (mem_cons_of_mem _ hc)) p q;exact⟨a::A'',p'.cons _,a,kvs,A'',rfl,(fr a (mem_cons_self ..) (λz=>n1 (f3 a z))).trans e2,e3,rfl,q'⟩⟩
 obtain⟨a2,ys,g1,g2,g3,g4,A3,g5,g6⟩:=z.lst
 subst g1
 refine⟨a,kvs,a2,ys,e0,e2,e3,f1,g2,g3,A3,g5,λl' ys' A3' p q=>?_⟩
 obtain⟨A'',p'',q''⟩:=g6 l' ys' A3' p q
 exact k a2 ys' _ A'' g4 p'' q''
theorem EnvOk.dpush {i:Nat} (E:EnvOk K B O (σ++[some v]) H (Y++[some (.deep,d)])) (h:Y[i]?=some (some (.deep,.dct ks ds))) (k:Key):
  ∃a kvs,σ[i]?=some (some (.ref a))/\H a=some (.dK kvs)/\kvs.map (·.1)=ks/\EnvOk K B O σ (upd H a (.dK (kvs++[(k,v)]))) (Y.set i (some (.deep,.dct (ks++[k]) (ds++[d]))))/\Same (msk O H) (msk O (upd H a (.dK (kvs++[(k,v)])))):=by
 obtain⟨F,h1,h2,h3,h4⟩:=E.fp
 have len:σ.length=Y.length:=by have:=E.len;simp at this;exact this
 have hi:=(List.getElem?_eq_some_iff.mp h).1
 obtain⟨v',e1,o1⟩:=h1 Y.length (.deep,d) (getElem?_last _ _)
 rw[<-len,getElem?_last]at e1
 cases e1
 have o1:Deep K (msk O H) H d v (F Y.length):=o1
 obtain⟨v0,e0,o0⟩:=h1 i (.deep,.dct ks ds) (by rw[getElem?_append_left hi];exact h)
 obtain⟨a,kvs,A0,g1,g2,g3,g4,l0⟩:=o0
 subst g1 g3
 have ni:i≠Y.length:=by omega
 have ha:a∈F i:=by rw[g4];exact mem_cons_self ..
 have hA0:∀c∈A0,c∈F i:=λc hc=>by rw[g4];exact mem_cons_of_mem _ hc
 have ndi:=h2 i
 rw[g4]at ndi
 have na0:a ∉ A0:=(List.nodup_cons.mp ndi).1
 have na1:a ∉ F Y.length:=λz=>ni (h3 i Y.length a ha z)
 obtain⟨oa,ba⟩:=h4 i a ha
 have me:msk O (upd H a (.dK (kvs++[(k,v)])))=msk O H:=f9 oa
 have le:Same (msk O H) (msk O (upd H a (.dK (kvs++[(k,v)])))):=by rw[me];exact Same.refl _
 have dl:DeepL K (msk O H) (upd H a (.dK (kvs++[(k,v)]))) (ds++[d]) ((kvs++[(k,v)]).map (·.2)) (A0++F Y.length):=by
  rw[List.map_append];refine DeepL.frame (NL.of (Same.refl _)) _ _ _ (λb hb o z=>?_) (DeepL.snoc o1 l0);rw[au (show b≠a fromλz2=>?_)]
  ·exact z
  ·rw[z2]at hb;rcases mem_append.mp hb with hb|hb
   ·exact na0 hb
   ·exact na1 hb
 let F':Nat->List Addr:=λk=>if k=i then a::(A0++F Y.length)else if k=Y.length then[]else F k
 have mem:∀k c,c∈F' k->(c∈F k/\k≠Y.length)\/(k=i/\c∈F Y.length):=λk c hc=>by
  by_cases e:k=i
  ·have hc':c∈a::(A0++F Y.length):=by simpa [F',e] using hc
   rcases mem_cons.mp hc' with rfl|hc'
   ·exact .inl ⟨by rw[e];exact ha,by rw[e];exact ni⟩
   ·rcases mem_append.mp hc' with hc'|hc'
    ·exact .inl ⟨by rw[e];exact hA0 c hc',by rw[e];exact ni⟩
    ·exact .inr ⟨e,hc'⟩
  ·by_cases e2:k=Y.length
   ·rw[e2]at hc;simp[F',ni.symm]at hc
   ·exact .inl ⟨by simpa [F',e,e2] using hc,e2⟩
 refine⟨a,kvs,ca (by omega) e0,g2,rfl,⟨λc o q=>?_,E.bdom,E.sub,λc hb=>?_,by rw[List.length_set];exact len,F',λj s q=>?_,λj=>?_,λj m c hj hm=>?_,λj c hj=>?_⟩,le⟩
 ·rw[au (aH q ba)];exact E.same c o q
 ·by_cases e:c=a
  ·subst e;exact .inr (.inr ⟨_,ar⟩)
  ·rw[au e];exact E.lis c hb
 ·rcases get_set_some q with⟨e,q2⟩|⟨e,q2⟩
  ·cases q2;subst e;refine⟨.ref a,ca (by omega) e0,?_⟩;rw[show F' j=a::(A0++F Y.length)from if_pos rfl];show Deep K _ _ _ _ _;rw[me];exact⟨a,kvs++[(k,v)],A0++F Y.length,rfl,ar,by rw[List.map_append];rfl,rfl,dl⟩
  ·have hj:=(List.getElem?_eq_some_iff.mp q2).1;obtain⟨w,e1,o1⟩:=h1 j s (by rw[getElem?_append_left hj];exact q2);refine⟨w,ca (by omega) e1,?_⟩;rw[show F' j=F j from(if_neg e).trans (if_neg (by omega))];refine o1.frame le λc hb o z=>?_;have:c≠a:=λz2=>e (h3 j i a (z2▸hb) ha);rw[au this];exact z
 ·by_cases e:j=i
  ·rw[show F' j=a::(A0++F Y.length)from if_pos e];refine List.nodup_cons.mpr ⟨λz=>?_,List.nodup_append.mpr ⟨(List.nodup_cons.mp ndi).2,h2 _,λx hx y hy z=>ni (h3 i Y.length x (hA0 x hx) (z▸hy))⟩⟩;rcases mem_append.mp z with z|z
   ·exact na0 z
   ·exact na1 z
  ·rw[show F' j=if j=Y.length then[]else F j from if_neg e];split
   ·exact List.nodup_nil
   ·exact h2 j
 ·rcases mem j c hj with⟨hj,nj⟩|⟨ej,hj⟩<;>rcases mem m c hm with⟨hm,nm⟩|⟨em,hm⟩
  ·exact h3 j m c hj hm
  ·exact absurd (h3 j _ c hj hm) nj
  ·exact absurd (h3 m _ c hm hj) nm
  ·rw[ej,em]
 ·rcases mem j c hj with⟨hj,_⟩|⟨_,hj⟩
  ·exact h4 _ c hj
  ·exact h4 _ c hj
end
def idxK:List Key->Key->Option Nat
 |[],_=>none
 |j::ks,k=>if j=k then some 0 else(idxK ks k).map (·+1)
theorem mM (k:Key):∀kvs:List (Key×V),iC kvs k=(idxK (kvs.map (·.1)) k).bind λj=>(kvs.map (·.2))[j]?
 |[]=>rfl
 |p::r=>by
  show _=(if p.1=k then some 0 else(idxK (r.map (·.1)) k).map (·+1)).bind _;by_cases e:p.1=k
  ·rw[jm e,if_pos e];rfl
  ·rw[jn e,if_neg e,mM k r];cases idxK (r.map (·.1)) k<;>rfl
theorem vE:∀ {ks:List Key} {j:Nat},idxK ks k=some j->j<ks.length
 |[],j,h=>by cases h
 |x::ks,j,h=>by
  have h':(if x=k then some 0 else(idxK ks k).map (·+1))=some j:=h;by_cases e:x=k
  ·rw[if_pos e]at h';cases h';simp
  ·rw[if_neg e]at h';obtain⟨m,h1,h2⟩:=Option.map_eq_some_iff.mp h';have:=vE h1;rw[length_cons];omega
def LK:V->List V->Hp->VK->Prop:=λx vs H Q=>∃p kvs k m,x=.ref p/\vs=[kV k,m]/\H p=some (.dK kvs)/\kvs.length<sizeLine/\(∀w,iC kvs k=some w->Q w H)/\(iC kvs k=none->Q m (upd H p (.dK (kvs++[(k,m)]))))
theorem Gc:MtM X "dict.setdefault" LK:=by
 intro pins s σ H x vs v us Q I rx rv h;obtain⟨p,kvs,k,m,rfl,rfl,hH,hl,q1,q2⟩:=h;cases rx;obtain⟨u1,u2,rfl,ru,rm⟩:=oB rv;obtain⟨z,hd,vs,rel,dd⟩:=DQ I.hok hH;have hz:vs.length<=sizeLine:=by rw[<-rel.length];exact z
 refine call_meetsIn PySem.F.slot_dict_setdefault dd.typeIs PySem.F.entry_dict_setdefault (PySem.F.args_dict_setdefault_3 _ _ _) (kt_meets_setdefault (cR X.prog X.w) p (DO ru) hd u2) ⟨vs,dd,hz,λw' hw=>?_,λhn h' dd' hs=>?_⟩
 ·have rl:=rel.val k;rw[hw]at rl;cases hy:iC kvs k with
  |none=>rw[hy]at rl;exact False.elim rl
  |some y=>rw[hy]at rl;exact⟨y,H,I.tok _,rl,q1 y hy⟩
 ·have hn':iC kvs k=none:=by
   have rl:=rel.val k;rw[hn]at rl;cases hy:iC kvs k with
   |none=>rfl
   |some y=>rw[hy]at rl;exact False.elim rl
  have ep:wT kvs k m=kvs++[(k,m)]:=by unfold wT;rw[rz,hn'];rfl
  refine⟨m,_,?_,rm,q2 hn'⟩;have he:∃q,h'.get? p=some q:=let⟨q,_,_,hq,_⟩:=dd';⟨q,hq⟩;rw[<-ep];exact BN I (by rw[hH];exact True.intro) hs he (ER (by have:=rA kvs k m;omega) hd (rel.put k rm) dd')
theorem Gd {Y:Ev} (h:Y[i]?=some x):Y.set i x=Y:=by
 apply List.ext_getElem?;intro j;by_cases hj:j=i
 ·rw[hj,List.getElem?_set_self (List.getElem?_eq_some_iff.mp h).1,h]
 ·rw[List.getElem?_set_ne (Ne.symm hj)]
def uk (ks:List Key) (ds:List D) (k:Key) (d:D):Option (List Key×List D):=match idxK ks k with
 |some j=>(ds[j]?).bind λz=>(fN z).bind λl=>if l.length+1<big then some (ks,ds.set j (.lst (l++[d])))else none
 |none=>if ks.length=ds.length then some (ks++[k],ds++[.lst [d]])else none
def zy (i:Nat) (fk R:Vv->Option D):Ev->Option Out:=λY=>(Jn Y i).bind λw=>(fk (vw Y)).bind λy=>(BR y).bind λk=>(lfO (R (vw (Y.set i none)))).bind λd=>(uk w.1 w.2 k d).bind λz=>if w.1.length+1<big then some (.nx (Y.set i (some (.deep,.dct z.1 z.2))))else none
theorem CJ {K} (h:DeepL K M H r xs A) (q:Deep K M H d v []):DeepL K M H (r++[d]) (xs++[v]) A:=by
 have:=DeepL.snoc q h;rw[List.append_nil]at this;exact this
section
variable {X:Cx} {e:Expr} {pos:Pos}
theorem Ge (i:Nat) (hk:PP X ek fk) (h:PP X e R) (hN:X.N[i]?=some x) (hv:Vis X.env.scope x) (hd:(x==("__debug__":Str))=false) (hcd:(x==("__classdict__":Str))=false) (hst:starEach [e] X.env=(false,eval e X.env)::starEach [] X.env) (hst1:starEach [ek,.List [] lp] X.env=(false,eval ek X.env)::starEach [.List [] lp] X.env) (hst2:starEach [.List [] lp] X.env=(false,eval (.List [] lp) X.env)::starEach [] X.env) (hl1:(ap1.endLine==cp1.line)=true) (hl2:(ap2.endLine==cp2.line)=true):
  PR X (.Expr (.Call (.Attribute (.Call (.Attribute (.Name x px) "setdefault" ap1) [ek,.List [] lp] [] cp1) "append" ap2) [e] [] cp2) pos) (zy i fk R):=λB O Y=>
 (dj (jj PySem.F.plainAttrs_list PySem.F.slot_list_append PySem.F.type_list_append ig
  (jj PySem.F.plainAttrs_dict PySem.F.slot_dict_setdefault PySem.F.type_dict_setdefault Gc (cF hN hv hd hcd) (bx (hk noO (vw Y)) (bx ((yN (yM vo)) B O Y).1 pa_nil hst2) hst1) rfl (by rw[hst1,hst2];rfl) hl1 hst1 (by rw[hst2];rfl))
  (bx (h noO (vw (Y.set i none))) pa_nil hst) rfl (by rw[hst];rfl) hl2 hst rfl)).imp λEn σ H ⟨E,o,q,k⟩=>by
 obtain⟨⟨ks,ds⟩,q1,q⟩:=bind_some q
 obtain⟨y,q2,q⟩:=bind_some q
 obtain⟨ky,q3,q⟩:=bind_some q
 obtain⟨d,q4,q⟩:=bind_some q
 obtain⟨z,q5,q⟩:=bind_some q
 obtain⟨hz,q⟩:=ax q
 subst q
 have hz:ks.length+1<big:=hz
 have q5:uk ks ds ky d=some z:=q5
 obtain⟨d',p5,p6⟩:=bind_some q4
 obtain⟨ld,p7⟩:=ax p6
 subst p7
 have h0:=xk q1
 have h0:Y[i]?=some (some (.deep,.dct ks ds)):=h0
 have hi:=(List.getElem?_eq_some_iff.mp h0).1
 obtain⟨a,kvs,e1,e2,e3,_⟩:=E.dctAt h0
 refine⟨.ref a,e1,.inr (.inr (.inl ⟨rfl,.inl ⟨kvs,e2⟩⟩)),E.view,y,q2,λyv H2 s2 iy=>?_⟩
 have E2:=E.grow s2
 refine⟨E2,_,_,rfl,λm H3 O3 s3 E3=>?_⟩
 have fin:∀ (O4:Addr->Bool) (H4:Hp) (ks':List Key) (ds' l:List D) (j:Nat) (w:V),Same (msk O H) (msk O4 H4)->EnvOk X.K B O4 σ H4 (Y.set i (some (.deep,.dct ks' ds')))->ds'[j]?=some (.lst l)->l.length+1<big->(∀kvs',H4 a=some (.dK kvs')->(kvs'.map (·.2))[j]?=some w)->z=(ks',ds'.set j (.lst (l++[d'])))->
   tyV X.K "list" w H4/\DK (tP X.K noO (vw (Y.set i none)) (R (vw (Y.set i none)))) tNil σ H4 (λxs H5=>vc w xs H5 λ_ H'=>En.nx σ H'):=by
  intro O4 H4 ks' ds' l j w s4 E4 hj hlb hw hze
  have gi:(Y.set i (some (Cat.deep,D.dct ks' ds')))[i]?=some (some (.deep,.dct ks' ds')):=List.getElem?_set_self hi
  obtain⟨a',kvs',a2,ys,g1,g2,g3,g4,g5,g6,_⟩:=E4.inD gi hj
  rw[e1]at g1
  cases g1
  rw[hw _ g2]at g4
  cases g4
  have Ef:=E4.forget i
  rw[List.set_set]at Ef
  refine⟨.inl ⟨rfl,_,SqL.of g5⟩,Ef.view,d',p5,λev H5 s5 ie=>?_⟩
  have E5:=E4.grow s5
  rw[pX]at ie
  have ie':=Is.nl E5.nl d' ev ld ie
  obtain⟨b',kvs2,b2,zs,f1,f2,f3,f4,f5,f6,A3,f7,f8⟩:=E5.inD gi hj
  rw[e1]at f1
  cases f1
  have w1:=s5 _ _ g2
  rw[f2]at w1
  cases w1
  rw[hw _ g2]at f4
  cases f4
  obtain⟨E6,s6⟩:=f8 _ _ A3 (.refl _) (CJ f7 (Is.deep d' ev ld ie'))
  rw[List.set_set]at E6
  refine⟨a2,zs,ev,rfl,rfl,f5,by rw[gb,<-f6];exact Nat.lt_of_succ_lt hlb,k σ _ O4 (s4.trans (s5.msk.trans s6)) ?_⟩
  rw[hze]
  exact E6
 have s13:Same (msk O H) (msk O3 H3):=s2.msk.trans s3
 have h03:(Y++[some (Cat.deep,D.lst [])])[i]?=some (some (.deep,.dct ks ds)):=by rw[getElem?_append_left hi];exact h0
 have hiσ:i<σ.length:=by rw[E.len];exact hi
 obtain⟨a3,kvs3,f1,f2,f3,_⟩:=E3.dctAt h03
 rw[getElem?_append_left hiσ,e1]at f1
 cases f1
 have lk:kvs3.length=ks.length:=by have:=congrArg List.length f3;rwa [length_map]at this
 refine⟨a,kvs3,ky,m,rfl,by rw[ve q3 iy],f2,by rw[lk,gb];exact Nat.lt_of_succ_lt hz,λw hw=>?_,λhn=>?_⟩
 ·rw[mM,f3]at hw;obtain⟨j,hj1,hj2⟩:=bind_some hw;unfold uk at q5;rw[hj1]at q5;obtain⟨zz,r1,q6⟩:=bind_some q5;obtain⟨l,r2,q7⟩:=bind_some q6;obtain⟨hlb,q8⟩:=ax q7;have r3:=lstD_some r2;subst r3;obtain⟨O4,E4,s4,_⟩:=E3.thaw;refine fin O4 H3 ks ds l j w (s13.trans s4) (by rw[Gd h0];exact E4) r1 hlb (λkvs' hk'=>?_) q8.symm;rw[f2]at hk';cases hk';exact hj2
 ·have hix:idxK ks ky=none:=by
   rw[mM,f3]at hn;cases hj:idxK ks ky with
   |none=>rfl
   |some j=>
    rw[hj]at hn;have:=vE hj;have hn:(kvs3.map (·.2))[j]?=none:=hn;rw[List.getElem?_eq_none_iff,length_map]at hn;omega
  unfold uk at q5;rw[hix]at q5;obtain⟨hl,q5⟩:=ax q5;obtain⟨a4,kvs4,g1,g2,g3,E4,s4⟩:=E3.dpush h0 ky;rw[e1]at g1;cases g1;rw[f2]at g2;cases g2;refine fin O3 _ (ks++[ky]) (ds++[.lst []]) [] ds.length m (s13.trans s4) E4 (by rw[getElem?_append_right (le_refl _),Nat.sub_self];rfl) (by show 1<big;decide) (λkvs' hk'=>?_) ?_
  ·rw[ar]at hk';cases hk';rw[List.map_append,getElem?_append_right (by rw[length_map,lk,hl];exact le_refl _),length_map,lk,hl,Nat.sub_self];rfl
  ·rw[<-q5,List.set_append_right _ _ (le_refl _),Nat.sub_self];rfl
end
structure Gb where
 fn:Str->Option (Nat×(List D->Option Sl))
 cn:Str->Option D
 no:Str->Bool
 fl:Str->Str->Bool
 mt:Str->MT
 ini:Str->Option (Nat×(List D->Option (List (Str×D))))
structure Sn where
 N:List Str
 nm:List (Str×NameKind)
 k:Nat
 G:Gb
structure GbOk (P:Program) (w:World) (K:Frag) (mg:Str->Option Value) (base:Heap) (G:Gb):Prop where
 fn:∀x k f,G.fn x=some (k,f)->Df P w K mg base x k f
 cn:∀x d,G.cn x=some d->Cn K mg x d
 no:∀x,G.no x=true->mg x=none
 fl:∀C m Ca,G.fl C m=true->nsIn K mainGlobals C=some (some (.ref Ca))->Cls K Ca/\NoAttr K Ca m
 mt:∀m C k f,G.mt m C=some (k,f)->Mf P w K mg base C m k f
 ini:∀C k g,G.ini C=some (k,g)->Mkf P w K mg base C k g
structure SnOk (X:Cx) (S:Sn):Prop where
 g:GbOk X.prog X.w X.K X.mg X.base S.G
 N:X.N=S.N
 nd:S.N.Nodup
 calm:X.calm=true
 room:Room S.k X.A
 loc:∀x,S.nm.lookup x=some .local->X.env.scope.names.lookup x=some .local
 cel:∀x,S.nm.lookup x=some .cell->X.env.scope.names.lookup x=some .cell
 fre:∀x,S.nm.lookup x=some .free->X.env.scope.names.lookup x=some .cell\/X.env.scope.names.lookup x=some .free
 glo:∀x,S.nm.lookup x=some .globalImplicit->X.env.kindOf x=some .globalImplicit
def bJ (S:Sn) (x:Str):Option Nat:=if fz x&&vt (S.nm.lookup x)then p9 S.N x else none
def glS (S:Sn) (x:Str):Bool:=fz x&&decide (S.nm.lookup x=some .globalImplicit)
def nmF (S:Sn) (x:Str):Vv->Option D:=match bJ S x with
 |some i=>λY=>dD Y i
 |none=>if glS S x then(match S.G.cn x with
  |some d=>λ_=>some d
  |none=>if S.G.no x then(match qg x with|some n=>λ_=>some (.ty n)|none=>λ_=>none)elseλ_=>none)elseλ_=>none
section
variable {X:Cx} {S:Sn} {pos:Pos}
theorem pp_no:PP X e (λ_=>none):=λO Y=>(mH O Y).1
theorem SnOk.vis (o:SnOk X S) (h:vt (S.nm.lookup x)=true):Vis X.env.scope x:=by
 cases e:S.nm.lookup x with
 |none=>rw[e]at h;cases h
 |some k=>
  rw[e]at h;cases k with
  |«local»=>exact .inl (o.loc x e)
  |cell=>exact .inr (.inl (o.cel x e))
  |free=>
   rcases o.fre x e with q|q
   ·exact .inr (.inl q)
   ·exact .inr (.inr q)
  |globalExplicit=>cases h
  |globalImplicit=>cases h
theorem bh (o:SnOk X S) (h:bJ S x=some i):fz x=true/\Vis X.env.scope x/\X.N[i]?=some x/\vt (S.nm.lookup x)=true:=by
 unfold bJ at h;split at h
 ·rename_i c;rw[and_eq_true]at c;exact⟨c.1,o.vis c.2,by rw[o.N];exact fQ h,c.2⟩
 ·cases h
theorem aW (o:SnOk X S) (h:glS S x=true):fz x=true/\Gl X x:=by
 unfold glS at h;rw[and_eq_true]at h;exact⟨h.1,o.glo x (of_decide_eq_true h.2)⟩
theorem qm (o:SnOk X S) (x:Str):PP X (.Name x pos) (nmF S x):=by
 unfold nmF;split
 ·rename_i i e;obtain⟨h1,h2,h3,_⟩:=bh o e;obtain⟨a,b,c⟩:=cP h1;exact ET i h3 h2 a b
 ·split
  ·rename_i e;obtain⟨h1,h2⟩:=aW o e;obtain⟨a,b,c⟩:=cP h1;split
   ·rename_i d hd;exact yx (o.g.cn x d hd) h2 a
   ·split
    ·rename_i hn;split
     ·rename_i n hb;exact Iz h2 (o.g.no x hn) (t6 hb) c a
     ·exact pp_no
    ·exact pp_no
  ·exact pp_no
end
def aI:Expr->Bool
 |.Starred _ _=>false
 |_=>true
theorem star1 (h:aI e=true):starEach (e::es) env=(false,eval e env)::starEach es env:=by
 cases e<;>first|rfl|cases h
theorem pe:∀ {es:List Expr},es.all aI=true->(backTo pos (starEach es env)).any (·.1)=false
 |[],_=>rfl
 |e::es,h=>by
  rw[List.all_cons,and_eq_true]at h;rw[star1 h.1];show(false||(backTo pos (starEach es env)).any (·.1))=false;rw[pe h.2];rfl
def LL:Operator->Option (D->D->Option D)
 |.Add=>some b9
 |.Sub=>some ga
 |.Mult=>some cq
 |.FloorDiv=>some cV
 |.Mod=>some bA
 |.Pow=>some EU
 |.LShift=>some EV
 |_=>none
def Jz (op:Operator) (fa fb:Vv->Option D):Vv->Option D:=match LL op with
 |some g=>ac g fa fb
 |none=>λ_=>none
def gL:Expr->Bool
 |.Set _ _ _=>false
 |_=>true
theorem noSet_mark (h:gL b=true):behindInMarks op b=false:=by
 cases b<;>first|rfl|cases h
theorem d8 (h:gL iter=true):∀x,foldedSetIterable iter env x=pure x:=by
 intro x;cases iter<;>first|rfl|cases h
def cmpG:CmpOp->Option (D->D->Option D)
 |.Lt=>some ltD
 |.LtE=>some leD
 |.Gt=>some gtD
 |.GtE=>some geD
 |.Eq=>some (aQ false)
 |.NotEq=>some (aQ true)
 |.In=>some inD
 |.NotIn=>some yF
 |.Is=>some (tW false)
 |.IsNot=>some (tW true)
def xt (op:CmpOp) (b:Expr) (fa fb:Vv->Option D):Vv->Option D:=match cmpG op with
 |some g=>if gL b then ac g fa fb elseλ_=>none
 |none=>λ_=>none
section
variable {X:Cx} {S:Sn} {a b c:Expr} {pos:Pos}
theorem JA (op:Operator) (ha:PP X a fa) (hb:PP X b fb):PP X (.BinOp a op b pos) (Jz op fa fb):=by
 cases op<;>first
  |exact F7 ha hb
  |exact EX ha hb
  |exact EY ha hb
  |exact EZ ha hb
  |exact E7 ha hb
  |exact E8 ha hb
  |exact E9 ha hb
  |exact pp_no
theorem JB (o:SnOk X S) (op:CmpOp) (ha:PP X a fa) (hb:PP X b fb):PP X (.Compare a [op] [b] pos) (xt op b fa fb):=by
 unfold xt;cases op<;>(dsimp only[cmpG];split)<;>first
  |exact pp_no
  |exact IK (lt_of_le_of_lt (Nat.le_add_right _ _) (room60 o.room)) ha hb
  |exact IL ha hb
  |exact IM ha hb
  |exact IN ha hb
  |exact IX o.room ha hb
  |exact IY o.room ha hb
  |(rename_i h;exact pp_cmp op_in_seq r_in ha hb (noSet_mark h))
  |(rename_i h;exact pp_cmp op_notIn_seq r_notIn ha hb (noSet_mark h))
  |(rename_i h;exact pp_cmp op_isN r_isN ha hb (noSet_mark h))
  |(rename_i h;exact pp_cmp op_notN r_notN ha hb (noSet_mark h))
theorem Gf (o:SnOk X S) (op:CmpOp) (ha:PP X a fa) (hb:PP X b fb):PQ X (.Compare a [op] [b] pos) (aD (xt op b fa fb)):=by
 have no:PQ X (.Compare a [op] [b] pos) (aD λ_=>none):=λO Y pins s σ H Q I ⟨_,_,q,_⟩=>by cases q
 unfold xt;cases op<;>(dsimp only[cmpG];split)<;>first
  |exact no
  |exact IP (lt_of_le_of_lt (Nat.le_add_right _ _) (room60 o.room)) ha hb
  |exact IQ ha hb
  |exact IR ha hb
  |exact IS ha hb
  |exact IZ o.room ha hb
  |exact I0 o.room ha hb
  |(rename_i h;exact pq_cmp op_in_seq r_in ha hb (noSet_mark h))
  |(rename_i h;exact pq_cmp op_notIn_seq r_notIn ha hb (noSet_mark h))
  |(rename_i h;exact pq_cmp op_isN r_isN ha hb (noSet_mark h))
  |(rename_i h;exact pq_cmp op_notN r_notN ha hb (noSet_mark h))
end
def zB (x:Str):Option (List D->Option D):=if x=("len":Str)then some b8 else if x=("isinstance":Str)then some eX else if x=("all":Str)then some mF else if x=("tuple":Str)then some aY else if x=("max":Str)then some Ft else if x=("min":Str)then some Fu else if x=("any":Str)then some ue else if x=("int":Str)then some DX else none
def zC (S:Sn) (x:Str):List D->Option D:=if glS S x then(match S.G.fn x with
 |some (k,g)=>if k<=S.k thenλds=>cu (g ds)elseλ_=>none
 |none=>match S.G.ini x with
  |some (k,g)=>if k+1<=S.k thenλds=>Cm x (g ds)elseλ_=>none
  |none=>if S.G.no x then(match zB x with|some g=>g|none=>λ_=>none)elseλ_=>none)elseλ_=>none
def zD (S:Sn) (x:Str):List D->Option D:=if glS S x then(match S.G.fn x with
 |some (k,g)=>if k<=S.k thenλds=>iI (g ds)elseλ_=>none
 |none=>λ_=>none)elseλ_=>none
section
variable {X:Cx} {S:Sn} {e:Expr} {es:List Expr} {p pos:Pos}
theorem vF {α β:Type} (o:Option α):(o.bind λ_=>(none:Option β))=none:=by cases o<;>rfl
theorem d9 {fa:Vv->Option (List D)}:PP X e (λY=>(fa Y).bind λ_=>none):=λO Y pins s σ H Q I ⟨_,_,q,_⟩=>by dsimp only at q;rw[vF]at q;cases q
theorem k_call (o:SnOk X S) (x:Str) (ha:PX X (e::es) fa) (hst:(e::es).all aI=true):PP X (.Call (.Name x p) (e::es) [] pos) (λY=>(fa Y).bind (zC S x)):=by
 rw[List.all_cons,and_eq_true]at hst;have h1:starEach (e::es) X.env=(false,eval e X.env)::starEach es X.env:=star1 hst.1;have h2:∀pos,(backTo pos (starEach es X.env)).any (·.1)=false:=λpos=>pe hst.2;unfold zC;split
 ·rename_i hg;obtain⟨ok,gl⟩:=aW o hg;obtain⟨n1,n2,n3⟩:=cP ok;split
  ·rename_i k g hf;split
   ·rename_i hk;exact Cj (o.g.fn x k g hf) (o.room.mono hk) gl ha n1 h1 (h2 _)
   ·exact d9
  ·split
   ·rename_i k g hf;split
    ·rename_i hk;exact Co (o.g.ini x k g hf) (o.room.mono hk) gl ha n1 h1 (h2 _)
    ·exact d9
   ·split
    ·rename_i hn;have hm:=o.g.no x hn;split
     ·rename_i g hb;unfold zB at hb;split at hb
      ·rename_i q;cases hb;subst q;exact pp_callB call_len_seq rn_len gl hm PySem.boot_len ha n3 n1 h1 (h2 _)
      ·split at hb
       ·rename_i q;cases hb;subst q;exact pp_callB call_isi rn_isi gl hm (by decide+kernel) ha n3 n1 h1 (h2 _)
       ·split at hb
        ·rename_i q;cases hb;subst q;exact pp_callB (call_all o.calm) rn_all gl hm (by decide+kernel) ha n3 n1 h1 (h2 _)
        ·split at hb
         ·rename_i q;cases hb;subst q;exact pp_callTy call_tuple_of rn_tuple gl hm (by decide+kernel) ha n3 n1 h1 (h2 _)
         ·split at hb
          ·rename_i q;cases hb;subst q;exact pp_callB (call_max2 o.calm) rn_max gl hm b_max ha n3 n1 h1 (h2 _)
          ·split at hb
           ·rename_i q;cases hb;subst q;exact pp_callB (call_min2 o.calm) rn_min gl hm b_min ha n3 n1 h1 (h2 _)
           ·split at hb
            ·rename_i q;cases hb;subst q;exact pp_callB (call_any o.calm) rn_any gl hm (by decide+kernel) ha n3 n1 h1 (h2 _)
            ·split at hb
             ·rename_i q;cases hb;subst q;exact pp_callTy call_intB rn_intB gl hm (by decide+kernel) ha n3 n1 h1 (h2 _)
             ·cases hb
     ·exact d9
    ·exact d9
 ·exact d9
theorem k_callR (o:SnOk X S) (x:Str) (ha:PX X (e::es) fa) (hst:(e::es).all aI=true):PFr X (.Call (.Name x p) (e::es) [] pos) (λY=>(fa Y).bind (zD S x)):=by
 rw[List.all_cons,and_eq_true]at hst;have h1:starEach (e::es) X.env=(false,eval e X.env)::starEach es X.env:=star1 hst.1;have h2:∀pos,(backTo pos (starEach es X.env)).any (·.1)=false:=λpos=>pe hst.2;have no:PFr X (.Call (.Name x p) (e::es) [] pos) (λY=>(fa Y).bind λ_=>none):=λY=>by dsimp only;rw[vF];exact oS Y
 unfold zD;split
 ·rename_i hg;obtain⟨ok,gl⟩:=aW o hg;obtain⟨n1,n2,n3⟩:=cP ok;split
  ·rename_i k g hf;split
   ·rename_i hk;exact Ck (o.g.fn x k g hf) (o.room.mono hk) gl ha n1 h1 (h2 _)
   ·exact no
  ·exact no
 ·exact no
end
def ul (N:List Str) (nm:List (Str×NameKind)):List Nat:=(List.range N.length).filter λi=>match N[i]? with|some x=>decide (nm.lookup x=some .local)|none=>false
theorem rR (h:N[i]?=some x) (h2:nm.lookup x=some .local):i∈ul N nm:=by
 unfold ul;rw[List.mem_filter,List.mem_range];refine⟨(List.getElem?_eq_some_iff.mp h).1,?_⟩;rw[h];simp[h2]
def zE (S:Sn) (x:Str):Option Nat:=if S.nm.lookup x=some .local then p9 S.N x else none
mutual
noncomputable def tgV (S:Sn):Nat->Expr->D->Vv->Option Vv
 |0=>λ_ _ _=>none
 |n+1=>λe=>match e with
  |.Name x _=>(match zE S x with|some i=>gNm i|none=>λ_ _=>none)
  |.Tuple ts _ _=>if ts.all aI then gTp ts.length (CK S n ts)elseλ_ _=>none
  |_=>λ_ _=>none
noncomputable def CK (S:Sn):Nat->List Expr->List D->Vv->Option Vv
 |0=>λ_ _ _=>none
 |n+1=>λes=>match es with
  |[]=>b6
  |t::ts=>if aI t then aK (tgV S n t) (CK S n ts)elseλ_ _=>none
end
def qo (S:Sn) (x:Str):Option Nat:=if S.nm.lookup x=some .local\/S.nm.lookup x=some .cell then p9 S.N x else none
mutual
noncomputable def tgE (S:Sn):Nat->Expr->D->Ev->Option Ev
 |0=>λ_ _ _=>none
 |n+1=>λe=>match e with
  |.Name x _=>(match qo S x with|some i=>eNm i|none=>λ_ _=>none)
  |.Tuple ts _ _=>if ts.all aI then eTp ts.length (CL S n ts)elseλ_ _=>none
  |_=>λ_ _=>none
noncomputable def CL (S:Sn):Nat->List Expr->List D->Ev->Option Ev
 |0=>λ_ _ _=>none
 |n+1=>λes=>match es with
  |[]=>j4
  |t::ts=>if aI t then cm (tgE S n t) (CL S n ts)elseλ_ _=>none
end
section
variable {X:Cx} {S:Sn}
theorem asg1 (h:aI t=true):(assignEach (t::ts) env).map (·.2)=assign t env::(assignEach ts env).map (·.2):=by
 cases t<;>first|rfl|cases h
theorem asgLen:∀ {ts:List Expr},(assignEach ts env).length=ts.length
 |[]=>rfl
 |t::ts=>by cases t<;>exact congrArg (·+1) (asgLen (ts:=ts))
theorem zF:∀ {ts:List Expr},ts.all aI=true->(assignEach ts env).findIdx? (·.1)=none
 |[],_=>rfl
 |t::ts,h=>by
  rw[List.all_cons,and_eq_true]at h;have ih:=zF (env:=env) h.2;have:assignEach (t::ts) env=(false,assign t env)::assignEach ts env:=by
   have h1:=h.1;cases t<;>first|rfl|cases h1
  rw[this,List.findIdx?_cons];simp[ih]
theorem vG:PGD X ks e (λ_ _=>none):=λO Y d pins s σ H v u Q I r ⟨_,_,_,q,_⟩=>by cases q
theorem zH:wZ X ks e (λ_ _=>none):=λO Y d pins s σ H v u Q I r ⟨_,_,_,q,_⟩=>by cases q
theorem vH:PGE X e (λ_ _=>none):=λB O Y d pins s σ H v u Q I r ⟨_,_,_,q,_⟩=>by cases q
theorem zI:xa X e (λ_ _=>none):=λB O Y d pins s σ H v u Q I r ⟨_,_,_,q,_⟩=>by cases q
theorem um (h:zE S x=some i):S.nm.lookup x=some .local/\S.N[i]?=some x:=by
 unfold zE at h;split at h
 ·exact⟨by assumption,fQ h⟩
 ·cases h
theorem rS (h:qo S x=some i):(S.nm.lookup x=some .local\/S.nm.lookup x=some .cell)/\S.N[i]?=some x:=by
 unfold qo at h;split at h
 ·exact⟨by assumption,fQ h⟩
 ·cases h
theorem DY (o:SnOk X S):∀n,(∀e,PGD X (ul S.N S.nm) e (tgV S n e))/\∀es,wZ X (ul S.N S.nm) es (CK S n es):=by
 intro n;induction n with
 |zero=>exact⟨λe=>vG,λes=>zH⟩
 |succ n ih=>
  refine⟨λe=>?_,λes=>?_⟩
  ·unfold tgV;split
   ·split
    ·rename_i i hi;obtain⟨h1,h2⟩:=um hi;exact BY (by rw[o.N];exact o.nd) (by rw[o.N];exact h2) (.inl (o.loc _ h1)) (rR h2 h1) (.inr (o.loc _ h1))
    ·exact vG
   ·split
    ·rename_i h;exact Fk o.calm (ih.2 _) asgLen (zF h)
    ·exact vG
   ·exact vG
  ·unfold CK;split
   ·exact BZ
   ·split
    ·rename_i h;exact gsd_cons (ih.1 _) (ih.2 _) (asg1 h)
    ·exact zH
theorem rT (o:SnOk X S) (hf:∀x,X.fn x=true):∀n,(∀e,PGE X e (tgE S n e))/\∀es,xa X es (CL S n es):=by
 intro n;induction n with
 |zero=>exact⟨λe=>vH,λes=>zI⟩
 |succ n ih=>
  refine⟨λe=>?_,λes=>?_⟩
  ·unfold tgE;split
   ·split
    ·rename_i i hi;obtain⟨h1,h2⟩:=rS hi;have hl:Loc X.env.scope _:=h1.elim (λh=>.inl (o.loc _ h)) (λh=>.inr (o.cel _ h));exact Ce (by rw[o.N];exact o.nd) (by rw[o.N];exact h2) hl (.inl (hf _))
    ·exact vH
   ·split
    ·rename_i h;exact FH o.calm (ih.2 _) asgLen (zF h)
    ·exact vH
   ·exact vH
  ·unfold CL;split
   ·exact Cf
   ·split
    ·rename_i h;exact gse_cons (ih.1 _) (ih.2 _) (asg1 h)
    ·exact zI
def jy (S:Sn) (sc:Scope):Bool:=decide (sc.kind=.function)&&sc.names.all λy=>!decide (y.2=.cell)&&(!decide (y.2=.local)||decide (sc.names.lookup y.1=some .local))&&
 (!decide (y.2=.free)||decide (S.nm.lookup y.1=some .cell)||decide (S.nm.lookup y.1=some .free))
theorem uo (o:SnOk X S) (h:jy S sc=true):CSc X sc (ul S.N sc.names):=by
 unfold jy at h;rw[and_eq_true]at h;have hk:=of_decide_eq_true h.1;have ha:=List.all_eq_true.mp h.2;refine⟨hk,λy hy z=>?_,λy hy z=>?_,λy hy z=>?_,λi x hx hl=>rR (by rw[<-o.N];exact hx) hl⟩
 ·have:=ha y hy;simp[z]at this
 ·have:=ha y hy;simp[z]at this;exact this
 ·have:=ha y hy;simp[z]at this;rcases this with q|q
  ·exact .inl (o.cel _ q)
  ·exact o.fre _ q
theorem li {f:Str → NameKind → NameKind}:∀ {l:List (Str × NameKind)},(l.map fun y=>(y.1,f y.1 y.2)).lookup x = (l.lookup x).map (f x)
  | []=>rfl
  | (n,k) :: l=>by
    rw [List.map_cons,List.lookup_cons,List.lookup_cons]
    cases h:x == n with
    | true => have : x = n := by simpa using h
              subst this; rfl
    | false=>exact li
theorem ge:(relabel sc env).names.lookup x=(sc.names.lookup x).map λk=>if(k==NameKind.free&&env.scope.kind==.function&&env.kindOf x==some .cell)then NameKind.cell else k:=by
 have e:(relabel sc env).names=sc.names.map λy=>(y.1,if(y.2==NameKind.free&&env.scope.kind==ScopeKind.function&&env.kindOf y.1==some NameKind.cell)then NameKind.cell else y.2):=by
  apply List.map_congr_left;rintro⟨n,k⟩ _;dsimp only;split<;>rfl
 rw[e];exact li (f:=λn k=>if(k==NameKind.free&&env.scope.kind==ScopeKind.function&&env.kindOf n==some NameKind.cell)then NameKind.cell else k)
theorem rV (o:SnOk X S) {sc:Scope} (h:jy S sc=true) (C:Addr) (s:Shared) (H:Hp) (fp:List Addr):SnOk (cxC X sc C s H fp) {S with nm:=sc.names} where
 g:=o.g
 N:=o.N
 nd:=o.nd
 calm:=o.calm
 room:=o.room
 loc:=λx q=>by
  show(relabel sc X.env).names.lookup x=_;rw[ge,show sc.names.lookup x=some .local from q];rfl
 cel:=λx q=>by
  exfalso;have q':=q;exact(uo o h).nocell _ (PySem.mem_of_lookup q') rfl
 fre:=λx q=>by
  show(relabel sc X.env).names.lookup x=_\/(relabel sc X.env).names.lookup x=_;rw[ge,show sc.names.lookup x=some .free from q];dsimp only[Option.map];split
  ·exact .inl rfl
  ·exact .inr rfl
 glo:=λx q=>by
  show(relabel sc X.env).names.lookup x=_;rw[ge,show sc.names.lookup x=some .globalImplicit from q];rfl
end
def zJ:Const->Vv->Option D
 |.int i=>λ_=>some (.int i)
 |.bool b=>λ_=>some (.bl b)
 |.none=>λ_=>some .non
 |.str x=>λ_=>some (.str x)
 |_=>λ_=>none
def noV {α:Type}:Vv->Option α:=λ_=>none
def zK:Expr->Bool
 |.UnaryOp .Not _ _=>false
 |.BoolOp _ _ _=>false
 |.IfExp _ _ _ _=>false
 |.Compare _ _ _ _=>false
 |_=>true
theorem plainT_ok (h:zK e=true):∀whole,isTrue e env whole=(do let v<-whole;standAt e.pos;holding [v] (truthy v)):=by
 intro whole;cases e with
 |UnaryOp op a pos=>cases op<;>first|rfl|cases h
 |BoolOp _ _ _=>cases h
 |IfExp _ _ _ _=>cases h
 |Compare _ _ _ _=>cases h
 |_=>rfl
def uq:Expr->Bool
 |.Slice _ _ _ _=>false
 |_=>true
theorem noSl_ok (h:uq b=true):dN b:=by
 intro o i;cases b<;>first|rfl|cases h
def JC:Expr->Bool
 |.BinOp _ _ _ _=>true
 |_=>false
def JD:Expr->Bool
 |.Tuple _ _ _=>true
 |_=>false
def vI (S:Sn) (m:Str) (apos pos:Pos) (args:List Expr):Bool:=args.all aI&&decide (args.length<30)&&(apos.endLine==pos.line)
def fbE:Expr->Bool
 |.Name _ _=>true
 |.Subscript _ _ _=>true
 |_=>false
def lsB:Expr->Bool
 |.BinOp (.List _ _) .Mult _ _=>true
 |.BinOp _ .Add (.List _ _) _=>true
 |_=>false
def Gg (S:Sn) (f:Str) (as:List Expr):Option Str:=match as with
 |[.Name C _]=>if f=("isinstance":Str)/\glS S f=true/\S.G.no f=true/\glS S C=true/\(S.G.ini C).isSome=true then some C else none
 |_=>none
theorem xu (h:Gg S f as=some C):∃p,as=[.Name C p]/\f=("isinstance":Str)/\glS S f=true/\S.G.no f=true/\glS S C=true/\(S.G.ini C).isSome=true:=by
 unfold Gg at h;split at h
 ·obtain⟨c,e⟩:=ax h;subst e;exact⟨_,rfl,c⟩
 ·cases h
def zL:Expr->Option (Str×Expr)
 |.Call f as ks _=>(match f,as,ks with
  |.Name g _,[b],[]=>some (g,b)
  |_,_,_=>none)
 |_=>none
theorem ur (h:zL e=some (g,b)):∃p q,e=.Call (.Name g p) [b] [] q:=by
 unfold zL at h;split at h
 ·split at h
  ·cases h;exact⟨_,_,rfl⟩
  ·cases h
 ·cases h
def Gh (S:Sn) (f:Str):List Expr->Option Expr
 |[a]=>(match zL a with
  |some (g,b)=>if f=("tuple":Str)/\g=("reversed":Str)/\glS S f=true/\S.G.no f=true/\glS S g=true/\S.G.no g=true/\aI b=true then some b else none
  |none=>none)
 |_=>none
theorem xv (h:Gh S f as=some b):∃p q,as=[.Call (.Name "reversed" p) [b] [] q]/\f=("tuple":Str)/\glS S "tuple"=true/\S.G.no "tuple"=true/\glS S "reversed"=true/\S.G.no "reversed"=true/\aI b=true:=by
 unfold Gh at h;split at h
 ·split at h
  ·rename_i g b' hc;split at h
   ·rename_i k;cases h;obtain⟨p,q,rfl⟩:=ur hc;obtain⟨rfl,rfl,k⟩:=k;exact⟨p,q,rfl,rfl,k⟩
   ·cases h
  ·cases h
 ·cases h
mutual
noncomputable def rd:Nat->Sn->Expr->Vv->Option D
 |0=>λ_ _=>noV
 |n+1=>λS e=>match e with
  |.Constant c _ _=>zJ c
  |.Name x _=>nmF S x
  |.BinOp a op b _=>if lsB e thenλY=>(rf n S e Y).map D.lst else Jz op (rd n S a) (rd n S b)
  |.UnaryOp .Not a _=>BQ (rd n S a)
  |.UnaryOp .USub a _=>λY=>(rd n S a Y).bind yE
  |.BoolOp op vs p=>rl n S op vs p
  |.Compare a [op] [b] _=>xt op b (rd n S a) (rd n S b)
  |.Compare a [.LtE,.LtE] [b,c] _=>if gL c then cG leD leD (rd n S a) (rd n S b) (rd n S c)else noV
  |.IfExp c a b _=>ifF (rq n S c) (rd n S a) (rd n S b)
  |.Tuple es _ _=>λY=>(bZ (rx n S es Y)).bind λds=>some (.tup ds)
  |.Attribute a m _=>if fbE a thenλY=>(rd n S a Y).bind (iE S.G.fl m)else noV
  |.Subscript a (.Slice lo hi none _) _=>orO (yJ (rd n S a) (ro n S lo) (ro n S hi)) λY=>(yK (rd n S a) (ro n S lo) (ro n S hi) Y).map D.lst
  |.Subscript a b _=>if uq b then ac ixD (rd n S a) (rd n S b)else noV
  |.Call (.Name f _) (a::as) [] _=>match Gg S f as with
   |some C=>if aI a then F8 C (rd n S a)else noV
   |none=>match Gh S f (a::as)with
   |some b=>λY=>(rx n S [b] Y).bind FW
   |none=>orO (if(a::as).all aI thenλY=>(rx n S (a::as) Y).bind (zC S f)else noV) λY=>(rf n S e Y).map D.lst
  |.Call (.Attribute (.Name x _) m apos) [] [] pos=>if vI S m apos pos []thenλY=>cu (mK (nmF S x) (λ_=>some []) (S.G.mt m) S.k m Y)else noV
  |.Call (.Attribute (.Name x _) m apos) (a::as) [] pos=>if m=("index":Str)then(if as.isEmpty&&aI a&&(apos.endLine==pos.line)then xo (nmF S x) (rd n S a)else noV)else if vI S m apos pos (a::as)thenλY=>cu (mK (nmF S x) (rx n S (a::as)) (S.G.mt m) S.k m Y)else noV
  |.List _ _=>λY=>(rf n S e Y).map D.lst
  |.ListComp _ _ _ _=>λY=>(rf n S e Y).map D.lst
  |_=>noV
noncomputable def rl:Nat->Sn->BoolOp->List Expr->Pos->Vv->Option D
 |0=>λ_ _ _ _=>noV
 |n+1=>λS op vs p=>match op,vs with
  |_,[a]=>rd n S a
  |.And,a::b::r=>lB (rd n S a) (rl n S .And (b::r) p)
  |.Or,a::b::r=>orF (rd n S a) (rl n S .Or (b::r) p)
  |_,_=>noV
noncomputable def rq:Nat->Sn->Expr->Vv->Option Bool
 |0=>λ_ _=>noV
 |n+1=>λS e=>match e with
  |.UnaryOp .Not a _=>bP (rq n S a)
  |.BoolOp op vs p=>rb n S op vs p
  |.Compare a [op] [b] _=>aD (xt op b (rd n S a) (rd n S b))
  |.Compare a [.LtE,.LtE] [b,c] _=>if gL c then aD (cG leD leD (rd n S a) (rd n S b) (rd n S c))else noV
  |.Compare a [.LtE,.Lt] [b,c] _=>if gL c then aD (cG leD ltD (rd n S a) (rd n S b) (rd n S c))else noV
  |e=>if zK e thenλY=>(rd n S e Y).bind rC else noV
noncomputable def rb:Nat->Sn->BoolOp->List Expr->Pos->Vv->Option Bool
 |0=>λ_ _ _ _=>noV
 |n+1=>λS op vs p=>match op,vs with
  |.And,[a]=>rq n S a
  |.Or,[a]=>rq n S a
  |.And,a::b::r=>nU (rq n S a) (rb n S .And (b::r) p)
  |.Or,a::b::r=>orQ (rq n S a) (rb n S .Or (b::r) p)
  |_,_=>noV
noncomputable def rx:Nat->Sn->List Expr->Vv->Option (List D)
 |0=>λ_ _=>noV
 |n+1=>λS es=>match es with
  |[]=>λ_=>some []
  |a::as=>if aI a then aa (rd n S a) (rx n S as)else noV
noncomputable def ro:Nat->Sn->Option Expr->Vv->Option (Option Int)
 |0=>λ_ _=>noV
 |n+1=>λS e=>match e with
  |none=>λ_=>some none
  |some e=>bO (rd n S e)
noncomputable def rf:Nat->Sn->Expr->Vv->Option (List D)
 |0=>λ_ _=>noV
 |n+1=>λS e=>match e with
  |.List es _=>λY=>bZ (rx n S es Y)
  |.ListComp elt [g] sc _=>if jy S sc&&gL g.iter&&decide (g.is_async=0)then
    ak (ul S.N sc.names) (rj n S g.target g.iter) (tgV {S with nm:=sc.names} n g.target) (rqs n {S with nm:=sc.names} g.ifs) (rd n {S with nm:=sc.names} elt)else noV
  |.Subscript a (.Slice lo hi none _) _=>yK (rd n S a) (ro n S lo) (ro n S hi)
  |.BinOp a .Add b _=>iX (if JC a then orO (rd n S a) (λY=>(rf n S a Y).map D.lst)else rd n S a) (rd n S b)
  |.BinOp a .Mult b _=>rO (rf n S a) (rd n S b)
  |.Call (.Name f _) [a] [] _=>if f=("list":Str)/\glS S f=true/\S.G.no f=true/\aI a=true then orO (rv n S a) (λY=>(rx n S [a] Y).bind oP)
   else if f=("sorted":Str)/\glS S f=true/\S.G.no f=true/\aI a=true then orO (λY=>(rx n S [a] Y).bind vC) (λY=>(rx n S [a] Y).bind vD)else noV
  |_=>noV
noncomputable def rv:Nat->Sn->Expr->Vv->Option (List D)
 |0=>λ_ _=>noV
 |n+1=>λS e=>match e with
  |.Call (.Name f _) [a] [] _=>if f=("reversed":Str)/\glS S f=true/\S.G.no f=true/\glS S "list"=true/\S.G.no "list"=true/\aI a=true thenλY=>(rx n S [a] Y).bind revD
   else if f=("range":Str)/\glS S f=true/\S.G.no f=true/\glS S "list"=true/\S.G.no "list"=true/\aI a=true thenλY=>(rx n S [a] Y).bind lrD else noV
  |_=>noV
noncomputable def rqs:Nat->Sn->List Expr->Vv->Option Bool
 |0=>λ_ _=>noV
 |n+1=>λS es=>match es with
  |[]=>λ_=>some true
  |[c]=>rq n S c
  |_=>noV
noncomputable def rj:Nat->Sn->Expr->Expr->Vv->Option (List D)
 |0=>λ_ _ _=>noV
 |n+1=>λS tg e=>orO (match e with
  |.Call (.Name f _) [a] [] _=>if f=("range":Str)/\glS S f=true/\S.G.no f=true/\aI a=true thenλY=>(rx n S [a] Y).bind lD
   else if f=("enumerate":Str)/\glS S f=true/\S.G.no f=true/\aI a=true/\JD tg=true thenλY=>(rx n S [a] Y).bind vy
   else if f=("reversed":Str)/\glS S f=true/\S.G.no f=true/\aI a=true thenλY=>(rx n S [a] Y).bind rvT else noV
  |.Call (.Name f _) [a,b] [] _=>if f=("range":Str)/\glS S f=true/\S.G.no f=true/\aI a=true/\aI b=true thenλY=>(rx n S [a,b] Y).bind IW
   else if f=("zip":Str)/\glS S f=true/\S.G.no f=true/\aI a=true/\aI b=true/\JD tg=true thenλY=>(rx n S [a,b] Y).bind w5 else noV
  |_=>noV) λY=>(rd n S e Y).bind seqD
end
section
variable {X:Cx} {S:Sn} {e:Expr} {es:List Expr} {pos:Pos}
theorem PP.u (h:PP X e f) (hc:gd e=false):PPu X e f:=λO Y=>(h O Y).pu hc
theorem PPu.p (h:PPu X e f):PP X e f:=λO Y=>(h O Y).1
theorem PF.u (h:PF X e f) (hc:gd e=false):PFu X e f:=λO Y=>(h O Y).pu hc
theorem vJ:PQ X e noV:=λO Y pins s σ H Q I ⟨_,_,q,_⟩=>by cases q
theorem zM:PWQ X e noV:=λO Y wh pins s σ H Q I ⟨_,_,q,_⟩=>by cases q
theorem DZ:PX X es noV:=λO Y pos pins s σ H Q I ⟨_,_,q,_⟩=>by cases q
theorem zN:PQs X es noV:=λO Y pins s σ H Q I ⟨_,_,q,_⟩=>by cases q
theorem vK:PJ X tg e noV:=λO Y pins s σ H R I ⟨_,_,q,_⟩=>by cases q
theorem Gi {e}:PPo X e noV:=λO Y pins s σ H Q I ⟨_,_,q,_⟩=>by cases q
theorem JE (h1:PJ X tg e f) (h2:PJ X tg e g):PJ X tg e (orO f g):=λO Y pins s σ H R I ⟨E,ds,q,k⟩=>by
 rcases or_some q with q|q
 ·exact h1 O Y pins s σ H R I ⟨E,ds,q,k⟩
 ·exact h2 O Y pins s σ H R I ⟨E,ds,q,k⟩
theorem CM {K} (h:tP K O Y (o.map D.lst) σ H Q):tPF K O Y o σ H Q:=by
 obtain⟨E,d,e,k⟩:=h;cases o with
 |none=>cases e
 |some ds=>
  cases e;refine⟨E,ds,rfl,λp xs H' s hp l=>?_⟩;have hO:=(E.grow s).fresh hp;exact k _ _ (s.trans (Same.new hp)) ⟨p,xs,rfl,.of (by rw[aS hO,ar]),IsL.mono (Same.new hp).msk _ _ l⟩
theorem PFu.pp (h:PFu X e f):PPu X e (λY=>(f Y).map D.lst):=λO Y=>(h O Y).imp λσ H Q q=>CM q
theorem zO (h1:PFu X e f) (h2:PFu X e g):PFu X e (orO f g):=λO Y=>(h1 O Y).by2 (h2 O Y) λσ H Q ⟨E,ds,q,k⟩=>by
 rcases or_some q with q|q
 ·exact .inl ⟨E,ds,q,k⟩
 ·exact .inr ⟨E,ds,q,k⟩
theorem zP (hc:X.calm=true) (C:CSc X scope ks) (hi:PJ X tg iter fi) (hg:∀C s H fp,PGD (cxC X scope C s H fp) ks tg g) (ht:∀C s H fp,PQs (cxC X scope C s H fp) ifs ft) (he:∀C s H fp,PP (cxC X scope C s H fp) elt fe) (hs:∀x,foldedSetIterable iter X.env x=pure x):PFu X (.ListComp elt [⟨tg,iter,ifs,0⟩] scope pos) (ak ks fi g ft fe):=λO Y=>
 (vn hc C (hi O Y) (λC s H fp=>PG.ex λz:(Addr->Bool)×Vv×D=>hg C s H fp z.1 z.2.1 z.2.2) (λC s H fp=>PTs.ex λz:(Addr->Bool)×Vv=>ht C s H fp z.1 z.2) (λC s H fp=>PE.ex λz:(Addr->Bool)×Vv=>he C s H fp z.1 z.2) hs).imp λσ H Q h=>yt h
theorem CN (hc:X.calm=true) (C:CSc X scope ks) (hi:PJ X tg iter fi) (hg:∀C s H fp,PGD (cxC X scope C s H fp) ks tg g) (ht:∀C s H fp,PQs (cxC X scope C s H fp) ifs ft) (he:∀C s H fp,PFr (cxC X scope C s H fp) elt fe) (hs:∀x,foldedSetIterable iter X.env x=pure x):PFr X (.ListComp elt [⟨tg,iter,ifs,0⟩] scope pos) (λY=>(ak ks fi g ft fe Y).bind λds=>some (.lst ds)):=λY=>
 (vn hc C (hi noO Y) (λC s H fp=>PG.ex λz:(Addr->Bool)×Vv×D=>hg C s H fp z.1 z.2.1 z.2.2) (λC s H fp=>PTs.ex λz:(Addr->Bool)×Vv=>ht C s H fp z.1 z.2) (λC s H fp=>PE.ex λz:Vv=>(he C s H fp z).1) hs).imp λσ H Q h=>tZ h
theorem CO (c:Const):PP X (.Constant c j pos) (zJ c):=by
 cases c<;>first|exact pp_int|exact pp_bl|exact pp_non|exact pp_str|exact pp_no
theorem CP (h:args.all aI=true) (hl:args.length<30):methodCallForm args.length (backTo pos (starEach args env)) (backToKw pos (keywordEach [] env))=true:=by
 have h1:(backTo pos (starEach args env)).all (!·.1)=true:=by
  have:=pe (pos:=pos) (env:=env) h;rw[List.all_eq_not_any_not];simpa using this
 unfold methodCallForm;rw[h1];simp[backToKw,keywordEach];omega
structure Snd (n:Nat):Prop where
 rd:∀X S,SnOk X S->∀e,PPu X e (rd n S e)
 rl:∀X S,SnOk X S->∀op vs p,PP X (.BoolOp op vs p) (rl n S op vs p)
 rq:∀X S,SnOk X S->∀e,PQ X e (rq n S e)
 rb:∀X S,SnOk X S->∀op vs p,PWQ X (.BoolOp op vs p) (rb n S op vs p)
 rx:∀X S,SnOk X S->∀es,PX X es (rx n S es)
 ro:∀X S,SnOk X S->∀e,PPo X e (ro n S e)
 rf:∀X S,SnOk X S->∀e,PFu X e (rf n S e)
 rv:∀X S,SnOk X S->∀e p q,PFu X (.Call (.Name "list" p) [e] [] q) (rv n S e)
 rqs:∀X S,SnOk X S->∀es,PQs X es (rqs n S es)
 rj:∀X S,SnOk X S->∀tg e,PJ X tg e (rj n S tg e)
theorem lastM (h:gL c=true):lastMarks [.LtE,.LtE] [b,c]=false:=noSet_mark h
theorem JF (h:fbE a=true):attributeBase a m env w=w:=by
 unfold fbE at h;split at h
 ·rfl
 ·rfl
 ·cases h
theorem lastN (h:gL c=true):lastMarks [.LtE,.Lt] [b,c]=false:=noSet_mark h
theorem LM (n:Nat) (I:Snd n) (o:SnOk X S) (e:Expr):PPu X e (rd (n+1) S e):=by
 have P:=λe=>(I.rd X S o e).p;have no:PPu X e noV:=mH;unfold L2.rd;split
 ·exact(CO _).u rfl
 ·exact(qm o _).u rfl
 ·split
  ·exact(I.rf X S o _).pp
  ·exact(JA _ (P _) (P _)).u rfl
 ·exact(Fc (P _)).u rfl
 ·exact(Fs (P _)).u rfl
 ·exact(I.rl X S o _ _ _).u rfl
 ·exact(JB o _ (P _) (P _)).u rfl
 ·split
  ·rename_i h;exact(pp_lele (P _) (P _) (P _) (lastM h)).u rfl
  ·exact no
 ·exact(IU (I.rq X S o _) (P _) (P _)).u rfl
 ·exact(Ff (I.rx X S o _)).u rfl
 ·split
  ·rename_i hb;exact(pp_fld (P _) (λC Ca h1 h2=>o.g.fl C _ Ca h1 h2) (JF hb)).u rfl
  ·exact no
 ·exact tY ((Fy (P _) (I.ro X S o _) (I.ro X S o _)).u rfl) ((yL (P _) (I.ro X S o _) (I.ro X S o _)).u rfl).pp
 ·split
  ·rename_i h;exact(pp_ix (P _) (P _) (noSl_ok h)).u rfl
  ·exact no
 ·rename_i f fp a as cp;split
  ·rename_i C hC;obtain⟨pc,rfl,rfl,h2,h3,h4,h5⟩:=xu hC;split
   ·rename_i hst;obtain⟨ok,gl⟩:=aW o h2;obtain⟨ok',gl'⟩:=aW o h4;obtain⟨⟨k,g⟩,hk⟩:=Option.isSome_iff_exists.mp h5;obtain⟨Ca,fa,fd,ps,m1,m2,_⟩:=(o.g.ini _ k g hk).ex;exact(F9 (P _) gl (o.g.no _ h3) gl' m1 m2 (cP ok').1 (star1 hst)).u rfl
   ·exact no
  ·split
   ·rename_i b hb;obtain⟨_,_,he,rfl,h1,h2,h3,h4,h5⟩:=xv hb;cases he;obtain⟨ok,gl⟩:=aW o h1;obtain⟨ok2,gl2⟩:=aW o h3;exact(FX o.calm gl (o.g.no _ h2) gl2 (o.g.no _ h4) (I.rx X S o _) (star1 h5)).u rfl
   ·refine tY ?_ (I.rf X S o _).pp;split
    ·rename_i h;exact(k_call o _ (I.rx X S o _) h).u rfl
    ·exact mH
 ·split
  ·rename_i h;unfold vI at h;rw[and_eq_true,and_eq_true]at h;exactλO Y=>(yW (xc (qm o _) (λC k f q=>o.g.mt _ C k f q) o.room h.2 O Y)).pu rfl
  ·exact no
 ·rename_i x q m apos a as pos;split
  ·rename_i hm;subst hm;split
   ·rename_i h;rw[and_eq_true,and_eq_true]at h;cases as with
    |nil=>exact(zv (qm o _) (P _) (star1 h.1.2) h.2).u rfl
    |cons _ _=>cases h.1.1
   ·exact no
  ·split
   ·rename_i h;unfold vI at h;rw[and_eq_true,and_eq_true]at h;have h1:=h.1.1;have hl:=of_decide_eq_true h.1.2;have h1':=h1;rw[List.all_cons,and_eq_true]at h1';exactλO Y=>(yW (yV (qm o _) (I.rx X S o _) (λC k f q=>o.g.mt _ C k f q) o.room (star1 h1'.1) (pe h1'.2) (CP h1 hl) h.2 O Y)).pu rfl
   ·exact no
 ·exact(I.rf X S o _).pp
 ·exact(I.rf X S o _).pp
 ·exact no
theorem LN (n:Nat) (I:Snd n) (o:SnOk X S) (op:BoolOp) (vs:List Expr) (p:Pos):PP X (.BoolOp op vs p) (rl (n+1) S op vs p):=by
 have P:=λe=>(I.rd X S o e).p;unfold L2.rl;split
 ·exact Fa (P _)
 ·exact Fb (P _) (I.rl X S o _ _ _)
 ·exact IT (P _) (I.rl X S o _ _ _)
 ·exact pp_no
theorem LO (n:Nat) (I:Snd n) (o:SnOk X S) (e:Expr):PQ X e (rq (n+1) S e):=by
 have P:=λe=>(I.rd X S o e).p;unfold L2.rq;split
 ·exact Fd (I.rq X S o _)
 ·exact(I.rb X S o _ _ _).pq
 ·exact Gf o _ (P _) (P _)
 ·split
  ·rename_i h;exact pq_lele (P _) (P _) (P _) (lastM h)
  ·exact vJ
 ·split
  ·rename_i h;exact pq_lelt (lt_of_le_of_lt (Nat.le_add_right _ _) (room60 o.room)) (P _) (P _) (P _) (lastN h)
  ·exact vJ
 ·split
  ·rename_i h;exact pq_val (P _) (plainT_ok h)
  ·exact vJ
theorem LP (n:Nat) (I:Snd n) (o:SnOk X S) (op:BoolOp) (vs:List Expr) (p:Pos):PWQ X (.BoolOp op vs p) (rb (n+1) S op vs p):=by
 unfold L2.rb;split
 ·exact pw_and1D (I.rq X S o _)
 ·exact pw_or1D (I.rq X S o _)
 ·exact pw_andD (I.rq X S o _) (I.rb X S o _ _ _)
 ·exact pw_orD (I.rq X S o _) (I.rb X S o _ _ _)
 ·exact zM
theorem LQ (n:Nat) (I:Snd n) (o:SnOk X S) (es:List Expr):PX X es (rx (n+1) S es):=by
 unfold L2.rx;split
 ·exact Fe
 ·split
  ·rename_i h;exact px_cons (I.rd X S o _).p (I.rx X S o _) (star1 h)
  ·exact DZ
theorem LR (n:Nat) (I:Snd n) (o:SnOk X S) (e:Option Expr):PPo X e (ro (n+1) S e):=by
 unfold L2.ro;split
 ·exact yH
 ·exact yI (I.rd X S o _).p
theorem JG (n:Nat) (I:Snd n) (o:SnOk X S) (es:List Expr):PQs X es (rqs (n+1) S es):=by
 unfold L2.rqs;split
 ·exact B0
 ·exact B3 (I.rq X S o _)
 ·exact zN
theorem Gj:bootBuiltins "list"=some (.type "list"):=by decide+kernel
theorem LS (n:Nat) (I:Snd n) (o:SnOk X S) (e:Expr):PFu X e (rf (n+1) S e):=by
 have P:=λe=>(I.rd X S o e).p;unfold L2.rf;split
 ·exact(Fg (I.rx X S o _)).u rfl
 ·rename_i elt g sc p;split
  ·rename_i h;rw[and_eq_true,and_eq_true]at h;obtain⟨tg,iter,ifs,as⟩:=g;have ha:as=0:=of_decide_eq_true h.2;subst ha;have hb:=rV o h.1.1;exact zP o.calm (uo o h.1.1) (I.rj X S o _ _) (λC s H fp=>(DY (hb C s H fp) n).1 tg) (λC s H fp=>I.rqs _ _ (hb C s H fp) _) (λC s H fp=>(I.rd _ _ (hb C s H fp) _).p) (d8 h.1.2)
  ·exact iW
 ·exact(yL (P _) (I.ro X S o _) (I.ro X S o _)).u rfl
 ·refine(FR ?_ (P _)).u rfl;split
  ·exact(tY (I.rd X S o _) (I.rf X S o _).pp).p
  ·exact P _
 ·exact(F3 (λO Y=>(I.rf X S o _ O Y).1) (P _)).u rfl
 ·split
  ·rename_i h;obtain⟨rfl,h1,h2,h3⟩:=h;obtain⟨ok,gl⟩:=aW o h1;exact zO (I.rv X S o _ _ _) ((BU gl (o.g.no _ h2) Gj (I.rx X S o _) (star1 h3)).u rfl)
  ·split
   ·rename_i h;obtain⟨rfl,h1,h2,h3⟩:=h;obtain⟨ok,gl⟩:=aW o h1;exact zO ((CC gl (o.g.no _ h2) (I.rx X S o _) (star1 h3)).u rfl) ((zx o.calm gl (o.g.no _ h2) (I.rx X S o _) (star1 h3)).u rfl)
   ·exact iW
 ·exact iW
theorem LU (n:Nat) (I:Snd n) (o:SnOk X S) (e:Expr) (p q:Pos):PFu X (.Call (.Name "list" p) [e] [] q) (rv (n+1) S e):=by
 unfold L2.rv;split
 ·split
  ·rename_i h;obtain⟨rfl,h1,h2,h3,h4,h5⟩:=h;obtain⟨ok,gl⟩:=aW o h1;obtain⟨ok2,gl2⟩:=aW o h3;exact(FT o.calm gl2 (o.g.no _ h4) gl (o.g.no _ h2) (I.rx X S o _) (star1 h5)).u rfl
  ·split
   ·rename_i h;obtain⟨rfl,h1,h2,h3,h4,h5⟩:=h;obtain⟨ok,gl⟩:=aW o h1;obtain⟨ok2,gl2⟩:=aW o h3;exact(CF o.calm gl2 (o.g.no _ h4) gl (o.g.no _ h2) (I.rx X S o _) (star1 h5)).u rfl
   ·exact iW
 ·exact iW
theorem LV (n:Nat) (I:Snd n) (o:SnOk X S) (tg e:Expr):PJ X tg e (rj (n+1) S tg e):=by
 unfold L2.rj;refine JE ?_ (Fj (I.rd X S o _).p);split
 ·split
  ·rename_i h;obtain⟨rfl,h1,h2,h3⟩:=h;obtain⟨ok,gl⟩:=aW o h1;exact wX gl (o.g.no _ h2) (I.rx X S o _) (star1 h3)
  ·split
   ·rename_i h;obtain⟨rfl,h1,h2,h3,h4⟩:=h;obtain⟨ok,gl⟩:=aW o h1;cases tg<;>first
     |exact FQ gl (o.g.no _ h2) (I.rx X S o _) (star1 h3)
     |cases h4
   ·split
    ·rename_i h;obtain⟨rfl,h1,h2,h3⟩:=h;obtain⟨ok,gl⟩:=aW o h1;exact Jl gl (o.g.no _ h2) (I.rx X S o _) (star1 h3)
    ·exact vK
 ·split
  ·rename_i h;obtain⟨rfl,h1,h2,h3,h4⟩:=h;obtain⟨ok,gl⟩:=aW o h1;exact wY gl (o.g.no _ h2) (I.rx X S o _) (by rw[star1 h3,star1 h4];rfl) (star1 h4)
  ·split
   ·rename_i h;obtain⟨rfl,h1,h2,h3,h4,h5⟩:=h;obtain⟨ok,gl⟩:=aW o h1;cases tg<;>first
     |exact Fq gl (o.g.no _ h2) (I.rx X S o _) (by rw[star1 h3,star1 h4];rfl) (star1 h4)
     |cases h5
   ·exact vK
 ·exact vK
theorem sound:∀n,Snd n
 |0=>⟨λ_ _ _ _=>mH,λ_ _ _ _ _ _=>pp_no,λ_ _ _ _=>vJ,λ_ _ _ _ _ _=>zM,λ_ _ _ _=>DZ,λ_ _ _ _=>Gi,λ_ _ _ _=>iW,λ_ _ _ _ _ _=>iW,λ_ _ _ _=>zN,λ_ _ _ _ _=>vK⟩
 |n+1=>⟨λX S o e=>LM n (sound n) o e,λX S o op vs p=>LN n (sound n) o op vs p,λX S o e=>LO n (sound n) o e,λX S o op vs p=>LP n (sound n) o op vs p,λX S o es=>LQ n (sound n) o es,λX S o e=>LR n (sound n) o e,
  λX S o e=>LS n (sound n) o e,λX S o e p q=>LU n (sound n) o e p q,λX S o es=>JG n (sound n) o es,λX S o tg e=>LV n (sound n) o tg e⟩
end
def Gk:Expr->Bool
 |.Call _ _ _ _=>true
 |_=>false
mutual
noncomputable def fr:Nat->Sn->Expr->Vv->Option D
 |0=>λ_ _=>noV
 |n+1=>λS e=>orO (λY=>lfO (rd n S e Y)) (orO (λY=>js (rf n S e Y)) (match e with
  |.List es _=>λY=>(bZ (frl n S es Y)).bind λds=>some (.lst ds)
  |.Tuple es _ _=>λY=>(bZ (frl n S es Y)).bind λds=>some (.tup ds)
  |.Dict [] [] _=>λ_=>some (.dct [] [])
  |.ListComp elt [g] sc _=>if jy S sc&&gL g.iter&&decide (g.is_async=0)then
   λY=>(ak (ul S.N sc.names) (rj n S g.target g.iter) (tgV {S with nm:=sc.names} n g.target) (rqs n {S with nm:=sc.names} g.ifs) (fr n {S with nm:=sc.names} elt) Y).bind λds=>some (.lst ds)else noV
  |.Call (.Name f _) (a::as) [] _=>if(a::as).all aI thenλY=>(rx n S (a::as) Y).bind (zD S f)else noV
  |.Subscript a b _=>if Gk a&&uq b then fIx (fr n S a) (rd n S b)else noV
  |_=>noV))
noncomputable def frl:Nat->Sn->List Expr->Vv->Option (List D)
 |0=>λ_ _=>noV
 |n+1=>λS es=>match es with
  |[]=>λ_=>some []
  |a::as=>if aI a then aa (fr n S a) (frl n S as)else noV
end
section
variable {X:Cx} {S:Sn} {e:Expr} {es:List Expr} {pos:Pos}
theorem zQ:tX X es noV:=λY pos pins s σ H Q I ⟨_,_,q,_⟩=>by cases q
theorem JH:∀n,(∀X S,SnOk X S->∀e,PFr X e (fr n S e))/\∀X S,SnOk X S->∀es,tX X es (frl n S es):=by
 intro n;induction n with
 |zero=>exact⟨λX S o e=>oS,λX S o es=>zQ⟩
 |succ n ih=>
  refine⟨λX S o e=>?_,λX S o es=>?_⟩
  ·unfold fr;refine DS (Jc ((sound n).rd X S o e)) (DS (FC ((sound n).rf X S o e)) ?_);split
   ·exact yM (ih.2 X S o _)
   ·exact FD (ih.2 X S o _)
   ·exact FY
   ·rename_i elt g sc p;split
    ·rename_i h;rw[and_eq_true,and_eq_true]at h;obtain⟨tg,iter,ifs,as⟩:=g;have ha:as=0:=of_decide_eq_true h.2;subst ha;have hb:=rV o h.1.1;exact CN o.calm (uo o h.1.1) ((sound n).rj X S o _ _) (λC s H fp=>(DY (hb C s H fp) n).1 tg) (λC s H fp=>(sound n).rqs _ _ (hb C s H fp) _) (λC s H fp=>ih.1 _ _ (hb C s H fp) _) (d8 h.1.2)
    ·exact oS
   ·split
    ·rename_i h;exact k_callR o _ ((sound n).rx X S o _) h
    ·exact oS
   ·split
    ·rename_i h;rw[and_eq_true]at h;exact Jw (ih.1 X S o _) ((sound n).rd X S o _).p (noSl_ok h.2)
    ·exact oS
   ·exact oS
  ·unfold frl;split
   ·exact vo
   ·split
    ·rename_i h;exact frs_cons (ih.1 X S o _) (ih.2 X S o _) (star1 h)
    ·exact zQ
end
def ev (n:Nat) (S:Sn) (e:Expr):Ev->Option (Sl×Ev):=orO (lE (fr n S e)) (orO (kY (rf n S e)) (orO (rH (rd n S e)) (w9 (rd n S e))))
theorem ut (n:Nat) (o:SnOk X S) (e:Expr):PEv X e (ev n S e):=ev_or (yN ((JH n).1 X S o e)) (ev_or (t3 ((sound n).rf X S o e)) (ev_or (vp ((sound n).rd X S o e)) (DT ((sound n).rd X S o e))))
structure TnOk (X:Cx) (S:Sn):Prop where
 s:SnOk X S
 fn:∀x,X.fn x=true
 nox:X.xe=λ_ _=>False
 nm:X.env.scope.names=S.nm
def vL (S:Sn) (x:Str):Option Nat:=if fz x&&(decide (S.nm.lookup x=some .local)||decide (S.nm.lookup x=some .cell))then p9 S.N x else none
def noO':Ev->Option Out:=λ_=>none
def D0:Expr->Bool
 |.Constant (.str _) _ _=>true
 |_=>false
def cY:Expr->Option Str
 |.Name x _=>some x
 |_=>none
def uu:Expr->Bool
 |.Call _ _ _ _=>true
 |.Name _ _=>true
 |.Subscript _ _ _=>true
 |_=>false
def vM:Expr->Option (Str×Expr)
 |.Tuple [.Name x _,e] _ _=>if aI e then some (x,e)else none
 |_=>none
theorem uv (h:vM e=some (x,e')):∃px x1 p2,e=.Tuple [.Name x px,e'] x1 p2/\aI e'=true:=by
 unfold vM at h;split at h
 ·obtain⟨h1,h2⟩:=ax h;cases h2;exact⟨_,_,_,rfl,h1⟩
 ·cases h
def exR (n:Nat) (S:Sn):Option Expr->Ev->Option Out
 |none=>λ_=>some (.rt (.deep,.non))
 |some e=>match cY e with
  |some x=>(match bJ S x with|some i=>λY=>(jt Y i).bind λs=>some (.rt s)|none=>cb (ev n S e))
  |none=>match vM e with
   |some (x,e')=>(match bJ S x with|some i=>orO (rtQ i (rf n S e')) (cb (ev n S e))|none=>cb (ev n S e))
   |none=>cb (ev n S e)
def D1 (S:Sn):Expr->List Nat
 |.List es _=>es.filterMap λe=>(cY e).bind (bJ S)
 |_=>[]
def evL (is:List Nat) (F:Vv->Option D) (L:Vv->Option (List D)) (R:Vv->Option D):Ev->Option (Sl×Ev):=orO (lE F) (orO (kY L) (orO (rH R) (orO (λY=>kY L (frzS is Y)) (w9 R))))
def evA (n:Nat) (S:Sn) (e:Expr):Ev->Option (Sl×Ev):=if(D1 S e).isEmpty then ev n S e else evL (D1 S e) (fr n S e) (rf n S e) (rd n S e)
def vN:Expr->Option (Str×Expr×Expr)
 |.Call (.Name f _) [a,b] [] _=>(match a,b with
  |.Call (.Name _ _) [_] [] _,.Name _ _=>some (f,a,b)
  |_,_=>none)
 |_=>none
theorem uw (h:vN e=some (f,a,b)):∃p q,e=.Call (.Name f p) [a,b] [] q/\aI a=true/\aI b=true:=by
 unfold vN at h;split at h
 ·split at h
  ·cases h;exact⟨_,_,rfl,rfl,rfl⟩
  ·cases h
 ·cases h
def evP (n:Nat) (S:Sn) (f:Str) (a b:Expr):Ev->Option (Sl×Ev):=if glS S f=true then(match S.G.fn f with
 |some (k,g)=>if k<=S.k then evQ (rx n S [a,b]) g elseλ_=>none
 |none=>λ_=>none)elseλ_=>none
theorem zR:PEv X e (λ_=>none):=λB O Y=>(vp (f:=noV) mH B O Y).imp λσ H Q ⟨_,_,_,q,_⟩=>by cases q
theorem s_evP (n:Nat) (o:SnOk X S) (ha:aI a=true) (hb:aI b=true):PEv X (.Call (.Name f p) [a,b] [] q) (evP n S f a b):=by
 unfold evP;split
 ·rename_i hg;obtain⟨ok,gl⟩:=aW o hg;obtain⟨n1,n2,n3⟩:=cP ok;split
  ·rename_i k g hf;split
   ·rename_i hk;exact LG (o.g.fn f k g hf) (o.room.mono hk) gl ((sound n).rx X S o _) n1 (star1 ha) (pe (by simp[hb]))
   ·exact zR
  ·exact zR
 ·exact zR
def zS (n:Nat) (S:Sn) (t e:Expr):Ev->Option Out:=match t with
 |.Name x _=>(match vL S x with|some i=>(match vN e with|some (f,a,b)=>aP i (orO (evP n S f a b) (evA n S e))|none=>aP i (evA n S e))|none=>noO')
 |.Subscript o k _=>(match cY o with
  |some x=>if uq k&&!gd e then(match bJ S x with|some i=>j6 i (rd n S k) (ev n S e)|none=>noO')else noO'
  |none=>noO')
 |.Tuple ts k p=>if uu e then orO (Je (rd n S e) (tgE S n (.Tuple ts k p))) (Jf (rd n S e) (tgE S n (.Tuple ts k p)))else noO'
 |_=>noO'
def exA (n:Nat) (S:Sn) (ts:List Expr) (e:Expr):Ev->Option Out:=match ts with
 |[t]=>zS n S t e
 |_=>noO'
def rW (i j:Nat) (g:Ev->Option (Sl×Ev)) (R:Vv->Option D):Ev->Option Out:=orO (nW i g) (nW i λY=>rH R (frzS [j] Y))
def Gm (n:Nat) (S:Sn) (i:Nat) (m:Str) (e:Expr):Ev->Option Out:=if m=("append":Str)then(match(cY e).bind (bJ S)with
 |some j=>rW i j (ev n S e) (rd n S e)
 |none=>nW i (ev n S e))else if m=("extend":Str)then qh i (rd n S e)else noO'
def sdS:Expr->Option (Expr×Expr)
 |.Call (.Attribute o m ap) [ek,.List [] _] [] cp=>if m=("setdefault":Str)/\aI ek=true/\(ap.endLine==cp.line)=true then some (o,ek)else none
 |_=>none
def exD (n:Nat) (S:Sn) (o:Expr) (m:Str) (e:Expr):Ev->Option Out:=match sdS o with
 |some (ob,ek)=>if m=("append":Str)then(match(cY ob).bind (bJ S)with|some i=>zy i (rd n S ek) (rd n S e)|none=>noO')else noO'
 |none=>noO'
def c1E:Expr->Bool
 |.Constant (.int i) _ _=>decide (i=1)
 |_=>false
theorem qp (h:c1E k=true):(PP X k λ_=>some (.int 1))/\dN k:=by
 unfold c1E at h;split at h
 ·cases of_decide_eq_true h;exact⟨pp_int,noSl_ok rfl⟩
 ·cases h
def exM (n:Nat) (S:Sn) (o:Expr) (m:Str) (e:Expr):Ev->Option Out:=match o with
 |.Name x _=>(match bJ S x with|some i=>Gm n S i m e|none=>noO')
 |.Subscript o k _=>(match(cY o).bind (bJ S)with|some i=>if m=("append":Str)/\uq k=true then(if c1E k=true then orO (apQ i (rd n S e)) (qk i (rd n S k) (rd n S e))else qk i (rd n S k) (rd n S e))else noO'|none=>noO')
 |_=>exD n S o m e
def vO:Expr->Option (Expr×Str×Pos×Expr×Pos)
 |.Call (.Attribute o m apos) [e] [] cpos=>some (o,m,apos,e,cpos)
 |_=>none
def CQ:Expr->Option (Expr×Pos×Expr×Expr×Pos)
 |.Call (.Attribute o m apos) [a,b] [] cpos=>if m=("insert":Str)then some (o,apos,a,b,cpos)else none
 |_=>none
def CS:Expr->Option (Str×Pos×Pos×Pos)
 |.Call (.Attribute (.Name x p) m apos) [] [] cpos=>if m=("reverse":Str)then some (x,p,apos,cpos)else none
 |_=>none
def CT:Expr->Option (Str×Pos×Pos)
 |.Call (.Attribute (.Subscript (.Name x _) k _) m apos) [] [] cpos=>if m=("reverse":Str)/\c1E k=true then some (x,apos,cpos)else none
 |_=>none
theorem xw (h:CT e=some (x,ap,cp)):∃px sp k,e=.Call (.Attribute (.Subscript (.Name x px) k sp) "reverse" ap) [] [] cp/\c1E k=true:=by
 unfold CT at h;split at h
 ·obtain⟨⟨h1,h3⟩,h2⟩:=ax h;cases h2;rw[h1];exact⟨_,_,_,rfl,h3⟩
 ·cases h
def exI (n:Nat) (S:Sn) (o a b:Expr):Ev->Option Out:=match o with
 |.Name x _=>(match bJ S x with|some i=>Js i (rd n S a) (rd n S b)|none=>noO')
 |.Subscript o k _=>(match(cY o).bind (bJ S)with|some i=>if uq k=true then zm i (rd n S k) (rd n S a) (rd n S b)else noO'|none=>noO')
 |_=>noO'
def exV (n:Nat) (S:Sn) (e:Expr):Ev->Option Out:=match CQ e with
 |some (o,apos,a,b,cpos)=>if aI a&&aI b&&(apos.endLine==cpos.line)then exI n S o a b else noO'
 |none=>match CS e with
  |some (x,_,apos,cpos)=>if apos.endLine==cpos.line then(match bJ S x with|some i=>Ju i|none=>noO')else noO'
  |none=>match CT e with
   |some (x,apos,cpos)=>if apos.endLine==cpos.line then(match bJ S x with|some i=>rvQ i|none=>noO')else noO'
   |none=>if gd e then noO' else cX (rd n S e)
def exX (n:Nat) (S:Sn) (e:Expr):Ev->Option Out:=if D0 e thenλY=>some (.nx Y)else match vO e with
 |some (o,m,apos,a,cpos)=>if aI a&&(apos.endLine==cpos.line)then exM n S o m a else noO'
 |none=>exV n S e
def JI:List Stmt->Bool
 |.Assign [.Name _ _] (.Subscript _ _ _) _::_=>true
 |[.Expr (.Call (.Attribute (.Name _ _) _ _) [_] [] _) _]=>true
 |[.For _ _ _ _ _]=>true
 |_=>false
def LW (S:Sn) (iter:Expr) (body:List Stmt):Option Nat:=if JI body then(cY iter).bind (bJ S)else none
def Gn:Expr->Option (Str×Pos×Expr×Pos)
 |.Call (.Name f p) [a] [] q=>some (f,p,a,q)
 |_=>none
def LX:Expr->Option Str
 |.Call (.Name _ _) [.Name x _] [] _=>some x
 |_=>none
def JJ (x:Str):Stmt->Bool
 |.Expr (.Call (.Attribute (.Subscript (.Name y _) _ _) _ _) [_] [] _) _=>decide (y=x)
 |_=>false
def JK (S:Sn) (iter:Expr) (body:List Stmt):Option Expr:=match Gn iter with
 |some (f,_,a,_)=>if f=("range":Str)/\glS S f=true/\S.G.no f=true/\aI a=true/\((LX a).any λx=>body.any (JJ x))=true then some a else none
 |none=>none
mutual
noncomputable def ex:Nat->Sn->Stmt->Ev->Option Out
 |0=>λ_ _=>noO'
 |n+1=>λS st=>match st with
  |.Return v _=>exR n S v
  |.Assign ts e _=>exA n S ts e
  |.If c a b _=>ifS (rq n S c) (exs n S a) (exs n S b)
  |.For tg iter body els _=>if els.isEmpty&&gL iter then(match LW S iter body with
   |some i=>orO (gw (rj n S tg iter) (tgE S n tg) (exs n S body)) (orO (λY=>gw (rj n S tg iter) (tgE S n tg) (exs n S body) (frzS [i] Y)) (rK (rj n S tg iter) (tgE S n tg) (exs n S body)))
   |none=>match JK S iter body with
    |some a=>orO (gw (rj n S tg iter) (tgE S n tg) (exs n S body)) (orO (Jv (λY=>(rx n S [a] Y).bind lD) (tgE S n tg) (exs n S body)) (rK (rj n S tg iter) (tgE S n tg) (exs n S body)))
    |none=>orO (gw (rj n S tg iter) (tgE S n tg) (exs n S body)) (rK (rj n S tg iter) (tgE S n tg) (exs n S body)))else noO'
  |.Pass _=>λY=>some (.nx Y)
  |.Break _=>λY=>some (.bk Y)
  |.Continue _=>λY=>some (.ct Y)
  |.Expr e _=>exX n S e
  |_=>noO'
noncomputable def exs:Nat->Sn->List Stmt->Ev->Option Out
 |0=>λ_ _=>noO'
 |n+1=>λS st=>match st with
  |[]=>λY=>some (.nx Y)
  |s::r=>af (ex n S s) (exs n S r)
end
section
variable {X:Cx} {S:Sn}
theorem ux (o:TnOk X S) (h:vL S x=some i):fz x=true/\Loc X.env.scope x/\X.N[i]?=some x:=by
 unfold vL at h;split at h
 ·rename_i c;rw[and_eq_true,Bool.or_eq_true]at c;refine⟨c.1,?_,by rw[o.s.N];exact fQ h⟩;rcases c.2 with c|c
  ·exact .inl (o.s.loc _ (of_decide_eq_true c))
  ·exact .inr (o.s.cel _ (of_decide_eq_true c))
 ·cases h
theorem swaps_name (e:Expr) (x:Str) (p:Pos) (l:Nat) (env:Env):swapsWith e (some (.Name x p)) l env=pure false\/(swapsWith e (some (.Name x p)) l env=pure true/\env.scope.names.lookup x=some .local):=by
 have key:∀ (b1 b2 b3:Bool),(pure (b1&&(env.kindOf x==some .local)&&b2&&b3):Sem Bool)=pure false\/((pure (b1&&(env.kindOf x==some .local)&&b2&&b3):Sem Bool)=pure true/\env.scope.names.lookup x=some .local):=λb1 b2 b3=>by
  cases hk:(env.kindOf x==some NameKind.local)with
  |false=>left;cases b1<;>rfl
  |true=>
   have hl:env.scope.names.lookup x=some .local:=by
    have hk':env.kindOf x=some .local:=by simpa using hk
    exact hk'
   cases b1<;>cases b2<;>cases b3<;>first|exact .inl rfl|exact .inr ⟨rfl,hl⟩
 cases e<;>first
  |exact .inl rfl
  |exact key _ _ _
theorem bB {st}:PR X st noO':=yP
theorem eg (h:fz x=true):(x==("__debug__":Str))=false/\(x==("__classdict__":Str))=false:=⟨(cP h).1,(cP h).2.1⟩
theorem Go (h:uq ik=true):∀v,assign (.Subscript (.Name x px) ik spos) env v=(do
  let ov<-holding [v] (eval (.Name x px) env)
  let iv<-holding [v,ov] (eval ik env)
  standAt spos
  holding [v,ov,iv] (setItem ov iv v)
  release [v,ov,iv] []):=by
 intro v
 cases ik<;>first|rfl|cases h
theorem qq (h:gd e=false):swapsWithSole [t] e l env=pure false:=by
 exact jr h _ _ _
theorem CU:swappedStores [.Subscript (.Name x px) ik spos] e env=pure none:=by
 cases e<;>rfl
theorem rX (h:uu e=true):swappedStores [t] e env=pure none:=by
 cases e<;>first|rfl|(cases t<;>rfl)|cases h
theorem mN (h:uu e=true):gd e=false:=by
 cases e<;>first|rfl|cases h
theorem du (h:cY e=some x):∃p,e=.Name x p:=by
 cases e<;>first|(cases h;exact⟨_,rfl⟩)|cases h
theorem uy (h:D0 e=true):∃x k p,e=.Constant (.str x) k p:=by
 cases e with
 |Constant c k p=>cases c<;>first|exact⟨_,_,_,rfl⟩|cases h
 |_=>cases h
theorem uz (h:vO e=some (o,m,ap,a,cp)):e=.Call (.Attribute o m ap) [a] [] cp:=by
 unfold vO at h;split at h
 ·cases h;rfl
 ·cases h
theorem JL (n:Nat) (o:TnOk X S) (v:Option Expr):PR X (.Return v pos) (exR n S v):=by
 cases v with
 |none=>exact Cc
 |some e=>
  unfold exR;dsimp only;cases h:cY e with
  |none=>
   dsimp only;have R:=yR (pos:=pos) (ut n o.s e);cases hp:vM e with
   |none=>exact R
   |some z=>
    obtain⟨x,e'⟩:=z;dsimp only;cases hi:bJ S x with
    |none=>exact R
    |some i=>
     obtain⟨px,x1,p2,rfl,hs⟩:=uv hp;obtain⟨h1,h2,h3,_⟩:=bh o.s hi;obtain⟨a,b⟩:=eg h1;exact ju (F6 i ((sound n).rf X S o.s _) h3 h2 a b (star1 hs)) R
  |some x=>
   obtain⟨p,rfl⟩:=du h;dsimp only;cases hi:bJ S x with
   |none=>exact yR (ut n o.s _)
   |some i=>
    obtain⟨h1,h2,h3,_⟩:=bh o.s hi;obtain⟨a,b⟩:=eg h1;exact t4 i h3 h2 a b
theorem s_evA (n:Nat) (o:SnOk X S) (e:Expr):PEv X e (evA n S e):=by
 unfold evA;split
 ·exact ut n o e
 ·exact ev_or (yN ((JH n).1 X S o e)) (ev_or (t3 ((sound n).rf X S o e)) (ev_or (vp ((sound n).rd X S o e)) (ev_or (zh _ (t3 ((sound n).rf X S o e))) (DT ((sound n).rd X S o e)))))
theorem Gp (n:Nat) (o:TnOk X S) (t e:Expr):PR X (.Assign [t] e pos) (zS n S t e):=by
 have P:=λe=>((sound n).rd X S o.s e).p;cases t with
 |Name x p=>
  unfold zS;dsimp only;cases hi:vL S x with
  |none=>exact bB
  |some i=>
   obtain⟨h1,h2,h3⟩:=ux o hi;dsimp only;cases hq:vN e with
   |none=>exact yS (by rw[o.s.N];exact o.s.nd) h3 h2 (s_evA n o.s _) (.inl (o.fn _)) (swaps_name _ _ _ _ _)
   |some z=>
    obtain⟨f,a,b⟩:=z;obtain⟨_,_,rfl,ha,hb⟩:=uw hq;exact yS (by rw[o.s.N];exact o.s.nd) h3 h2 (ev_or (s_evP n o.s ha hb) (s_evA n o.s _)) (.inl (o.fn _)) (swaps_name _ _ _ _ _)
 |Subscript ob k p=>
  unfold zS;dsimp only;cases hn:cY ob with
  |none=>exact bB
  |some x=>
   obtain⟨px,rfl⟩:=du hn;dsimp only;split
   ·rename_i h;rw[and_eq_true]at h;cases hi:bJ S x with
    |none=>exact bB
    |some i=>
     obtain⟨h1,h2,h3,_⟩:=bh o.s hi;obtain⟨a,b⟩:=eg h1;exact FK i (ut n o.s _) (P _) h3 h2 a b (Go h.1) (qq (by simpa using h.2)) CU (asg1 rfl)
   ·exact bB
 |Tuple ts k p=>
  unfold zS;dsimp only;split
  ·rename_i h;exact ju (Ch (P _) ((rT o.s o.fn n).1 _) (qq (mN h)) (rX h) (asg1 rfl)) (Ci (P _) ((rT o.s o.fn n).1 _) (qq (mN h)) (rX h) (asg1 rfl))
  ·exact bB
 |_=>exact bB
theorem JM (n:Nat) (o:TnOk X S) (ts:List Expr) (e:Expr):PR X (.Assign ts e pos) (exA n S ts e):=by
 cases ts with
 |nil=>exact bB
 |cons t r=>cases r with
  |nil=>exact Gp n o t e
  |cons _ _=>exact bB
theorem Gq (n:Nat) (o:TnOk X S) (m:Str) (e:Expr) (hi:bJ S x=some i) (hs:aI e=true) (hl:(ap.endLine==cp.line)=true):PR X (.Expr (.Call (.Attribute (.Name x px) m ap) [e] [] cp) pos) (Gm n S i m e):=by
 obtain⟨h1,h2,h3,_⟩:=bh o.s hi;obtain⟨a,b⟩:=eg h1;unfold Gm;split
 ·rename_i hm;subst hm;split
  ·exact ju (j5 i (ut n o.s _) h3 h2 a b (star1 hs) hl) (j5 i (zh _ (vp ((sound n).rd X S o.s e))) h3 h2 a b (star1 hs) hl)
  ·exact j5 i (ut n o.s _) h3 h2 a b (star1 hs) hl
 ·split
  ·rename_i hm;subst hm;exact xh i ((sound n).rd X S o.s e).p h3 h2 a b (star1 hs) hl
  ·exact bB
theorem JN (n:Nat) (o:TnOk X S) (ob:Expr) (m:Str) (e:Expr) (hs:aI e=true) (hl:(ap.endLine==cp.line)=true):PR X (.Expr (.Call (.Attribute ob m ap) [e] [] cp) pos) (exD n S ob m e):=by
 unfold exD;cases h1:sdS ob with
 |none=>exact bB
 |some z=>
  obtain⟨o2,ek⟩:=z;dsimp only;split
  ·rename_i hm;subst hm;cases hn:(cY o2).bind (bJ S)with
   |none=>exact bB
   |some i=>
    obtain⟨x,e1,hi⟩:=bind_some hn;obtain⟨px,rfl⟩:=du e1;unfold sdS at h1;split at h1
    ·obtain⟨⟨g1,g2,g3⟩,h2⟩:=ax h1;cases h2;subst g1;obtain⟨f1,f2,f3,_⟩:=bh o.s hi;obtain⟨c,d⟩:=eg f1;exact Ge i ((sound n).rd X S o.s _).p ((sound n).rd X S o.s _).p f3 f2 c d (star1 hs) (star1 g2) rfl g3 hl
    ·cases h1
  ·exact bB
theorem JO (n:Nat) (o:TnOk X S) (ob:Expr) (m:Str) (e:Expr) (hs:aI e=true) (hl:(ap.endLine==cp.line)=true):PR X (.Expr (.Call (.Attribute ob m ap) [e] [] cp) pos) (exM n S ob m e):=by
 cases ob with
 |Name x p=>
  unfold exM;dsimp only;cases hi:bJ S x with
  |none=>exact bB
  |some i=>exact Gq n o m e hi hs hl
 |Subscript ob k p=>
  unfold exM;dsimp only;cases hn:(cY ob).bind (bJ S)with
  |none=>exact bB
  |some i=>
   obtain⟨x,e1,hi⟩:=bind_some hn;obtain⟨px,rfl⟩:=du e1;dsimp only;split
   ·rename_i h;obtain⟨rfl,hk⟩:=h;obtain⟨h1,h2,h3,_⟩:=bh o.s hi;obtain⟨a,b⟩:=eg h1;split
    ·rename_i h1k;exact ju (F4 i ((sound n).rd X S o.s _).p (qp h1k).1 (qp (X:=X) h1k).2 h3 h2 a b (star1 hs) hl) (zi i ((sound n).rd X S o.s _).p ((sound n).rd X S o.s _).p h3 h2 a b (noSl_ok hk) (star1 hs) hl)
    ·exact zi i ((sound n).rd X S o.s _).p ((sound n).rd X S o.s _).p h3 h2 a b (noSl_ok hk) (star1 hs) hl
   ·exact bB
 |_=>exact JN n o _ m e hs hl
theorem xx (h:CQ e=some (o,ap,a,b,cp)):e=.Call (.Attribute o "insert" ap) [a,b] [] cp:=by
 unfold CQ at h;split at h
 ·obtain⟨h1,h2⟩:=ax h;cases h2;rw[h1]
 ·cases h
theorem xy (h:CS e=some (x,p,ap,cp)):e=.Call (.Attribute (.Name x p) "reverse" ap) [] [] cp:=by
 unfold CS at h;split at h
 ·obtain⟨h1,h2⟩:=ax h;cases h2;rw[h1]
 ·cases h
theorem JP (n:Nat) (o:TnOk X S) (ob a b:Expr) (ha:aI a=true) (hb:aI b=true) (hl:(ap.endLine==cp.line)=true):PR X (.Expr (.Call (.Attribute ob "insert" ap) [a,b] [] cp) pos) (exI n S ob a b):=by
 have P:=λe=>((sound n).rd X S o.s e).p;cases ob with
 |Name x p=>
  unfold exI;dsimp only;cases hi:bJ S x with
  |none=>exact bB
  |some i=>
   obtain⟨h1,h2,h3,_⟩:=bh o.s hi;obtain⟨c,d⟩:=eg h1;exact xm i (P _) (P _) h3 h2 c d (star1 ha) (star1 hb) hl
 |Subscript ob k p=>
  unfold exI;dsimp only;cases hn:(cY ob).bind (bJ S)with
  |none=>exact bB
  |some i=>
   obtain⟨x,e1,hi⟩:=bind_some hn;obtain⟨px,rfl⟩:=du e1;dsimp only;split
   ·rename_i hk;obtain⟨h1,h2,h3,_⟩:=bh o.s hi;obtain⟨c,d⟩:=eg h1;exact FZ i (P _) (P _) (P _) h3 h2 c d (noSl_ok hk) (star1 ha) (star1 hb) hl
   ·exact bB
 |_=>exact bB
theorem JQ (n:Nat) (o:TnOk X S) (e:Expr):PR X (.Expr e pos) (exV n S e):=by
 unfold exV;cases hm:CQ e with
 |some z=>
  obtain⟨ob,ap,a,b,cp⟩:=z;have:=xx hm;subst this;dsimp only;split
  ·rename_i h;rw[and_eq_true,and_eq_true]at h;exact JP n o ob a b h.1.1 h.1.2 h.2
  ·exact bB
 |none=>
  dsimp only;cases hv:CS e with
  |some z=>
   obtain⟨x,p,ap,cp⟩:=z;have:=xy hv;subst this;dsimp only;split
   ·rename_i h;cases hi:bJ S x with
    |none=>exact bB
    |some i=>
     obtain⟨h1,h2,h3,_⟩:=bh o.s hi;obtain⟨c,d⟩:=eg h1;exact uf i h3 h2 c d h
   ·exact bB
  |none=>
   dsimp only;cases hr:CT e with
   |some z=>
    obtain⟨x,ap,cp⟩:=z;obtain⟨px,sp,k,rfl,h1k⟩:=xw hr;dsimp only;split
    ·rename_i h;cases hi:bJ S x with
     |none=>exact bB
     |some i=>
      obtain⟨h1,h2,h3,_⟩:=bh o.s hi;obtain⟨c,d⟩:=eg h1;exact F5 i (qp h1k).1 (qp (X:=X) h1k).2 h3 h2 c d h
    ·exact bB
   |none=>
   dsimp only;split
   ·exact bB
   ·rename_i h;exact Cd ((sound n).rd X S o.s e).p (jr (by simpa using h) _ _ _)
theorem JR (n:Nat) (o:TnOk X S) (e:Expr):PR X (.Expr e pos) (exX n S e):=by
 unfold exX;split
 ·rename_i h;obtain⟨x,k,p,rfl⟩:=uy h;exact FG
 ·cases hm:vO e with
  |some z=>
   obtain⟨ob,m,ap,a,cp⟩:=z;have:=uz hm;subst this;dsimp only;split
   ·rename_i h;rw[and_eq_true]at h;exact JO n o ob m a h.1 h.2
   ·exact bB
  |none=>exact JQ n o e
theorem CV:∀n,(∀X S,TnOk X S->∀st,PR X st (ex n S st))/\∀X S,TnOk X S->∀st,PRs X st (exs n S st):=by
 intro n;induction n with
 |zero=>exact⟨λX S o e=>bB,λX S o es=>yO⟩
 |succ n ih=>
  refine⟨λX S o st=>?_,λX S o st=>?_⟩
  ·have pass:PassesOwn (model X.prog X.w) X.A X.env X.xe:=by rw[o.nox];exact PassesOwn.never
   unfold ex;cases st with
   |Return v p=>exact JL n o v
   |Assign ts e p=>exact JM n o ts e
   |If c a b p=>exact Jd ((sound n).rq X S o.s _) (ih.2 X S o _) (ih.2 X S o _)
   |For tg iter body els p=>
    dsimp only;split
    ·rename_i h;rw[and_eq_true]at h;cases els with
     |nil=>
      have F1:=FI (pos:=p) pass o.s.calm ((sound n).rj X S o.s tg iter) ((rT o.s o.fn n).1 _) (ih.2 X S o body) (d8 h.2);have F2:=Cg (pos:=p) pass o.s.calm ((sound n).rj X S o.s tg iter) ((rT o.s o.fn n).1 _) (ih.2 X S o body) (d8 h.2);split
      ·exact ju F1 (ju (F0 _ F1) F2)
      ·split
       ·rename_i a hR;refine ju F1 (ju ?_ F2);unfold JK at hR;cases hq:Gn iter with
        |none=>rw[hq]at hR;cases hR
        |some z=>
         obtain⟨f,q,a',q'⟩:=z;rw[hq]at hR;obtain⟨⟨rfl,h1,h2,h3,_⟩,e⟩:=ax hR;subst e;have hi:iter=.Call (.Name "range" q) [a'] [] q':=by
          unfold Gn at hq;split at hq
          ·cases hq;rfl
          ·cases hq
         subst hi;obtain⟨ok,gl⟩:=aW o.s h1;exact CI pass o.s.calm gl (o.s.g.no _ h2) ((sound n).rx X S o.s _) (star1 h3) ((rT o.s o.fn n).1 _) (ih.2 X S o _) (d8 h.2)
       ·exact ju F1 F2
     |cons _ _=>cases h.1
    ·exact bB
   |Pass p=>exact B9
   |Break p=>exact yQ
   |Continue p=>exact rJ
   |Expr e p=>exact JR n o e
   |_=>exact bB
  ·unfold exs;cases st with
   |nil=>exact FE
   |cons s r=>exact B8 (ih.1 X S o _) (ih.2 X S o _)
end
def inx:Nat->Sn->Addr->(Str->Bool)->List Stmt->InF
 |0=>λ_ _ _ _=>λ_ _=>none
 |n+1=>λS x fl st=>match st with
  |[]=>Cp
  |.Assign [.Attribute (.Name y _) f _] e _::r=>if fl f&&!gd e then(match bJ S y with|some i=>Cq x i f (ev n S e) (inx n S x fl r)|none=>λ_ _=>none)elseλ_ _=>none
  |s::r=>stI (ex n S s) (inx n S x fl r)
theorem JS (o:TnOk X S) (c:Cls X.K Ca) (hfl:∀f,fl f=true->NoAttr X.K Ca f):∀n st,PIn X Ca x st (inx n S x fl st):=by
 have no:∀st,PIn X Ca x st (λ_ _=>none):=λst B O Y dx fd pins s σ H D I ⟨_,_,_,_,q,_⟩=>by cases q
 intro n;induction n with
 |zero=>exactλst=>no st
 |succ n ih=>
  intro st;unfold inx;split
  ·exact FM
  ·split
   ·rename_i h;rw[and_eq_true]at h;split
    ·rename_i i hi;obtain⟨h1,h2,h3,_⟩:=bh o.s hi;obtain⟨a,b⟩:=eg h1;exact FN i (ut n o.s _) (ih _) h3 h2 a b (jr (by simpa using h.2) _ _ _) c (hfl _ h.1)
    ·exact no _
   ·exact no _
  ·exact Cr ((CV n).1 X S o _) (ih _)
mutual
noncomputable def tgA (S:Sn) (i0:Nat):Nat->Expr->D->Ev->Option Ev
 |0=>λ_ _ _=>none
 |n+1=>λe=>match e with
  |.Name x _=>(match qo S x with|some i=>if i=i0 thenλ_ _=>none else eNm i|none=>λ_ _=>none)
  |.Tuple ts _ _=>if ts.all aI then eTp ts.length (JT S i0 n ts)elseλ_ _=>none
  |_=>λ_ _=>none
noncomputable def JT (S:Sn) (i0:Nat):Nat->List Expr->List D->Ev->Option Ev
 |0=>λ_ _ _=>none
 |n+1=>λes=>match es with
  |[]=>j4
  |t::ts=>if aI t then cm (tgA S i0 n t) (JT S i0 n ts)elseλ_ _=>none
end
section
variable {X:Cx} {S:Sn} {i0:Nat}
end
structure AlOk (K:Frag) (B:Bs) (O:Addr->Bool) (σ:St) (H:Hp) (Y:Ev) (i:Nat) (d:D):Prop where
 E:EnvOk K B O σ H Y
 no:Y[i]?=some none
 al:∃v,σ[i]?=some (some v)/\Is K H d v
section
variable {K:Frag} {B:Bs} {O:Addr->Bool} {σ:St} {H H':Hp} {Y:Ev} {i j:Nat} {d:D}
end
section
variable {X:Cx} {e tg iter:Expr} {pos:Pos} {i j:Nat} {x y:Str} {d:D} {ds:List D} {B:Bs} {O:Addr->Bool} {Y:Ev}
end
section
variable {X:Cx} {S:Sn}
end
section
variable {X:Cx} {e2 c:Expr} {i v:Nat} {x y:Str}
end
section
variable {X:Cx} {S:Sn}
end
def cI (i:Int):Vv->Option D:=λ_=>some (.int i)
def cB (b:Bool):Vv->Option D:=λ_=>some (.bl b)
def cN:Vv->Option D:=λ_=>some .non
def cS (x:Str):Vv->Option D:=λ_=>some (.str x)
def cD (d:D):Vv->Option D:=λ_=>some d
def cT (n:String):Vv->Option D:=λ_=>some (.ty n)
def va (i:Nat):Vv->Option D:=λY=>dD Y i
def ngF (a:Vv->Option D):Vv->Option D:=λY=>(a Y).bind yE
def ae:Vv->Option (List D):=λ_=>some []
def tpF (xs:Vv->Option (List D)):Vv->Option D:=λY=>(bZ (xs Y)).bind λds=>some (.tup ds)
def flF (fl:Str->Str->Bool) (m:Str) (o:Vv->Option D):Vv->Option D:=λY=>(o Y).bind (iE fl m)
def slF (a:Vv->Option D) (lo hi:Vv->Option (Option Int)):Vv->Option D:=orO (yJ a lo hi) λY=>(yK a lo hi Y).map D.lst
def noP:Vv->Option (Option Int):=λ_=>some none
def lsF (L:Vv->Option (List D)):Vv->Option D:=λY=>(L Y).map D.lst
def clF (f:List D->Option Sl) (xs:Vv->Option (List D)):Vv->Option D:=orO (λY=>(xs Y).bind λds=>cu (f ds)) (lsF noV)
def biF (f:List D->Option D) (xs:Vv->Option (List D)):Vv->Option D:=orO (λY=>(xs Y).bind f) (lsF noV)
def noD:List D->Option D:=λ_=>none
def mkF (C:Str) (g:List D->Option (List (Str×D))) (xs:Vv->Option (List D)):Vv->Option D:=orO (λY=>(xs Y).bind λds=>Cm C (g ds)) (lsF noV)
def meF (o:Vv->Option D) (xs:Vv->Option (List D)) (mt:MT) (k:Nat) (m:Str):Vv->Option D:=λY=>cu (mK o xs mt k m Y)
def dpF (xs:Vv->Option (List D)):Vv->Option (List D):=λY=>bZ (xs Y)
def l1F (xs:Vv->Option (List D)):Vv->Option (List D):=λY=>(xs Y).bind oP
def liF (xs:Vv->Option (List D)):Vv->Option D:=orO (λY=>(xs Y).bind noD) (lsF (l1F xs))
def s1F (xs:Vv->Option (List D)):Vv->Option (List D):=orO (λY=>(xs Y).bind vC) (λY=>(xs Y).bind vD)
def rvF (xs:Vv->Option (List D)):Vv->Option (List D):=λY=>(xs Y).bind revD
def lrF (xs:Vv->Option (List D)):Vv->Option (List D):=λY=>(xs Y).bind lrD
def enF (xs:Vv->Option (List D)):Vv->Option (List D):=λY=>(xs Y).bind vy
def liG (xs:Vv->Option (List D)) (L:Vv->Option (List D)):Vv->Option D:=orO (λY=>(xs Y).bind noD) (lsF L)
def trF (a:Vv->Option D):Vv->Option Bool:=λY=>(a Y).bind rC
def tQ:Vv->Option Bool:=λ_=>some true
def jX (sp:Vv->Option (List D)) (R:Vv->Option D):Vv->Option (List D):=orO sp λY=>(R Y).bind seqD
def r1F (xs:Vv->Option (List D)):Vv->Option (List D):=λY=>(xs Y).bind lD
def zpF (xs:Vv->Option (List D)):Vv->Option (List D):=λY=>(xs Y).bind w5
def frX (R:Vv->Option D) (L:Vv->Option (List D)) (Sp:Vv->Option D):Vv->Option D:=orO (λY=>lfO (R Y)) (orO (λY=>js (L Y)) Sp)
def evX (R:Vv->Option D) (L:Vv->Option (List D)) (Sp:Vv->Option D):Ev->Option (Sl×Ev):=orO (lE (frX R L Sp)) (orO (kY L) (orO (rH R) (w9 R)))
def fLs (F:Vv->Option (List D)):Vv->Option D:=λY=>(bZ (F Y)).bind λds=>some (.lst ds)
def fTp (F:Vv->Option (List D)):Vv->Option D:=λY=>(bZ (F Y)).bind λds=>some (.tup ds)
def fCo (ks:List Nat) (J:Vv->Option (List D)) (tg:D->Vv->Option Vv) (t:Vv->Option Bool) (F:Vv->Option D):Vv->Option D:=λY=>(ak ks J tg t F Y).bind λds=>some (.lst ds)
def fCl (f:List D->Option Sl) (xs:Vv->Option (List D)):Vv->Option D:=λY=>(xs Y).bind λds=>iI (f ds)
def fNo (xs:Vv->Option (List D)):Vv->Option D:=λY=>(xs Y).bind noD
def rtN (i:Nat):Ev->Option Out:=λY=>(jt Y i).bind λs=>some (.rt s)
def nxE:Ev->Option Out:=λY=>some (.nx Y)
def frF (J:Vv->Option (List D)) (tg:D->Ev->Option Ev) (F:Ev->Option Out):Ev->Option Out:=orO (gw J tg F) (rK J tg F)
def frY (i:Nat) (J:Vv->Option (List D)) (tg:D->Ev->Option Ev) (F:Ev->Option Out):Ev->Option Out:=orO (gw J tg F) (orO (λY=>gw J tg F (frzS [i] Y)) (rK J tg F))
def vtF (xs:Vv->Option (List D)):Vv->Option (List D):=λY=>(xs Y).bind rvT
def tvF (xs:Vv->Option (List D)):Vv->Option D:=λY=>(xs Y).bind FW
def dcN:Vv->Option D:=λ_=>some (.dct [] [])
def bi (K:Frag) (x:Str) (st:Stmt):Prop:=∃ (f:Addr) (oc:Value) (od an:Option Addr) (osl:Array (Option Value)) (kV doc pm cdv ct:Value),nsIn K mainGlobals x=some (some (.ref f))/\
 K.lookup f=some ⟨oc,od,.func (PySem.W.fnOf x x (cy st) (bj st) (aE st) .none kV doc pm an cdv ct),osl⟩/\PySem.W.codeIn K cdv x=true/\PySem.W.keepIn K (.ref f)=true
def qr (K:Frag) (C m qual:Str) (st:Stmt):Prop:=∃ (Ca f:Addr) (oc:Value) (od an:Option Addr) (osl:Array (Option Value)) (kV doc pm cdv ct:Value),nsIn K mainGlobals C=some (some (.ref Ca))/\findIn K (.ref Ca) m=some (some (.ref f))/\PySem.W.isFn K (.ref f)=true/\
 K.lookup f=some ⟨oc,od,.func (PySem.W.fnOf m qual (cy st) (bj st) (aE st) .none kV doc pm an cdv ct),osl⟩/\PySem.W.codeIn K cdv qual=true/\PySem.W.keepIn K (.ref f)=true
structure TCls (K:Frag) (C:Str):Prop where
 ex:∃Ca:Addr,nsIn K mainGlobals C=some (some (.ref Ca))/\Cls K Ca/\PySem.W.makesIn K Ca=true/\PySem.W.keepIn K (.ref Ca)=true
section
variable {P:Program} {w:World} {K:Frag} {mg:Str->Option Value} {base:Heap}
abbrev zT (N:List Str) (st:Stmt) (k:Nat) (G:Gb):Sn:=⟨N,(aE st).names,k,G⟩
theorem vP {G:Gb} (g:GbOk P w K mg base G) {N ps:List Str} {st:Stmt} {k:Nat} {qual:Str} {f:Addr} (S:FnScope N ps (aE st)) (cdv:Value) (A:Around) (outer:List Env) (s:Shared) (H:Hp) (E:XK) (hr:Room k (A.deeper (envOfC qual (aE st) s.heap.objs.size f cdv))):
  TnOk (pN CX0 P w K mg base N qual (aE st) f cdv A outer s H E).nox (zT N st k G) where
 s:=⟨g,rfl,S.nd,rfl,hr,λ_ h=>h,λ_ h=>h,λ_ h=>.inr h,λ_ h=>h⟩
 fn:=λ_=>rfl
 nox:=rfl
 nm:=rfl
def dfn (n k:Nat) (N ps:List Str) (st:Stmt) (G:Gb):List D->Option Sl:=aX ps.length N.length (exs n (zT N st k G) (bj st))
def cZ (x:Str) (st:Stmt) (ps:List Str):Prop:=∀ (qual:Str) (kV doc pm:Value) (an:Option Addr) (cdv ct:Value) (us:List Value),us.length=ps.length->bindArgs (PySem.W.fnOf x qual (cy st) (bj st) (aE st) .none kV doc pm an cdv ct) ⟨us,[]⟩=pure (ps.zip us)
theorem JU (g:GbOk P w K mg base G) (KX:K.In h) (hN:h.Ns mainGlobals mg) {st} (n k:Nat) (S:FnScope N ps (aE st)) (b:cZ x st ps) (t:bi K x st):Df P w K mg base x (k+1) (dfn n k N ps st G):=by
 obtain⟨f,oc,od,an,osl,kV,doc,pm,cdv,ct,h1,h2,h3,h4⟩:=t;have Fn:=pS h2 h3 h4;refine⟨f,_,ps,PySem.W.mg_of KX hN h1,h4,Fn.binds λkV doc pm an cdv ct us hl=>b x kV doc pm an cdv ct us hl,FL Fn S λcdv A outer s H E hr=>?_⟩;exact(CV n).2 _ _ (vP g S cdv A outer s H E hr) _
theorem D2 (g:GbOk P w K mg base G) {st} (n k:Nat) (S:FnScope N ps (aE st)) (b:cZ m st ps) (c:TCls K C) (t:qr K C m qual st):Mf P w K mg base C m (k+1) (dfn n k N ps st G):=by
 obtain⟨Ca,f,oc,od,an,osl,kV,doc,pm,cdv,ct,h0,hf,hi,h2,h3,h4⟩:=t;obtain⟨Cb,e0,cl,_,_⟩:=c.ex;rw[h0]at e0;cases e0;have Fn:=pS h2 h3 h4;refine⟨Ca,f,_,ps,h0,cl,⟨hf,hi,h4⟩,Fn.binds λkV doc pm an cdv ct us hl=>b qual kV doc pm an cdv ct us hl,FL Fn S λcdv A outer s H E hr=>?_⟩;exact(CV n).2 _ _ (vP g S cdv A outer s H E hr) _
theorem JV (g:GbOk P w K mg base G) (KX:K.In h) (hN:h.Ns mainGlobals mg) {st} (n k:Nat) (fl:Str->Bool) (S:FnScope N ps (aE st)) (b:cZ "__init__" st ps) (c:TCls K C) (t:qr K C "__init__" qual st) (hfl:∀f,fl f=true->∀Ca,nsIn K mainGlobals C=some (some (.ref Ca))->NoAttr K Ca f) (hg:∀ds r,gg ds=some r->∀y,yX ps.length N.length (λy=>inx n (zT N st k G) y fl (bj st)) y ds=some r):Mkf P w K mg base C (k+1) gg:=by
 obtain⟨Ca,f,oc,od,an,osl,kV,doc,pm,cdv,ct,h0,hf,hi,h2,h3,h4⟩:=t;obtain⟨Cb,e0,cl,mk,kp⟩:=c.ex;rw[h0]at e0;cases e0;have Fn:=pS h2 h3 h4;refine⟨Ca,f,_,ps,PySem.W.mg_of KX hN h0,h0,⟨mk,hf,hi,kp⟩,Fn.binds λkV doc pm an cdv ct us hl=>b qual kV doc pm an cdv ct us hl,LA Fn S hg λy cdv A outer s H E hr=>?_⟩;exact JS (vP g S cdv A outer s H E hr) cl (λf q=>hfl f q Ca h0) n _
end
def spL (K:Frag):Sp:=λvs H Q _=>∃ (a:Addr) (ns:List Int),vs=[.ref a]/\SqL K H a (ns.map V.int)/\ns.length<=63/\∀H',Q (.bl true) H'
theorem vQ {K}:∀ (ns:List Int),IsL K H (ns.map D.int) (ns.map V.int)
 |[]=>rfl
 |n::ns=>⟨_,_,rfl,rfl,vQ ns⟩
theorem Gr {K} (F:FnOk P w K mg base CX0 k a fd ps (spC K f)) (hf:∀ns:List Int,ns.length<=63->cu (f [.lst (ns.map D.int)])=some (.bl true)):
  FnOk P w K mg base CX0 k a fd ps (spL K):=F.imp λvs H Q E ⟨b,ns,e,h,hl,q⟩=>by
 obtain⟨⟨c,d⟩,e1,e2⟩:=bind_some (hf ns hl)
 cases e2
 refine⟨noO,[.lst (ns.map D.int)],_,λ_ h=>(nomatch h),?_,e1,λv H' r=>?_⟩
 ·rw[e,pX];exact⟨_,[],rfl,⟨b,_,rfl,h,vQ ns⟩,rfl⟩
 ·obtain⟨O',A,_,_,_,_,_,h6⟩:=r;have hv:v=.bl true:=by
   cases c with
   |sh=>exact h6.2
   |top=>obtain⟨_,_,_,z,_⟩:=h6;cases z
   |pr=>obtain⟨_,_,_,_,_,_,z,_⟩:=h6;cases z
   |deep=>exact h6.1
  rw[hv];exact q H'
theorem walkL {l:PySem.W.OpenLaw} {K:Params->Frag} (hn:l.most=some 63) (hdf:d.params.defaults=[]) (hr:Room k callerA) (hY:∀ (w:World) (h:Heap),YP w h->(K w.params).In h) (F:∀ (w:World) (mg:Str->Option Value) (fa:Addr) (h:Heap),(K w.params).In h->h.Ns mainGlobals mg->mg d.name=some (.ref fa)->
   ∃fd:FuncData,(∀ (s:Shared) (u:Value),BindsTo s fd ⟨[u],[]⟩ [("script",u)])/\∀base:Heap,(K w.params).In base->base.Ns mainGlobals mg->FnOk l.prog w (K w.params) mg base CX0 k fa fd ["script"] (spL (K w.params))):
  PySem.W.WalkO q loose XP YP l.row.toRowW d [] (λf vs=>PySem.call f vs):=
 L2.walk_of hn (by decide) hdf hr hY F (λ_ _ a ns hl _ hS=>⟨a,ns,rfl,hS,hl,λ_=>rfl⟩) λ_ _ _ _ _ z=>z
def addF (G:Gb) (x:Str) (k:Nat) (f:List D->Option Sl):Gb:={G with fn:=λy=>if y=x then some (k,f)else G.fn y}
def addM (G:Gb) (m C:Str) (k:Nat) (f:List D->Option Sl):Gb:={G with mt:=λa b=>if a=m/\b=C then some (k,f)else G.mt a b}
def addI (G:Gb) (C:Str) (k:Nat) (g:List D->Option (List (Str×D))):Gb:={G with ini:=λy=>if y=C then some (k,g)else G.ini y}
section
variable {P:Program} {w:World} {K:Frag} {mg:Str->Option Value} {base:Heap} {G:Gb}
theorem GbOk.addF (g:GbOk P w K mg base G) (d:Df P w K mg base x k f):GbOk P w K mg base (addF G x k f):=⟨λy j h e=>by
 have e':(if y=x then some (k,f)else G.fn y)=some (j,h):=e;split at e'
 ·rename_i z;cases e';rw[z];exact d
 ·exact g.fn y j h e',g.cn,g.no,g.fl,g.mt,g.ini⟩
theorem GbOk.addM (g:GbOk P w K mg base G) (d:Mf P w K mg base C m k f):GbOk P w K mg base (addM G m C k f):=⟨g.fn,g.cn,g.no,g.fl,λa b j h e=>by
 have e':(if a=m/\b=C then some (k,f)else G.mt a b)=some (j,h):=e;split at e'
 ·rename_i z;cases e';rw[z.1,z.2];exact d
 ·exact g.mt a b j h e',g.ini⟩
theorem GbOk.addI (g:GbOk P w K mg base G) (d:Mkf P w K mg base C k gg):GbOk P w K mg base (addI G C k gg):=⟨g.fn,g.cn,g.no,g.fl,g.mt,λy j h e=>by
 have e':(if y=C then some (k,gg)else G.ini y)=some (j,h):=e;split at e'
 ·rename_i z;cases e';rw[z];exact d
 ·exact g.ini y j h e'⟩
end
theorem evX_lf {R L Sp} (h:R (vw Y)=some d) (f:lfD d=true):evX R L Sp Y=some ((.deep,d),Y):=by
 unfold evX orO lE frX orO lfO;simp[h,f]
theorem evX_lfs {R L Sp} (h:R (vw Y)=some d) (f:lfD d=false) (hl:L (vw Y)=some ds) (fl:lfL ds=true):evX R L Sp Y=some ((.deep,.lst ds),Y):=by
 unfold evX orO lE frX orO lfO js;simp[h,hl,f,fl]
theorem evX_call {R L Sp} (h:R (vw Y)=some d) (f:lfD d=false) (hl:L (vw Y)=none) (hs:Sp (vw Y)=some e):evX R L Sp Y=some ((.deep,e),Y):=by
 unfold evX orO lE frX orO lfO js;simp[h,hl,f,hs]
theorem evX_sh {R L Sp} (h:R (vw Y)=some d) (f:lfD d=false) (hl:L (vw Y)=none) (hs:Sp (vw Y)=none) (hl2:L (shv Y)=none) (h2:R (shv Y)=some d):evX R L Sp Y=some ((.sh,d),Y):=by
 unfold evX orO lE kY rH frX orO lfO js;simp[h,hl,hl2,h2,f,hs]
theorem ao (h:F Y=some (.nx Y')):af F G Y=G Y':=by unfold af;rw[h];rfl
theorem aJ (h:F Y=some (.rt s)):af F G Y=some (.rt s):=by unfold af;rw[h];rfl
theorem bm (h:g Y=some (s,Y')):aP i g Y=some (.nx (Y'.set i (some s))):=by unfold aP;rw[h];rfl
theorem bg (h:g Y=some (s,Y')):cb g Y=some (.rt s):=by unfold cb;rw[h];rfl
theorem jz (h:c (vw Y)=some true):ifS c F G Y=F Y:=by unfold ifS;rw[h];rfl
theorem c3 (h:c (vw Y)=some false):ifS c F G Y=G Y:=by unfold ifS;rw[h];rfl
theorem mO {step}:∀ (ds:List D) (I:Nat->Ev->Prop) (Y:Ev),I 0 Y->(∀ (i:Nat) (d:D) (Y:Ev),ds[i]?=some d->I i Y->∃Y',step d Y=some (.nx Y')/\I (i+1) Y')->∃Y',fw step ds Y=some (.nx Y')/\I ds.length Y'
 |[],I,Y,h0,_=>⟨Y,rfl,h0⟩
 |d::ds,I,Y,h0,hs=>by
  obtain⟨Y1,e1,i1⟩:=hs 0 d Y rfl h0;obtain⟨Y2,e2,i2⟩:=mO ds (λi=>I (i+1)) Y1 i1 λi d' Y' h hi=>hs (i+1) d' Y' (by simpa using h) hi;refine⟨Y2,?_,i2⟩;unfold fw;rw[e1];exact e2
theorem dm (I:Nat->Ev->Prop) (hJ:J (shv Y)=some ds) (h0:I 0 Y) (hs:∀ (i:Nat) (d:D) (Y:Ev),ds[i]?=some d->I i Y->∃Y',(tg d Y).bind F=some (.nx Y')/\I (i+1) Y'):
  ∃Y',frF J tg F Y=some (.nx Y')/\I ds.length Y':=by
 obtain⟨Y',e,i⟩:=mO (step:=lF tg F) ds I Y h0 hs
 refine⟨Y',?_,i⟩
 unfold frF orO gw
 rw[hJ]
 simp only[Option.bind_some]
 rw[e]
section
variable {Y:Vv} {a b c:Vv->Option D} {xs:Vv->Option (List D)} {i:Int} {n:Nat}
@[simp] theorem db:cI i Y=some (.int i):=rfl
@[simp] theorem MU {b}:cB b Y=some (.bl b):=rfl
@[simp] theorem MV:cN Y=some .non:=rfl
@[simp] theorem uA:cS x Y=some (.str x):=rfl
@[simp] theorem Gs:cD d Y=some d:=rfl
@[simp] theorem CW {n}:cT n Y=some (.ty n):=rfl
@[simp] theorem MG:(noV Y:Option α)=none:=rfl
@[simp] theorem aG:va n Y=dD Y n:=rfl
@[simp] theorem aj {r:Vv}:dD (d::r) 0=d:=by cases d<;>rfl
@[simp] theorem av {r:Vv}:dD (d::r) (n+1)=dD r n:=by unfold dD;simp
@[simp] theorem ay {r:Vv}:dD (d::e::r) 1=e:=by cases e<;>rfl
@[simp] theorem aF:ac g a b Y=(a Y).bind λx=>(b Y).bind λy=>g x y:=rfl
@[simp] theorem D3:ngF a Y=(a Y).bind yE:=rfl
@[simp] theorem am:ae Y=some []:=rfl
@[simp] theorem ag:aa a xs Y=(a Y).bind λd=>(xs Y).bind λr=>some (d::r):=rfl
@[simp] theorem mP:tpF xs Y=(bZ (xs Y)).bind λds=>some (.tup ds):=rfl
@[simp] theorem rY:flF fl m a Y=(a Y).bind (iE fl m):=rfl
@[simp] theorem MH:noP Y=some none:=rfl
@[simp] theorem KT:bO a Y=(a Y).bind λd=>(gH d).bind λi=>some (some i):=rfl
@[simp] theorem bz:lsF L Y=(L Y).map D.lst:=rfl
theorem mQ {f g:α->Option β} (h:g x=none):orO f g x=f x:=by
 unfold orO;cases f x<;>simp[h]
@[simp] theorem clF_a:clF f xs Y=(xs Y).bind λds=>cu (f ds):=mQ rfl
@[simp] theorem br:biF f xs Y=(xs Y).bind f:=mQ rfl
@[simp] theorem D4:mkF C g xs Y=(xs Y).bind λds=>Cm C (g ds):=mQ rfl
@[simp] theorem MI {mt k m}:meF a xs mt k m Y=cu ((a Y).bind λd=>(xs Y).bind λas=>oU mt k m d as):=rfl
@[simp] theorem lj:dpF xs Y=bZ (xs Y):=rfl
@[simp] theorem vR:l1F xs Y=(xs Y).bind oP:=rfl
@[simp] theorem vS:liF xs Y=((xs Y).bind oP).map D.lst:=by
 unfold liF orO;have:((xs Y).bind noD)=none:=by cases xs Y<;>rfl
 simp[this]
@[simp] theorem fR:trF a Y=(a Y).bind rC:=rfl
@[simp] theorem lG:tQ Y=some true:=rfl
@[simp] theorem fCl_a:fCl f xs Y=(xs Y).bind λds=>iI (f ds):=rfl
@[simp] theorem MJ:fNo xs Y=none:=by unfold fNo noD;cases xs Y<;>rfl
@[simp] theorem MK:fLs F Y=(bZ (F Y)).bind λds=>some (.lst ds):=rfl
@[simp] theorem ML:fTp F Y=(bZ (F Y)).bind λds=>some (.tup ds):=rfl
@[simp] theorem bn:jX noV R Y=(R Y).bind seqD:=rfl
theorem fS (h:(xs Y).bind lD=some ds):jX (r1F xs) R Y=some ds:=by
 unfold jX orO r1F;simp[h]
theorem rZ (h:(xs Y).bind w5=some ds):jX (zpF xs) R Y=some ds:=by
 unfold jX orO zpF;simp[h]
@[simp] theorem uB:lB a b Y=(a Y).bind λx=>x.asB.bind λc=>if c=true then b Y else some (.bl false):=rfl
@[simp] theorem MM:orF a b Y=(a Y).bind λx=>x.asB.bind λc=>if c=true then some (.bl true)else b Y:=rfl
@[simp] theorem LY:BQ a Y=(a Y).bind λx=>x.asB.bind λc=>some (.bl (!c)):=rfl
@[simp] theorem zU:nU p q Y=(p Y).bind λc=>if c=true then q Y else some false:=rfl
@[simp] theorem mR:orQ p q Y=(p Y).bind λc=>if c=true then some true else q Y:=rfl
@[simp] theorem notQ_a:bP p Y=(p Y).map (!·):=rfl
@[simp] theorem D5:ifF p a b Y=(p Y).bind λc=>if c=true then a Y else b Y:=rfl
@[simp] theorem bb:aD a Y=(a Y).bind D.asB:=rfl
@[simp] theorem zV:cG g g' a b c Y=(a Y).bind λx=>(b Y).bind λy=>(g x y).bind λz=>z.asB.bind λk=>if k=true then(c Y).bind λw=>g' y w else some (.bl false):=rfl
end
@[simp] theorem bQ (b:Bool):D.asB (.bl b)=some b:=rfl
@[simp] theorem aM (s:Sl):cu (some s)=some s.2:=rfl
@[simp] theorem uC (d:D):iI (some (.deep,d))=some d:=rfl
@[simp] theorem io (i j:Int):b9 (.int i) (.int j)=some (.int (i+j)):=rfl
@[simp] theorem lV (i j:Int):ga (.int i) (.int j)=some (.int (i-j)):=rfl
@[simp] theorem Gu (i j:Int):ltD (.int i) (.int j)=some (.bl (decide (i<j))):=rfl
@[simp] theorem Gv (i j:Int):leD (.int i) (.int j)=some (.bl (decide (i<=j))):=rfl
@[simp] theorem uD (i j:Int):gtD (.int i) (.int j)=some (.bl (decide (j<i))):=rfl
@[simp] theorem LZ (i j:Int):geD (.int i) (.int j)=some (.bl (decide (j<=i))):=rfl
@[simp] theorem zW (i:Int):yE (.int i)=some (.int (-i)):=rfl
@[simp] theorem mS (i:Int):gH (.int i)=some i:=rfl
@[simp] theorem j8 (ds:List D):seqD (.lst ds)=some ds:=rfl
@[simp] theorem L0 (ds:List D):seqD (.tup ds)=some ds:=rfl
@[simp] theorem bE (d:D):b8 [d]=(seqD d).bind λds=>some (.int ds.length):=rfl
@[simp] theorem lW (d:D):oP [d]=seqD d:=rfl
@[simp] theorem gN (d:D):aY [d]=(seqD d).bind λds=>some (.tup ds):=rfl
@[simp] theorem L4 (i j:Int):Ft [.int i,.int j]=some (.int (if j>i then j else i)):=rfl
@[simp] theorem L5 (i j:Int):Fu [.int i,.int j]=some (.int (if j<i then j else i)):=rfl
@[simp] theorem iw (b:Bool):rC (.bl b)=some b:=rfl
theorem vT (h:CMul i j):cq (.int i) (.int j)=some (.int (i*j)):=by unfold cq;simp[h]
theorem zX (h:-18446744073709551616<i) (h2:i<18446744073709551616):cq (.int i) (.int j)=some (.int (i*j)):=vT (.inl ⟨by omega,by omega⟩)
theorem Gw (h:-18446744073709551616<j) (h2:j<18446744073709551616):cq (.int i) (.int j)=some (.int (i*j)):=vT (.inr ⟨by omega,by omega⟩)
theorem gf (h:0<j) (h2:j<1073741824):cV (.int i) (.int j)=some (.int (i/j)):=by unfold cV;simp[wM,h,h2]
theorem bK (h:0<j):bA (.int i) (.int j)=some (.int (i%j)):=by unfold bA;simp[h]
@[simp] theorem CY (i:Int):lfD (.int i)=true:=rfl
@[simp] theorem L6 (b:Bool):lfD (.bl b)=true:=rfl
@[simp] theorem KU (x:Str):lfD (.str x)=true:=rfl
@[simp] theorem KW:lfD .non=true:=rfl
@[simp] theorem KY (ds:List D):lfD (.lst ds)=false:=rfl
@[simp] theorem KZ (ds:List D):lfD (.tup ds)=lfL ds:=rfl
@[simp] theorem K0:lfL []=true:=rfl
@[simp] theorem zY (d:D) (ds:List D):lfL (d::ds)=(lfD d&&lfL ds):=rfl
theorem cA:∀ {ds:List D},(∀d∈ds,lfD d=true)->lfL ds=true
 |[],_=>rfl
 |d::ds,h=>by simp[h d mem_cons_self,cA λe he=>h e (mem_cons_of_mem _ he)]
@[simp] theorem HQ:bZ none=none:=rfl
theorem cC (h:ds.length<big):bZ (some ds)=some ds:=by unfold bZ;simp[h]
@[simp] theorem Gx:bZ (some [])=some []:=cC (by decide)
@[simp] theorem Gy (a:D):bZ (some [a])=some [a]:=cC (show 1<big by decide)
@[simp] theorem gh (a b:D):bZ (some [a,b])=some [a,b]:=cC (show 2<big by decide)
@[simp] theorem L7 (a b c d e:D):bZ (some [a,b,c,d,e])=some [a,b,c,d,e]:=cC (show 5<big by decide)
@[simp] theorem L8 (a b c d e f g h:D):bZ (some [a,b,c,d,e,f,g,h])=some [a,b,c,d,e,f,g,h]:=cC (show 8<big by decide)
@[simp] theorem JW (d c:D):eX [d,c]=(cW d).bind λT=>(clsD c).bind λns=>some (.bl (ns.any (isI T))):=rfl
@[simp] theorem K1:clsD (.ty "int")=some ["int"]:=by rfl
@[simp] theorem JY:clsD (.ty "bool")=some ["bool"]:=by rfl
@[simp] theorem K2:clsD (.ty "str")=some ["str"]:=by rfl
@[simp] theorem JZ:clsD (.ty "list")=some ["list"]:=by rfl
@[simp] theorem HR:clsD (.ty "tuple")=some ["tuple"]:=by rfl
@[simp] theorem Gz:clsD (.tup [.ty "list",.ty "tuple"])=some ["list","tuple"]:=by rfl
@[simp] theorem L9 (i:Int):cW (.int i)=some "int":=rfl
@[simp] theorem MN (i:Bool):cW (.bl i)=some "bool":=rfl
@[simp] theorem Ma (i:Str):cW (.str i)=some "str":=rfl
@[simp] theorem Mb (i:List D):cW (.tup i)=some "tuple":=rfl
@[simp] theorem Mc (i:List D):cW (.lst i)=some "list":=rfl
@[simp] theorem Md:isI "int" "int"=true:=by decide
@[simp] theorem Me:isI "int" "bool"=false:=by decide
@[simp] theorem Mg:isI "bool" "bool"=true:=by decide
@[simp] theorem Mh:isI "bool" "int"=true:=by decide
@[simp] theorem Mi:isI "tuple" "list"=false:=by decide
@[simp] theorem Mj:isI "tuple" "tuple"=true:=by decide
@[simp] theorem GA:isI "list" "list"=true:=by decide
@[simp] theorem Ml:isI "list" "tuple"=false:=by decide
@[simp] theorem Mm:isI "str" "str"=true:=by decide
@[simp] theorem iK (neg:Bool) (i j:Int):aQ neg (.int i) (.int j)=some (.bl (if neg then !decide (i=j)else decide (i=j))):=by
 unfold aQ jq;have:decide (toV (.int i)=toV (.int j))=decide (i=j):=by
  show decide (V.int i=V.int j)=_;by_cases h:i=j<;>simp[h]
 rw[this];rfl
@[simp] theorem zZ (neg:Bool) (i j:Str):aQ neg (.str i) (.str j)=some (.bl (if neg then !decide (i=j)else decide (i=j))):=by
 unfold aQ jq;have:decide (toV (.str i)=toV (.str j))=decide (i=j):=by
  show decide (V.str i=V.str j)=_;by_cases h:i=j<;>simp[h]
 rw[this];rfl
@[simp] theorem eq_bb (neg:Bool) (i j:Bool):aQ neg (.bl i) (.bl j)=some (.bl (if neg then !decide (i=j)else decide (i=j))):=by
 unfold aQ jq;have:decide (toV (.bl i)=toV (.bl j))=decide (i=j):=by
  show decide (V.bl i=V.bl j)=_;by_cases h:i=j<;>simp[h]
 rw[this];rfl
@[simp] theorem MW (ds:List D) (i:Int):ixD (.lst ds) (.int i)=atI ds i:=rfl
@[simp] theorem MX (ds:List D) (i:Int):ixD (.tup ds) (.int i)=atI ds i:=rfl
theorem eh {d:D} (h:0<=i) (h2:ds[i.toNat]?=some d):atI ds i=some d:=by
 have hl:=(List.getElem?_eq_some_iff.mp h2).1;unfold atI ixN;rw[if_pos h,if_pos (by omega)];exact h2
@[simp] theorem lm (d:D) (ds:List D):atI (d::ds) 0=some d:=eh (by omega) rfl
@[simp] theorem r0 (c d:D) (ds:List D):atI (c::d::ds) 1=some d:=eh (by omega) rfl
@[simp] theorem aA:vw []=[]:=rfl
@[simp] theorem az (s:Sl) (Y:Ev):vw (some s::Y)=some s.2::vw Y:=rfl
@[simp] theorem aB (Y:Ev):vw (none::Y)=none::vw Y:=rfl
@[simp] theorem eY:shv []=[]:=rfl
@[simp] theorem gO (d:D) (Y:Ev):shv (some (.sh,d)::Y)=some d::shv Y:=rfl
@[simp] theorem dA (Y:Ev):shv (none::Y)=none::shv Y:=rfl
@[simp] theorem eu (d:D) (Y:Ev):shv (some (.deep,d)::Y)=(if lfD d=true then some d else none)::shv Y:=rfl
@[simp] theorem K3 (d:D) (Y:Ev):shv (some (.top,d)::Y)=(if lfD d=true then some d else none)::shv Y:=rfl
@[simp] theorem bL (σ:List (Option α)):wipe [] σ=σ:=rfl
@[simp] theorem bu (k:Nat) (ks:List Nat) (σ:List (Option α)):wipe (k::ks) σ=wipe ks (σ.set k none):=rfl
@[simp] theorem eB (i:Nat) (d:D) (Y:Vv):gNm i d Y=some (Y.set i (some d)):=rfl
@[simp] theorem J0 (n:Nat) (gs) (ds:List D) (Y:Vv):gTp n gs (.tup ds) Y=if ds.length=n then gs ds Y else none:=rfl
@[simp] theorem z0 (g gs) (d:D) (ds:List D) (Y:Vv):aK g gs (d::ds) Y=(g d Y).bind λY1=>gs ds Y1:=rfl
@[simp] theorem CZ (Y:Vv):b6 [] Y=some Y:=rfl
@[simp] theorem MO (i:Nat) (d:D) (Y:Ev):eNm i d Y=some (Y.set i (some (.sh,d))):=rfl
@[simp] theorem MP (n:Nat) (gs) (ds:List D) (Y:Ev):eTp n gs (.tup ds) Y=if ds.length=n then gs ds Y else none:=rfl
@[simp] theorem K4 (g gs) (d:D) (ds:List D) (Y:Ev):cm g gs (d::ds) Y=(g d Y).bind λY1=>gs ds Y1:=rfl
@[simp] theorem Mn (Y:Ev):j4 [] Y=some Y:=rfl
@[simp] theorem bR (g ft fe) (Y:Vv) (d:D):gI g ft fe Y d=(g d Y).bind λY1=>(ft Y1).bind λc=>if c=true then(fe Y1).bind λy=>some (some y)else some none:=rfl
theorem aC (hl:ds.length=n) (h:F (aL m ds)=some (.rt s)):aX n m F ds=some s:=by
 unfold aX;rw[if_pos hl,h];rfl
theorem eC (hl:ds.length=n) (h:F (aL m ds)=some (.nx Y)):aX n m F ds=some (.deep,.non):=by
 unfold aX;rw[if_pos hl,h];rfl
@[simp] theorem MQ (Y:Ev):nxE Y=some (.nx Y):=rfl
theorem mT {β:Type} {step} {mk out}:∀ (xs:List β),(∀x∈xs,step (mk x)=some (some (out x)))->iH step (xs.map mk)=some (xs.map out)
 |[],_=>rfl
 |x::xs,h=>by
  rw[List.map_cons];unfold iH;rw[h x mem_cons_self,mT xs λe he=>h e (mem_cons_of_mem _ he)];rfl
theorem aN {β:Type} {Y:Vv} {xs:List β} {mk out} (hJ:J Y=some (xs.map mk)) (h:∀x∈xs,gI g ft fe (wipe ks Y) (mk x)=some (some (out x))) (hl:xs.length<big):ak ks J g ft fe Y=some (xs.map out):=by
 unfold ak;rw[hJ];simp only[Option.bind_some];rw[mT xs h];unfold bZ;simp[hl]
theorem iL {β:Type} {step} {mk out} {p:β->Bool}:∀ (xs:List β),(∀x∈xs,step (mk x)=some (if p x then some (out x)else none))->iH step (xs.map mk)=some ((xs.filter p).map out)
 |[],_=>rfl
 |x::xs,h=>by
  rw[List.map_cons];unfold iH;rw[h x mem_cons_self,iL xs λe he=>h e (mem_cons_of_mem _ he)];cases hp:p x<;>simp[hp]
theorem fA {β:Type} {Y:Vv} {xs:List β} {mk out} {p:β->Bool} (hJ:J Y=some (xs.map mk)) (h:∀x∈xs,gI g ft fe (wipe ks Y) (mk x)=some (if p x then some (out x)else none)) (hl:xs.length<big):ak ks J g ft fe Y=some ((xs.filter p).map out):=by
 unfold ak;rw[hJ];simp only[Option.bind_some];rw[iL xs h];unfold bZ;have:((xs.filter p).map out).length<big:=by
  rw[length_map];exact lt_of_le_of_lt (List.length_filter_le _ _) hl
 simp only[Option.bind_some];rw[if_pos this]
theorem mU:∀bs:List Bool,wV (bs.map D.bl)=some bs
 |[]=>rfl
 |b::bs=>by
  rw[List.map_cons];unfold wV;rw[mU bs];rfl
theorem eD {β:Type} (xs:List β) (p:β->Bool):mF [.lst (xs.map λx=>.bl (p x))]=some (.bl (xs.all p)):=by
 have e:xs.map (λx=>D.bl (p x))=(xs.map p).map D.bl:=by rw[List.map_map];rfl
 rw[e];unfold mF un1;simp only[fN,Option.bind_some];rw[mU];simp[List.all_map];rfl
theorem MR:(2:Int)^62=4611686018427387904:=by decide+kernel
theorem z9 (h:-1000000<j) (h2:j<1000000):inR j:=by
 exact⟨by omega,by omega⟩
theorem vU (hj:inR j):lD [.int j]=some (lC 0 j.toNat):=by
 unfold lD un1;simp only[mS,Option.bind_some];rw[if_pos hj]
theorem vV {n:Nat} (h:n<1000000):inR (n:Int):=z9 (by omega) (by omega)
theorem uE:lC 0 n=(List.range n).map λ(i:Nat)=>D.int (i:Int):=by
 apply List.map_congr_left;intro i _;rw[Int.zero_add]
theorem bV {n:Nat} (h:n<1000000):lD [.int (n:Int)]=some ((List.range n).map λ(i:Nat)=>D.int (i:Int)):=by
 rw[vU (vV h),Int.toNat_natCast,uE]
theorem Aa (h0:0<=j) (h:j<1000000):lD [.int j]=some ((List.range j.toNat).map λ(i:Nat)=>D.int (i:Int)):=by
 rw[vU (z9 (by omega) h),uE]
theorem C0 {β:Type} {xs:List β} {mk:β->D} {i:Int} (h:0<=i) (h2:i<xs.length):atI (xs.map mk) i=some (mk (xs[i.toNat]'(by omega))):=eh h (by
 have:i.toNat<xs.length:=by omega
 simp[this])
theorem atI_mapN {β:Type} {xs:List β} {mk:β->D} {i:Nat} {x} (h:xs[i]?=some x):atI (xs.map mk) (i:Int)=some (mk x):=by
 exact eh (by omega) (by simp[h])
theorem gP (h1:seqD a=some xs) (h2:seqD b=some ys):w5 [a,b]=some (gK xs ys):=by
 unfold w5 un2;simp[h1,h2]
theorem iY {β γ:Type} {f} {g} (xs:List β) (ys:List γ):gK (xs.map f) (ys.map g)=(xs.zip ys).map λp=>.tup [f p.1,g p.2]:=by
 unfold gK;rw[List.zip_map,List.map_map];rfl
theorem j9 (h0:iD Y i=some (c0,ds0)) (h:g Y=some ((.deep,d),Y')) (ho:iD Y' i=some (.deep,ds)) (hl:ds.length+1<big):nW i g Y=some (.nx (Y'.set i (some (.deep,.lst (ds++[d]))))):=by
 unfold nW;rw[h0];simp only[Option.bind_some,h,ho];rw[if_pos hl];rfl
theorem ka (h0:iD Y i=some (c0,ds0)) (h:g Y=some ((.deep,d),Y')) (ho:iD Y' i=some (.deep,ds)) (hl:ds.length+1<big):rW i k g R Y=some (.nx (Y'.set i (some (.deep,.lst (ds++[d]))))):=by
 unfold rW orO;rw[j9 h0 h ho hl]
theorem r9 {k:Int} (h:g Y=some ((.deep,d),Y')) (ho:iD Y' i=some (.deep,ds)) (hk:fk (vw Y')=some (.int k)) (h0:0<=k) (hl:k<ds.length):j6 i fk g Y=some (.nx (Y'.set i (some (.deep,.lst (ds.set k.toNat d))))):=by
 unfold j6;rw[h];simp only[Option.bind_some,ho,hk];have:ixN ds.length k=some k.toNat:=by unfold ixN;rw[if_pos h0,if_pos hl]
 rw[this];rfl
def se:Ev->Option Out:=(af (cb (evX (lB (biF eX (aa (va 0) (aa (cT "int") ae))) (lB (BQ (biF eX (aa (va 0) (aa (cT "bool") ae)))) (cG leD leD (va 1) (va 0) (va 2)))) noV noV)) nxE)
def lq (aO:List D->Option Sl):Ev->Option Out:=(af (ifS (orQ (bP (trF (biF eX (aa (va 0) (aa (cT "tuple") ae))))) (aD (ac (aQ true) (biF b8 (aa (va 0) ae)) (cI 2)))) (af (cb (evX (cB false) noV noV)) nxE) nxE) (af (cb (evX (lB (ac inD (ac ixD (va 0) (cI 0)) (cD (.tup [(.str "queue"),(.str "pile")]))) (clF aO (aa (ac ixD (va 0) (cI 1)) (aa (cI 0) (aa (cD (.int 9)) ae))))) noV noV)) nxE))
def pf (dB:List D->Option Sl):Ev->Option Out:=(af (ifS (orQ (bP (trF (biF eX (aa (va 0) (aa (tpF (aa (cT "list") (aa (cT "tuple") ae))) ae))))) (bP (aD (cG leD leD (cI 1) (biF b8 (aa (va 0) ae)) (cD (.int 6)))))) (af (cb (evX (cB false) noV noV)) nxE) nxE) (af (cb (evX (biF mF (aa (lsF (ak [1] (jX noV (va 0)) (gNm 1) tQ (clF dB (aa (va 1) ae)))) ae)) noV (fNo (aa (lsF (ak [1] (jX noV (va 0)) (gNm 1) tQ (clF dB (aa (va 1) ae)))) ae)))) nxE))
def uF:Ev->Option Out:=(af (aP 1 (evX (cI 1) noV noV)) (af (frF (jX noV (va 0)) (eNm 2) (af (aP 1 (evX (ac cq (va 1) (biF b8 (aa (va 2) ae))) noV noV)) nxE)) (af (rtN 1) nxE)))
def qt (bG:List D->Option Sl) (iA:List D->Option Sl):Ev->Option Out:=(af (ifS (orQ (bP (trF (biF eX (aa (va 0) (aa (tpF (aa (cT "list") (aa (cT "tuple") ae))) ae))))) (aD (ac gtD (biF b8 (aa (va 0) ae)) (cD (.int 6))))) (af (cb (evX (cB false) noV noV)) nxE) nxE) (af (cb (evX (lB (biF mF (aa (lsF (ak [1] (jX noV (va 0)) (gNm 1) tQ (clF iA (aa (va 1) ae)))) ae)) (ac leD (clF bG (aa (va 0) ae)) (cD (.int 1000)))) noV noV)) nxE))
def mV (bS:List D->Option Sl) (y:Addr):InF:=(stI (ifS (bP (trF (clF bS (aa (va 1) ae)))) (af noO' nxE) nxE) (Cq y 0 "passes" (evX (biF aY (aa (lsF (ak [2] (jX noV (va 1)) (gNm 2) tQ (biF aY (aa (va 2) ae)))) ae)) noV (fNo (aa (lsF (ak [2] (jX noV (va 1)) (gNm 2) tQ (biF aY (aa (va 2) ae)))) ae))) Cp))
def lu (fl:Str->Str->Bool):Ev->Option Out:=(af (cb (evX (biF b8 (aa (flF fl "passes" (va 0)) ae)) noV (fNo (aa (flF fl "passes" (va 0)) ae)))) nxE)
def xz (mt_many:MT) (kk:Nat) (aO:List D->Option Sl):Ev->Option Out:=(af (cb (evX (clF aO (aa (va 1) (aa (cI 0) (aa (meF (va 0) ae mt_many kk "many") ae)))) noV (fCl aO (aa (va 1) (aa (cI 0) (aa (meF (va 0) ae mt_many kk "many") ae)))))) nxE)
def xA (aO:List D->Option Sl) (fl:Str->Str->Bool):Ev->Option Out:=(af (aP 3 (evX (slF (flF fl "passes" (va 0)) (bO (va 1)) noP) (yK (flF fl "passes" (va 0)) (bO (va 1)) noP) noV)) (af (ifS (orQ (bP (trF (biF eX (aa (va 2) (aa (cT "tuple") ae))))) (aD (ac (aQ true) (biF b8 (aa (va 2) ae)) (biF b8 (aa (va 3) ae))))) (af (cb (evX (cB false) noV noV)) nxE) nxE) (af (cb (evX (biF mF (aa (lsF (ak [4,5] (jX (zpF (aa (va 2) (aa (va 3) ae))) (biF noD (aa (va 2) (aa (va 3) ae)))) (gTp 2 (aK (gNm 4) (aK (gNm 5) b6))) tQ (clF aO (aa (va 4) (aa (cI 0) (aa (ac ga (biF b8 (aa (va 5) ae)) (cI 1)) ae)))))) ae)) noV (fNo (aa (lsF (ak [4,5] (jX (zpF (aa (va 2) (aa (va 3) ae))) (biF noD (aa (va 2) (aa (va 3) ae)))) (gTp 2 (aK (gNm 4) (aK (gNm 5) b6))) tQ (clF aO (aa (va 4) (aa (cI 0) (aa (ac ga (biF b8 (aa (va 5) ae)) (cI 1)) ae)))))) ae)))) nxE)))
def mW (dU:List D->Option Sl):Ev->Option Out:=(af (ifS (bP (trF (clF dU (aa (va 0) (aa (va 1) ae))))) (af noO' nxE) nxE) nxE)
def mX (dW:List D->Option Sl) (bM:List D->Option Sl):Ev->Option Out:=(af (cX (clF bM (aa (va 0) (aa (va 1) ae)))) (af (ifS (bP (trF (clF dW (aa (va 0) (aa (va 1) (aa (va 2) ae)))))) (af noO' nxE) nxE) nxE))
def qu (fl:Str->Str->Bool):Ev->Option Out:=(af (cb (evX (lsF (ak [3,4] (jX (zpF (aa (va 2) (aa (slF (flF fl "passes" (va 0)) (bO (va 1)) noP) ae))) (biF noD (aa (va 2) (aa (slF (flF fl "passes" (va 0)) (bO (va 1)) noP) ae)))) (gTp 2 (aK (gNm 3) (aK (gNm 4) b6))) tQ (ac ixD (va 4) (va 3)))) (ak [3,4] (jX (zpF (aa (va 2) (aa (slF (flF fl "passes" (va 0)) (bO (va 1)) noP) ae))) (biF noD (aa (va 2) (aa (slF (flF fl "passes" (va 0)) (bO (va 1)) noP) ae)))) (gTp 2 (aK (gNm 3) (aK (gNm 4) b6))) tQ (ac ixD (va 4) (va 3))) (fCo [3,4] (jX (zpF (aa (va 2) (aa (slF (flF fl "passes" (va 0)) (bO (va 1)) noP) ae))) (biF noD (aa (va 2) (aa (slF (flF fl "passes" (va 0)) (bO (va 1)) noP) ae)))) (gTp 2 (aK (gNm 3) (aK (gNm 4) b6))) tQ (frX (ac ixD (va 4) (va 3)) noV noV)))) nxE)
def GB:Ev->Option Out:=(af (cb (evX (ifF (aD (ac (aQ false) (va 0) (cS "queue"))) (va 2) (ac ga (ac ga (va 1) (cI 1)) (va 2))) noV noV)) nxE)
def lv (fl:Str->Str->Bool) (jg:List D->Option Sl) (bG:List D->Option Sl) (bc:List D->Option Sl):Ev->Option Out:=(af (cX (clF bc (aa (va 0) (aa (va 1) (aa (va 2) ae))))) (af (aP 3 (evX (clF bG (aa (slF (flF fl "passes" (va 0)) noP (bO (va 1))) ae)) noV (fCl bG (aa (slF (flF fl "passes" (va 0)) noP (bO (va 1))) ae)))) (af (aP 4 (evX (ac ga (va 3) (cI 1)) noV noV)) (af (frF (jX (zpF (aa (va 2) (aa (slF (flF fl "passes" (va 0)) (bO (va 1)) noP) ae))) (biF noD (aa (va 2) (aa (slF (flF fl "passes" (va 0)) (bO (va 1)) noP) ae)))) (eTp 2 (cm (eNm 5) (cm (eNm 6) j4))) (af (aP 4 (evX (ac b9 (ac cq (va 5) (va 3)) (clF jg (aa (ac ixD (ac ixD (va 6) (va 5)) (cI 0)) (aa (va 3) (aa (va 4) ae))))) (iX (orO (ac cq (va 5) (va 3)) (lsF noV)) (clF jg (aa (ac ixD (ac ixD (va 6) (va 5)) (cI 0)) (aa (va 3) (aa (va 4) ae))))) noV)) (af (aP 3 (evX (ac cq (va 3) (biF b8 (aa (va 6) ae))) noV noV)) nxE))) (af (rtN 4) nxE)))))
def Ab (bo:List D->Option Sl) (bc:List D->Option Sl):Ev->Option Out:=(af (cX (clF bc (aa (va 0) (aa (va 1) (aa (va 2) ae))))) (af (aP 3 (evX (lsF (ak [4,5] (jX noV (clF bo (aa (va 0) (aa (va 1) (aa (va 2) ae))))) (gTp 2 (aK (gNm 4) (aK (gNm 5) b6))) (aD (ac (aQ false) (va 4) (cS "pile"))) (va 4))) (ak [4,5] (jX noV (clF bo (aa (va 0) (aa (va 1) (aa (va 2) ae))))) (gTp 2 (aK (gNm 4) (aK (gNm 5) b6))) (aD (ac (aQ false) (va 4) (cS "pile"))) (va 4)) (fCo [4,5] (jX noV (clF bo (aa (va 0) (aa (va 1) (aa (va 2) ae))))) (gTp 2 (aK (gNm 4) (aK (gNm 5) b6))) (aD (ac (aQ false) (va 4) (cS "pile"))) (frX (va 4) noV noV)))) (af (cb (evX (ifF (aD (ac (aQ false) (ac bA (biF b8 (aa (va 3) ae)) (cI 2)) (cI 0))) (cI 1) (ngF (cI 1))) noV noV)) nxE)))
def gQ:Ev->Option Out:=(af (ifS (aD (ac ltD (va 1) (biF b8 (aa (va 0) ae)))) (af (cb (evX (ac ixD (va 0) (va 1)) noV noV)) nxE) nxE) (af (cb (evX (cI 0) noV noV)) nxE))
def lx:Ev->Option Out:=(af (frF (jX (r1F (aa (va 1) ae)) (biF noD (aa (va 1) ae))) (eNm 2) (af (aP 0 (evX (ac cV (va 0) (cI 1000000)) noV noV)) nxE)) (af (cb (evX (ac bA (va 0) (cI 1000000)) noV noV)) nxE))
def xB (aO:List D->Option Sl):Ev->Option Out:=(af (cb (evX (clF aO (aa (va 0) (aa (cI 1) (aa (cD (.int 9)) ae)))) noV (fCl aO (aa (va 0) (aa (cI 1) (aa (cD (.int 9)) ae)))))) nxE)
def GC (bo:List D->Option Sl) (dS:List D->Option Sl) (bc:List D->Option Sl):Ev->Option Out:=(af (cX (clF bc (aa (va 0) (aa (va 1) (aa (va 2) ae))))) (af (ifS (bP (trF (clF dS (aa (va 3) ae)))) (af noO' nxE) nxE) (af (cb (evX (biF mF (aa (lsF (ak [4,5] (jX noV (clF bo (aa (va 0) (aa (va 1) (aa (va 2) ae))))) (gTp 2 (aK (gNm 4) (aK (gNm 5) b6))) tQ (ac leD (va 3) (va 5)))) ae)) noV (fNo (aa (lsF (ak [4,5] (jX noV (clF bo (aa (va 0) (aa (va 1) (aa (va 2) ae))))) (gTp 2 (aK (gNm 4) (aK (gNm 5) b6))) tQ (ac leD (va 3) (va 5)))) ae)))) nxE)))
abbrev Pk:=Bool×Int
def kd (q:Bool):Str:=if q then"queue"else"pile"
def pkD (p:Pk):D:=.tup [.str (kd p.1),.int p.2]
def okK (p:Pk):Bool:=decide (0<=p.2)&&decide (p.2<=9)
def sq (w:Bool) (ds:List D):D:=if w then .lst ds else .tup ds
@[simp] theorem dQ (w:Bool) (ds:List D):seqD (sq w ds)=some ds:=by cases w<;>rfl
@[simp] theorem Mo (w:Bool) (ds:List D):eX [sq w ds,.tup [.ty "list",.ty "tuple"]]=some (.bl true):=by cases w<;>simp[sq]
theorem J2 (p:Pk):lfD (pkD p)=true:=rfl
theorem GD (ps:List Pk):lfL (ps.map pkD)=true:=cA λd hd=>by
 obtain⟨p,_,rfl⟩:=List.mem_map.mp hd;exact J2 p
def tpD (ps:List Pk):D:=.tup (ps.map pkD)
theorem D6 (ps:List Pk):lfD (tpD ps)=true:=GD ps
theorem mY (pss:List (List Pk)):lfL (pss.map tpD)=true:=cA λd hd=>by
 obtain⟨p,_,rfl⟩:=List.mem_map.mp hd;exact D6 p
def eZ (f:List D->Option Sl):Prop:=∀v a b:Int,f [.int v,.int a,.int b]=some (.deep,.bl (decide (a<=v)&&decide (v<=b)))
theorem Ac:eZ (aX 3 3 se):=λv a b=>by
 refine aC rfl ?_;refine aJ (bg (evX_lf ?_ rfl));simp[aL];by_cases h:a<=v<;>simp[h]
def vW (f:List D->Option Sl):Prop:=∀v:Int,f [.int v]=some (.deep,.bl (decide (1<=v)&&decide (v<=9)))
theorem GE (hw:eZ w):vW (aX 1 1 (xB w)):=λv=>by
 refine aC rfl ?_;refine aJ (bg (evX_lf ?_ rfl));simp[aL,hw v 1 9]
theorem J3 (q:Bool):inD (.str (kd q)) (.tup [.str "queue",.str "pile"])=some (.bl true):=by
 cases q<;>kernel_rfl
def qx (f:List D->Option Sl):Prop:=∀p:Pk,f [pkD p]=some (.deep,.bl (okK p))
theorem Ad (hw:eZ w):qx (aX 1 1 (lq w)):=λp=>by
 refine aC rfl ?_;unfold lq pkD;refine(ao (Y':=aL 1 [.tup [.str (kd p.1),.int p.2]]) ?_).trans ?_
 ·refine(c3 ?_).trans rfl;simp[aL]
 ·refine aJ (bg (evX_lf ?_ rfl));simp[aL,hw p.2 0 9,J3,okK]
def okP (ps:List Pk):Bool:=decide (1<=ps.length)&&decide (ps.length<=6)&&ps.all okK
def Ae (f:List D->Option Sl):Prop:=∀ (w:Bool) (ps:List Pk),ps.length<1000->f [sq w (ps.map pkD)]=some (.deep,.bl (okP ps))
theorem GF (hg:qx g):Ae (aX 1 2 (pf g)):=λw ps hlen=>by
 refine aC rfl ?_;unfold pf okP;have hc:cG leD leD (cI 1) (biF b8 (aa (va 0) ae)) (cD (.int 6)) [some (sq w (ps.map pkD)),none]=some (.bl (decide (1<=ps.length)&&decide (ps.length<=6))):=by
  by_cases h:1<=ps.length
  ·have h':(1:Int)<=(ps.length:Int):=by omega
   simp[h,h'];omega
  ·have h':¬ (1:Int)<=(ps.length:Int):=by omega
   simp[h,h']
 have hi:biF eX (aa (va 0) (aa (tpF (aa (cT "list") (aa (cT "tuple") ae))) ae)) [some (sq w (ps.map pkD)),none]=some (.bl true):=by
  cases w<;>simp[sq]
 have hT:orQ (bP (trF (biF eX (aa (va 0) (aa (tpF (aa (cT "list") (aa (cT "tuple") ae))) ae))))) (bP (aD (cG leD leD (cI 1) (biF b8 (aa (va 0) ae)) (cD (.int 6))))) [some (sq w (ps.map pkD)),none]=some (!(decide (1<=ps.length)&&decide (ps.length<=6))):=by
  rw[mR,notQ_a,fR,hi,notQ_a,bb,hc];rfl
 cases hb:(decide (1<=ps.length)&&decide (ps.length<=6))with
 |false=>
  rw[hb]at hT;exact aJ ((jz hT).trans (aJ (bg (evX_lf rfl rfl))))
 |true=>
  rw[hb]at hT;refine(ao ((c3 hT).trans rfl)).trans ?_;refine aJ (bg (evX_lf ?_ rfl));have hm:ak [1] (jX noV (va 0)) (gNm 1) tQ (clF g (aa (va 1) ae)) [some (sq w (ps.map pkD)),none]=some (ps.map λp=>.bl (okK p)):=by
   refine aN (mk:=pkD) (by simp) (λp _=>?_) (Nat.lt_trans hlen (by decide));simp[hg p]
  simp[aL,hm,eD]
abbrev Ps:=List (Bool×List Pk)
def paD (p:Bool×List Pk):D:=sq p.1 (p.2.map pkD)
def prod:List (List Pk)->Nat
 |[]=>1
 |p::r=>p.length*prod r
theorem gR:∀a b:List (List Pk),prod (a++b)=prod a*prod b
 |[],b=>by simp[prod]
 |p::a,b=>by simp only[List.cons_append,prod,gR a b,Nat.mul_assoc]
theorem ph (a:List (List Pk)) (p:List Pk):prod (a++[p])=prod a*p.length:=by rw[gR];simp[prod]
theorem lt_big (h:-1000000<j) (h2:j<1000000):-18446744073709551616<j/\j<18446744073709551616:=⟨Int.lt_trans (by decide) h,Int.lt_trans h2 (by decide)⟩
theorem lX (h:-1000000<j) (h2:j<1000000):cq (.int i) (.int j)=some (.int (i*j)):=Gw (lt_big h h2).1 (lt_big h h2).2
theorem sf {n:Nat} (h:n<1000):cq (.int i) (.int (n:Int))=some (.int (i*n)):=lX (by omega) (by omega)
def ke (f:List D->Option Sl):Prop:=∀ (w:Bool) (pss:Ps),(∀p∈pss,p.2.length<1000)->f [sq w (pss.map paD)]=some (.deep,.int (prod (pss.map (·.2)):Nat))
theorem uG (A:D) (n:Nat) (p:Bool×List Pk) (hL:p.2.length<1000):
 evX (ac cq (va 1) (biF b8 (aa (va 2) ae))) noV noV [some (.sh,A),some (.deep,.int n),some (.sh,paD p)]=some ((.deep,.int (n*p.2.length:Nat)),[some (.sh,A),some (.deep,.int n),some (.sh,paD p)]):=by
 refine evX_lf ?_ rfl
 have e1:(seqD (paD p))=some _:=dQ _ _
 simp[e1]
 rw[sf hL]
theorem xC (pss:Ps) (i:Nat) (p) (hp:pss[i]?=some p):prod ((pss.take (i+1)).map (·.2))=prod ((pss.take i).map (·.2))*p.2.length:=by
 rw[List.take_succ,hp];simp[ph]
theorem C1:ke (aX 1 3 uF):=λw pss hl=>by
  refine aC rfl ?_;refine(ao (bm (evX_lf rfl rfl))).trans ?_;have L:=dm (J:=jX noV (va 0)) (tg:=eNm 2) (F:=af (aP 1 (evX (ac cq (va 1) (biF b8 _)) noV noV)) nxE) (ds:=pss.map paD)
   
    (λi Y=>∃o,Y=[some (.sh,sq w (pss.map paD)),some (.deep,.int (prod ((pss.take i).map (·.2)):Nat)),o]) (by simp[aL]) ⟨none,rfl⟩ (by
      rintro i d Y hd ⟨o,rfl⟩;rw[getElem?_map]at hd;cases hp:pss[i]? with
      |none=>rw[hp]at hd;cases hd
      |some p=>
        rw[hp]at hd;cases hd;have hL:=hl p (mem_of_getElem? hp);rw[xC pss i p hp];exact⟨_,ao (bm (uG (sq w _) _ p hL)),⟨some _,rfl⟩⟩)
  obtain⟨Y',e,o,rfl⟩:=L;refine(ao e).trans (aJ ?_);simp[rtN,jt]
structure Valid (pss:List (List Pk)):Prop where
 len:pss.length<=6
 each:∀p∈pss,okP p=true
 codes:prod pss<=1000
theorem Valid.p (h:Valid pss) {p:List Pk} (hp:p∈pss):1<=p.length/\p.length<=6/\∀k∈p,0<=k.2/\k.2<=9:=by
 have:=h.each p hp;unfold okP at this;rw[and_eq_true,and_eq_true,List.all_eq_true]at this;refine⟨of_decide_eq_true this.1.1,of_decide_eq_true this.1.2,λk hk=>?_⟩;have hk:=this.2 k hk;unfold okK at hk;rw[and_eq_true]at hk;exact⟨of_decide_eq_true hk.1,of_decide_eq_true hk.2⟩
def GG (f:List D->Option Sl):Prop:=∀ (w:Bool) (pss:Ps),Valid (pss.map (·.2))->f [sq w (pss.map paD)]=some (.deep,.bl true)
theorem J5 (hg:Ae g) (hc:ke c):GG (aX 1 2 (qt c g)):=λw pss hv=>by
 refine aC rfl ?_;have hl6:pss.length<=6:=by have:=hv.len;simpa using this
 have hp:∀p∈pss,p.2.length<1000:=λp hp=>by
  have:=(hv.p (List.mem_map_of_mem hp)).2.1;omega
 have hT:orQ (bP (trF (biF eX (aa (va 0) (aa (tpF (aa (cT "list") (aa (cT "tuple") ae))) ae))))) (aD (ac gtD (biF b8 (aa (va 0) ae)) (cD (.int 6)))) [some (sq w (pss.map paD)),none]=some false:=by
  have h:¬ (6:Int)<(pss.length:Int):=by omega
  cases w<;>simp[sq,h]
 refine(ao ((c3 hT).trans rfl)).trans ?_;refine aJ (bg (evX_lf ?_ rfl));have hm:ak [1] (jX noV (va 0)) (gNm 1) tQ (clF g (aa (va 1) ae)) [some (sq w (pss.map paD)),none]=some (pss.map λp=>.bl (okP p.2)):=by
  refine aN (mk:=paD) (by simp) (λp hpm=>?_) (lt_of_le_of_lt hl6 (by decide));have:=hg p.1 p.2 (hp p hpm);simp[paD,this]
 have ha:pss.all (λp=>okP p.2)=true:=by
  rw[List.all_eq_true];intro p hpm;exact hv.each _ (List.mem_map_of_mem hpm)
 have h1000:((prod (pss.map (·.2)):Nat):Int)<=1000:=by have:=hv.codes;omega
 simp[aL,hm,eD,ha,hc w pss hp];exact h1000
def ai (ps:List (List Pk)):D:=.tup (ps.map tpD)
def ah (ps:List (List Pk)):D:=.obj "Mill" ["passes"] [ai ps]
def gM (fa:List D->Option Sl):List D->Option (List (Str×D))
 |[d]=>(cu (fa [d])).bind λb=>(rC b).bind λt=>if t=true then(ak [2] (jX noV (va 1)) (gNm 2) tQ (biF aY (aa (va 2) ae)) [none,some d,none]).bind λl=>some [(("passes":Str),.tup l)]else none
 |_=>none
theorem C2 {R Sp} (h:R (vw Y)=some d) (hs:Sp (vw Y)=none) (h2:R (shv Y)=some d):∃c,evX R noV Sp Y=some ((c,d),Y):=by
 cases f:lfD d with
 |true=>exact⟨_,evX_lf h f⟩
 |false=>exact⟨_,evX_sh h f rfl hs rfl h2⟩
theorem uH (ds:List D) (r:List (Str×D)) (h:gM fa ds=some r) (y:Addr):yX 2 3 (mV fa) y ds=some r:=by
 cases ds with
 |nil=>cases h
 |cons d t=>
  cases t with
  |cons _ _=>cases h
  |nil=>
   obtain⟨b,h1,h⟩:=bind_some (h);obtain⟨t,h2,h⟩:=bind_some h;cases t with
   |false=>cases h
   |true=>
    obtain⟨l,h3,h4⟩:=bind_some (h);cases h4;have h3':ak [2] (jX noV (va 1)) (gNm 2) tQ (biF aY (aa (va 2) ae)) [some (.adr y),some d,none]=some l:=by
     rw[<-h3];cases seqD d with
     |none=>rfl
     |some ps=>
      rfl
    show mV fa y (ua 3 y [d]) []=_;unfold mV;have hst:ua 3 y [d]=[some _,some _,none]:=rfl;rw[hst];have e1:(ifS (bP (trF (clF fa (aa (va 1) ae)))) (af noO' nxE) nxE) [some (.sh,.adr y),some (.sh,d),none]=some (.nx [some (.sh,.adr y),some (.sh,d),none]):=by
     refine(c3 ?_).trans rfl;simp[h1,h2]
    unfold stI;rw[e1];simp only[Option.bind_some];obtain⟨c,e2⟩:=C2 (R:=biF aY (aa (lsF (ak [2] (jX noV (va 1)) (gNm 2) tQ (biF aY (aa (va 2) ae)))) ae)) (Sp:=fNo (aa (lsF (ak [2] (jX noV (va 1)) (gNm 2) tQ (biF aY (aa (va 2) ae)))) ae)) (Y:=[some (.sh,.adr y),some (.sh,d),none]) (d:=.tup l)
     (by simp[h3']) (by simp) (by simp[h3'])
    unfold Cq;rw[e2];simp[jt,Cp,t9]
def sg (g:List D->Option (List (Str×D))):Prop:=∀ (w:Bool) (pss:Ps),Valid (pss.map (·.2))->g [sq w (pss.map paD)]=some [(("passes":Str),ai (pss.map (·.2)))]
theorem GH (ha:GG fa):sg (gM fa):=λw pss hv=>by
 have hl6:pss.length<=6:=by have:=hv.len;simpa using this
 have hm:ak [2] (jX noV (va 1)) (gNm 2) tQ (biF aY (aa (va 2) ae)) [none,some (sq w (pss.map paD)),none]=some (pss.map λp=>tpD p.2):=by
  refine aN (mk:=paD) (by simp) (λp _=>?_) (lt_of_le_of_lt hl6 (by decide));simp[paD,tpD]
 show((cu (fa [sq w (pss.map paD)])).bind _)=_;rw[ha w pss hv];simp[hm,ai]
theorem Af {β:Type} (xs:List β) (f:β->D) (t:Nat):nV (xs.map f) (some (t:Int)) none=(xs.drop t).map f:=by
 unfold nV;rw[HT.sIx_nat,HT.sIx_none,length_map,<-List.map_drop];by_cases h:t<=xs.length
 ·rw[Nat.min_eq_left h];rw[List.take_of_length_le (by rw[length_map,List.length_drop];omega)]
 ·have h':xs.length<=t:=by omega
  rw[Nat.min_eq_right h',List.drop_eq_nil_of_le (le_refl _),List.drop_eq_nil_of_le h'];simp
theorem Ag {β:Type} (xs:List β) (f:β->D) (t:Nat):nV (xs.map f) none (some (t:Int))=(xs.take t).map f:=by
 unfold nV;rw[HT.sIx_nat,HT.sIx_none,length_map,List.drop_zero,Nat.sub_zero,<-List.map_take];by_cases h:t<=xs.length
 ·rw[Nat.min_eq_left h]
 ·rw[Nat.min_eq_right (by omega),List.take_of_length_le (le_refl _),List.take_of_length_le (by omega)]
theorem mZ (hf:fl "Mill" "passes"=true) (ps:List (List Pk)):iE fl "passes" (ah ps)=some (ai ps):=by
 show(if fl "Mill" "passes"=true then List.lookup ("passes":Str) ([("passes":Str)].zip [ai ps])else none)=_;rw[if_pos hf];rfl
theorem lY (hf:fl "Mill" "passes"=true) {t:Nat} (h0:dD Y 0=some (ah ps)) (h1:dD Y 1=some (.int (t:Int))):
  slF (flF fl "passes" (va 0)) (bO (va 1)) noP Y=some (.tup ((ps.drop t).map tpD)):=by
 unfold slF orO yJ
 simp[h0,h1,mZ hf,ai,Af]
theorem Ah (hf:fl "Mill" "passes"=true) {t:Nat} (h0:dD Y 0=some (ah ps)) (h1:dD Y 1=some (.int (t:Int))):
  slF (flF fl "passes" (va 0)) noP (bO (va 1)) Y=some (.tup ((ps.take t).map tpD)):=by
 unfold slF orO yJ
 simp[h0,h1,mZ hf,ai,Ag]
def D7 (mt:MT) (kk:Nat):Prop:=∀ps:List (List Pk),oU mt kk "many" (ah ps) []=some (.deep,.int (ps.length:Nat))
theorem GI (hf:fl "Mill" "passes"=true) (ps:List (List Pk)):aX 1 1 (lu fl) [ah ps]=some (.deep,.int (ps.length:Nat)):=by
 refine aC rfl ?_;refine aJ (bg (evX_lf ?_ rfl));simp[aL,mZ hf,ai]
def vX (f:List D->Option Sl):Prop:=∀ (ps:List (List Pk)) (t:Nat),t<=ps.length->f [ah ps,.int (t:Int)]=some (.deep,.bl true)
theorem GJ {mt kk w} (hm:D7 mt kk) (hw:eZ w):vX (aX 2 2 (xz mt kk w)):=λps t ht=>by
 refine aC rfl ?_;refine aJ (bg (evX_lf ?_ rfl));have h1:(t:Int)<=(ps.length:Int):=by omega
 simp[aL,hm ps,hw (t:Int) 0 (ps.length:Int),h1]
def wD (w:List Nat):D:=.tup (w.map λ(i:Nat)=>.int (i:Int))
theorem J6 (w:List Nat):lfD (wD w)=true:=cA λd hd=>by
 obtain⟨p,_,rfl⟩:=List.mem_map.mp hd;rfl
structure WordOk (ps:List (List Pk)) (t:Nat) (w:List Nat):Prop where
 len:w.length=(ps.drop t).length
 each:∀q∈w.zip (ps.drop t),q.1<q.2.length
def vY (f:List D->Option Sl):Prop:=∀ (ps:List (List Pk)) (t:Nat) (w:List Nat),Valid ps->WordOk ps t w->f [ah ps,.int (t:Int),wD w]=some (.deep,.bl true)
theorem iz (hv:Valid ps) (t:Nat) (w:List Nat):(w.zip (ps.drop t)).length<big:=by
 rw[List.length_zip,List.length_drop];have:=hv.len;exact lt_of_le_of_lt (show min w.length (ps.length-t)<=6 by omega) (by decide)
theorem Ai (w:List Nat) (rs:List (List Pk)):gK (w.map λ(i:Nat)=>.int (i:Int)) (rs.map tpD)=(w.zip rs).map λq=>.tup [.int (q.1:Int),tpD q.2]:=iY w rs
theorem GK (hw:eZ wi) (hf:fl "Mill" "passes"=true):vY (aX 3 6 (xA wi fl)):=λps t w hv hk=>by
 refine aC rfl ?_;refine(ao (bm (evX_lf (lY hf rfl rfl) (mY _)))).trans ?_;have hs:((aL 6 [ah ps,.int (t:Int),wD w]).set 3 (some (Cat.deep,.tup ((ps.drop t).map tpD))))=[some _,some (.sh,.int (t:Int)),some _,some (.deep,.tup _),none,none]:=rfl;rw[hs];have hl:(w.length:Int)=((ps.length-t:Nat):Int):=by have:=hk.len;rw[List.length_drop]at this;omega
 refine(ao ((c3 ?_).trans rfl)).trans ?_
 ·simp[wD,hl]
 ·refine aJ (bg (evX_lf ?_ rfl));have hm:ak [4,5] (jX (zpF (aa (va 2) (aa (va 3) ae))) (biF noD (aa (va 2) (aa (va 3) ae)))) (gTp 2 (aK (gNm 4) (aK (gNm 5) b6))) tQ (clF wi (aa (va 4) (aa (cI 0) (aa (ac ga (biF b8 (aa (va 5) ae)) (cI 1)) ae))))
    [some (ah ps),some (.int (t:Int)),some (wD w),some (.tup ((ps.drop t).map tpD)),none,none]=some ((w.zip (ps.drop t)).map λq=>.bl true):=by
   refine aN (mk:=λq:Nat×List Pk=>.tup [.int (q.1:Int),tpD q.2]) (rZ ?_) (λq hq=>?_) (iz hv t w)
   ·simp only[ag,aG,av,aj,am,Option.bind_some];rw[gP rfl rfl,Ai]
   ·have h1:(q.1:Int)<=(q.2.length:Int)-1:=by have:=hk.each q hq;omega
    simp[tpD,hw (q.1:Int) 0 ((q.2.length:Int)-1),h1]
  simp only[az,aB,aA,br,ag,bz,hm,am,map_some,Option.bind_some];rw[eD (w.zip _) λ_=>true];simp
def qy (f:List D->Option Sl):Prop:=∀ (ps:List (List Pk)) (t:Nat),t<=ps.length->f [ah ps,.int (t:Int)]=some (.deep,.non)
theorem C3 (hg:vX g):qy (aX 2 2 (mW g)):=λps t ht=>by
 refine eC rfl (Y:=aL 2 [ah ps,.int (t:Int)]) ?_;refine(ao ((c3 ?_).trans rfl)).trans rfl;simp[aL,hg ps t ht]
def m5 (f:List D->Option Sl):Prop:=∀ (ps:List (List Pk)) (t:Nat) (w:List Nat),Valid ps->t<=ps.length->WordOk ps t w->f [ah ps,.int (t:Int),wD w]=some (.deep,.non)
theorem eE (h:f (vw Y)=some d):cX f Y=some (.nx Y):=by unfold cX;rw[h];rfl
theorem C4 (hg:vY g) (hl:qy l):m5 (aX 3 3 (mX g l)):=λps t w hv ht hk=>by
 refine eC rfl (Y:=aL 3 [ah ps,.int (t:Int),wD w]) ?_;refine(ao (eE (d:=.non) ?_)).trans ?_
 ·simp[aL,hl ps t ht]
 refine(ao ((c3 ?_).trans rfl)).trans rfl;simp[aL,hg ps t w hv hk]
def pkAt (q:Nat×List Pk):Pk:=q.2[q.1]?.getD (true,0)
def qz (f:List D->Option Sl):Prop:=∀ (ps:List (List Pk)) (t:Nat) (w:List Nat),Valid ps->WordOk ps t w->f [ah ps,.int (t:Int),wD w]=some (.deep,.lst ((w.zip (ps.drop t)).map λq=>pkD (pkAt q)))
theorem Aj (h:q.1<q.2.length):atI (q.2.map pkD) (q.1:Int)=some (pkD (pkAt q)):=by
 refine atI_mapN ?_;unfold pkAt;rw[getElem?_eq_getElem h];rfl
theorem C5 (hf:fl "Mill" "passes"=true):qz (aX 3 5 (qu fl)):=λps t w hv hk=>by
 refine aC rfl ?_;have hm:ak [3,4] (jX (zpF (aa (va 2) (aa (slF (flF fl "passes" (va 0)) (bO (va 1)) noP) ae))) (biF noD (aa (va 2) (aa (slF (flF fl "passes" (va 0)) (bO (va 1)) noP) ae)))) (gTp 2 (aK (gNm 3) (aK (gNm 4) b6))) tQ (ac ixD (va 4) (va 3))
   [some (ah ps),some (.int (t:Int)),some (wD w),none,none]=some ((w.zip (ps.drop t)).map λq=>pkD (pkAt q)):=by
  refine aN (mk:=λq:Nat×List Pk=>.tup [.int (q.1:Int),tpD q.2]) (rZ ?_) (λq hq=>?_) (iz hv t w)
  ·simp only[ag,aG,av,aj,am,Option.bind_some,lY hf (Y:=[some _,some (.int (t:Int)),some (wD w),none,none]) rfl rfl];rw[gP rfl rfl,Ai]
  ·simp[tpD,Aj (hk.each q hq)]
 refine aJ (bg (evX_lfs (d:=.lst ((w.zip (ps.drop t)).map λq=>pkD (pkAt q))) ?_ rfl ?_ ?_))
 ·show(lsF _ [some (ah ps),some (.int (t:Int)),some (wD w),none,none])=_;rw[bz,hm];rfl
 ·exact hm
 ·refine cA λd hd=>?_;obtain⟨q,_,rfl⟩:=List.mem_map.mp hd;rfl
def Ak (f:List D->Option Sl):Prop:=∀ (ps:List (List Pk)) (t:Nat) (w:List Nat) (s:Int),Valid ps->t<=ps.length->WordOk ps t w->1<=s->s<=9->f [ah ps,.int (t:Int),wD w,.int s]=some (.deep,.bl ((w.zip (ps.drop t)).all λq=>decide (s<=(pkAt q).2)))
theorem GL (hg:qz g) (hz:vW z) (hl:m5 l):Ak (aX 4 6 (GC g z l)):=λps t w s hv ht hk h1 h9=>by
 refine aC rfl ?_;have hs:aL 6 [ah ps,.int (t:Int),wD w,.int s]=[some _,some (.sh,.int (t:Int)),some _,some _,none,none]:=rfl;rw[hs];refine(ao (eE (d:=.non) ?_)).trans ?_
 ·simp[hl ps t w hv ht hk]
 refine(ao ((c3 ?_).trans rfl)).trans ?_
 ·simp[hz s,h1,h9]
 refine aJ (bg (evX_lf ?_ rfl));have hm:ak [4,5] (jX noV (clF g (aa (va 0) (aa (va 1) (aa (va 2) ae))))) (gTp 2 (aK (gNm 4) (aK (gNm 5) b6))) tQ (ac leD (va 3) (va 5))
   [some (ah ps),some (.int (t:Int)),some (wD w),some (.int s),none,none]=some ((w.zip (ps.drop t)).map λq=>.bl (decide (s<=(pkAt q).2))):=by
  refine aN (mk:=λq=>pkD (pkAt q)) ?_ (λq hq=>?_) (iz hv t w)
  ·simp[hg ps t w hv hk]
  ·simp[pkD]
 simp only[az,aB,aA,br,ag,bz,hm,am,map_some,Option.bind_some];exact eD (w.zip _) λq=>decide _
theorem ff {v:Nat->Int} (I:Nat->Ev->Prop) (hJ:J (shv Y)=some ((List.range n).map λi=>D.int (v i))) (h0:I 0 Y) (hs:∀ (i:Nat) (Y:Ev),i<n->I i Y->∃Y',F (Y.set s (some (.sh,.int (v i))))=some (.nx Y')/\I (i+1) Y'):∃Y',frF J (eNm s) F Y=some (.nx Y')/\I n Y':=by
 obtain⟨Y',e,i⟩:=dm (tg:=eNm s) I hJ h0 (λi d Y hd hi=>by
  rw[getElem?_map]at hd;cases hp:(List.range n)[i]? with
  |none=>rw[hp]at hd;cases hd
  |some p=>
   rw[hp]at hd;cases hd;obtain⟨hl,e⟩:=List.getElem?_eq_some_iff.mp hp;rw[List.getElem_range]at e;subst e;rw[length_range]at hl;exact hs i Y hl hi)
 rw[length_map,length_range]at i;exact⟨Y',e,i⟩
theorem lH (o:Option Sl) (Y:Ev):vw (o::Y)=o.map (·.2)::vw Y:=rfl
theorem sj {β γ:Type} {step} {mk} {out} {P:γ->Prop}:∀ (xs:List β),(∀x∈xs,∃y,P y/\step (mk x)=some (some (out y)))->∃ys:List γ,ys.length=xs.length/\(∀y∈ys,P y)/\iH step (xs.map mk)=some (ys.map out)
 |[],_=>⟨[],rfl,λ_ h=>(nomatch h),rfl⟩
 |x::xs,h=>by
  obtain⟨y,py,e⟩:=h x mem_cons_self;obtain⟨ys,l,p,e2⟩:=sj xs λe he=>h e (mem_cons_of_mem _ he);refine⟨y::ys,by simp[l],λz hz=>?_,?_⟩
  ·rcases mem_cons.mp hz with rfl|hz
   ·exact py
   ·exact p z hz
  ·rw[List.map_cons];unfold iH;rw[e,e2];rfl
theorem sk {β γ:Type} {Y:Vv} {xs:List β} {mk} {out} {P:γ->Prop} (hJ:J Y=some (xs.map mk)) (h:∀x∈xs,∃y,P y/\gI g ft fe (wipe ks Y) (mk x)=some (some (out y))) (hl:xs.length<big):
  ∃ys:List γ,ys.length=xs.length/\(∀y∈ys,P y)/\ak ks J g ft fe Y=some (ys.map out):=by
 obtain⟨ys,l,p,e⟩:=sj xs h
 refine⟨ys,l,p,?_⟩
 unfold ak
 rw[hJ]
 simp only[Option.bind_some]
 rw[e]
 unfold bZ
 simp[l,hl]
def scD (ns:List Int):D:=.lst (ns.map D.int)
@[simp] theorem Mp (ns:List Int):seqD (scD ns)=some (ns.map D.int):=rfl
@[simp] theorem MS (ns:List Int):lfD (scD ns)=false:=rfl
theorem Al (ns:List Int):lfL (ns.map D.int)=true:=cA λd hd=>by
 obtain⟨p,_,rfl⟩:=List.mem_map.mp hd;rfl
theorem m6 (h:0<=i) (h2:i<ns.length):∃v,ixD (scD ns) (.int i)=some (.int v):=⟨_,C0 h h2⟩
def Am (f:List D->Option Sl):Prop:=∀ (ns:List Int) (k:Nat),f [scD ns,.int (k:Int)]=some (.deep,.int (ns[k]?.getD 0))
theorem GM:Am (aX 2 2 gQ):=λns k=>by
 refine aC rfl ?_;unfold gQ;have hs:aL 2 [scD ns,.int (k:Int)]=[some (.sh,scD ns),some (.sh,.int (k:Int))]:=rfl;rw[hs];by_cases h:k<ns.length
 ·refine aJ ((jz ?_).trans (aJ (bg (evX_lf ?_ rfl))))
  ·have:(k:Int)<(ns.length:Int):=by omega
   simp[this]
  ·simp[scD];exact atI_mapN (by simp[h])
 ·refine(ao ((c3 ?_).trans rfl)).trans (aJ (bg (evX_lf ?_ rfl)))
  ·have:¬ (k:Int)<(ns.length:Int):=by omega
   simp[this]
  ·simp[h]
def An (f:List D->Option Sl):Prop:=∀ (c:Int) (a:Nat),a<1000->∃v:Int,0<=v/\v<1000000/\f [.int c,.int (a:Int)]=some (.deep,.int v)
theorem GN:An (aX 2 3 lx):=λc a ha=>by
 have L:=ff (J:=jX (r1F (aa (va 1) ae)) (biF noD (aa (va 1) ae))) (s:=2) (v:=λi=>(i:Int)) (F:=af (aP 0 (evX (ac cV (va 0) (cI 1000000)) noV noV)) nxE) (n:=a) (Y:=aL 3 [.int c,.int (a:Int)])
  (λi Y=>∃x v o,Y=[some (x,.int v),some (.sh,.int (a:Int)),o]) (fS (by simp[aL];exact bV (by omega))) ⟨.sh,c,none,rfl⟩ (by
   rintro i Y hi ⟨x,v,o,rfl⟩;exact⟨_,ao (bm (evX_lf (d:=.int (v/1000000)) (by simp;exact gf (by decide) (by decide)) rfl)),⟨_,_,_,rfl⟩⟩)
 obtain⟨Y',e,x,v,o,rfl⟩:=L;refine⟨v%1000000,Int.emod_nonneg _ (by decide),Int.emod_lt_of_pos _ (by decide),aC rfl ?_⟩;unfold lx;refine(ao e).trans (aJ (bg (evX_lf ?_ rfl)));simp;exact bK (by decide)
theorem Ao (h:0<=i) (h2:i<1000000000039):cq (.int i) (.int j)=some (.int (i*j)):=zX (Int.lt_of_lt_of_le (by decide) h) (Int.lt_trans h2 (by decide))
def qA (f:List D->Option Sl):Prop:=∀ (ns:List Int) (m:Nat),ns.length<1000->0<m->m<1000->∃cs:List Int,cs.length=m/\f [scD ns,.int (m:Int)]=some (.deep,scD cs)
theorem md (i:Int) (h:0<j):0<=i%j/\i%j<j:=⟨Int.emod_nonneg _ (by omega),Int.emod_lt_of_pos _ h⟩
theorem Mq (i j:Int) (h:0<j):bA (.int i) (.int j)=some (.int (i%j)):=bK h
end L2
namespace L2
open PySem PySem.Spec PyProof.Rows
theorem MY (q:Bool):decide (kd q=("queue":Str))=q:=by cases q<;>decide
theorem Mr (q:Bool):decide (kd q=("pile":Str))=!q:=by cases q<;>decide
def lay (q:Bool) (a c:Int):Int:=if q=true then c else a-1-c
def pi (f:List D->Option Sl):Prop:=∀ (q:Bool) (a c:Int),f [.str (kd q),.int a,.int c]=some (.deep,.int (lay q a c))
theorem GO:pi (aX 3 3 GB):=λq a c=>by
 refine aC rfl ?_;refine aJ (bg (evX_lf ?_ rfl));cases q<;>rfl
def stp (s:Int×Int) (q:Nat×List Pk):Int×Int:=(s.1*q.2.length,q.1*s.1+lay (pkAt q).1 s.1 s.2)
def walkC (s:Int×Int) (zs:List (Nat×List Pk)):Int×Int:=zs.foldl stp s
theorem uI (s:Int×Int) (zs:List (Nat×List Pk)) (i:Nat) (q) (h:zs[i]?=some q):walkC s (zs.take (i+1))=stp (walkC s (zs.take i)) q:=by
 unfold walkC;rw[List.take_succ,h];simp
def ahd (ps:List (List Pk)) (t:Nat):Int:=(prod (ps.take t):Nat)
def kf (ps:List (List Pk)) (t:Nat) (w:List Nat):Int:=(walkC (ahd ps t,ahd ps t-1) (w.zip (ps.drop t))).2
def vZ (f:List D->Option Sl):Prop:=∀ (ps:List (List Pk)) (t:Nat) (w:List Nat),Valid ps->t<=ps.length->WordOk ps t w->f [ah ps,.int (t:Int),wD w]=some (.deep,.int (kf ps t w))
theorem Ap {i:Nat} (h:i<1000000):cq (.int (i:Int)) (.int j)=some (.int ((i:Int)*j)):=zX (lt_big (by omega) (by omega)).1 (lt_big (by omega) (by omega)).2
theorem pj (hc:ke c) (ps:List (List Pk)) (h:∀p∈ps,p.length<1000):c [.tup (ps.map tpD)]=some (.deep,.int (prod ps:Nat)):=by
 have e:(ps.map λp=>((false,p):Bool×List Pk)).map paD=ps.map tpD:=by rw[List.map_map];rfl
 have em:(ps.map λp=>((false,p):Bool×List Pk)).map (·.2)=ps:=by rw[List.map_map];exact List.map_id ps
 have:=hc false (ps.map λp=>(false,p)) (λp hp=>by
  obtain⟨q,hq,rfl⟩:=List.mem_map.mp hp;exact h q hq)
 rw[e,em]at this;exact this
theorem J7 (hk:WordOk ps t w) (h:(w.zip (ps.drop t))[i]?=some q):w[i]?=some q.1/\ps[t+i]?=some q.2/\q.1<q.2.length/\atI (q.2.map pkD) (q.1:Int)=some (pkD (pkAt q)):=by
 obtain⟨h1,h2⟩:=List.getElem?_zip_eq_some.mp h;rw[List.getElem?_drop]at h2;have h3:=hk.each q (mem_of_getElem? h);exact⟨h1,h2,h3,Aj h3⟩
theorem GP {fl la co lo} (hf:fl "Mill" "passes"=true) (hl:pi la) (hc:ke co) (hw:m5 lo):vZ (aX 3 7 (lv fl la co lo)):=λps t w hv ht hk=>by
 refine aC rfl ?_;have hs:aL 7 [ah ps,.int (t:Int),wD w]=[some (.sh,ah ps),some (.sh,.int (t:Int)),some (.sh,wD w),none,none,none,none]:=rfl;rw[hs];unfold lv;refine(ao (eE (d:=.non) ?_)).trans ?_
 ·simp[hw ps t w hv ht hk]
 have hsm:∀p∈ps,p.length<1000:=λp hp=>by have:=(hv.p hp).2.1;omega
 refine(ao (bm (evX_lf (d:=.int (ahd ps t)) ?_ rfl))).trans ?_
 ·simp only[az,aB,aA,clF_a,ag,am,Ah hf (Y:=[some (ah ps),some (.int (t:Int)),some (wD w),none,none,none,none]) rfl rfl,Option.bind_some,pj hc (ps.take t) (λp hp=>hsm p (List.mem_of_mem_take hp)),aM,ahd]
 refine(ao (bm (evX_lf (d:=.int (ahd ps t-1)) ?_ rfl))).trans ?_
 ·simp
 have L:=dm (J:=jX (zpF (aa (va 2) (aa (slF (flF fl "passes" (va 0)) (bO (va 1)) noP) ae))) (biF noD (aa (va 2) (aa (slF (flF fl "passes" (va 0)) (bO (va 1)) noP) ae)))) (tg:=eTp 2 (cm (eNm 5) (cm (eNm 6) j4)))
  (F:=af (aP 4 (evX (ac b9 (ac cq (va 5) (va 3)) (clF la (aa (ac ixD (ac ixD (va 6) (va 5)) (cI 0)) (aa (va 3) (aa (va 4) ae))))) (iX (orO (ac cq (va 5) (va 3)) (lsF noV)) (clF la (aa (ac ixD (ac ixD (va 6) (va 5)) (cI 0)) (aa (va 3) (aa (va 4) ae))))) noV)) (af (aP 3 (evX (ac cq (va 3) (biF b8 (aa (va 6) ae))) noV noV)) nxE))
  (ds:=(w.zip (ps.drop t)).map λq=>.tup [.int (q.1:Int),tpD q.2])
  (Y:=[some (.sh,ah ps),some (.sh,.int (t:Int)),some (.sh,wD w),some (.deep,.int (ahd ps t)),some (.deep,.int (ahd ps t-1)),none,none])
  (λi Y=>∃o5 o6,Y=[some (.sh,ah ps),some (.sh,.int (t:Int)),some (.sh,wD w),some (.deep,.int (walkC (ahd ps t,ahd ps t-1) ((w.zip (ps.drop t)).take i)).1),some (.deep,.int (walkC (ahd ps t,ahd ps t-1) ((w.zip (ps.drop t)).take i)).2),o5,o6])
  (rZ (by
   simp only[gO,eu,dA,eY,CY,if_true,ag,aG,av,aj,am,Option.bind_some];rw[lY hf (ps:=ps) (t:=t) rfl rfl];simp only[Option.bind_some];rw[gP (xs:=w.map λ(i:Nat)=>.int (i:Int)) (ys:=(ps.drop t).map tpD) rfl rfl,Ai])) ⟨none,none,rfl⟩ (by
   rintro i d Y hd ⟨o5,o6,rfl⟩;rw[getElem?_map]at hd;cases hq:(w.zip (ps.drop t))[i]? with
   |none=>rw[hq]at hd;cases hd
   |some q=>
    rw[hq]at hd;cases hd;obtain⟨_,h2,h3,h4⟩:=J7 hk hq;rw[uI _ _ _ _ hq];generalize walkC (ahd ps t,ahd ps t-1) ((w.zip (ps.drop t)).take i)=s;have h6:q.2.length<=6:=(hv.p (mem_of_getElem? h2)).2.1;have e0:∀k:Pk,ixD (pkD k) (.int 0)=some (.str (kd k.1)):=λk=>lm _ _;have e6:ixD (tpD q.2) (.int (q.1:Int))=some (pkD (pkAt q)):=h4;have e7:seqD (tpD q.2)=some (q.2.map pkD):=rfl;refine⟨_,(ao (bm (evX_lf (d:=.int (q.1*s.1+lay (pkAt q).1 s.1 s.2)) ?_ rfl))).trans (ao (bm (evX_lf (d:=.int (s.1*q.2.length)) ?_ rfl))),⟨some (.sh,.int (q.1:Int)),some (.sh,tpD q.2),rfl⟩⟩
    ·simp only[set_cons_succ,set_cons_zero,az,aB,aA,aF,clF_a,ag,am,aG,av,aj,ay,db,Option.bind_some,Ap (show q.1<1000000 by omega),e6,e0,hl (pkAt q).1 s.1 s.2,aM,io]
    ·simp only[set_cons_succ,set_cons_zero,az,aB,aA,aF,br,ag,am,aG,av,aj,ay,Option.bind_some,bE,e7,length_map,sf (show q.2.length<1000 by omega)])
 obtain⟨Y',e,o5,o6,rfl⟩:=L;rw[length_map,List.take_length]at e;refine(ao e).trans (aJ ?_);rfl
def piles (zs:List (Nat×List Pk)):Nat:=(zs.filter λq=>!(pkAt q).1).length
def eF (ps:List (List Pk)) (t:Nat) (w:List Nat):Int:=1-2*((piles (w.zip (ps.drop t)):Int)%2)
def Aq (f:List D->Option Sl):Prop:=∀ (ps:List (List Pk)) (t:Nat) (w:List Nat),Valid ps->t<=ps.length->WordOk ps t w->f [ah ps,.int (t:Int),wD w]=some (.deep,.int (eF ps t w))
theorem C6 {β:Type} (zs:List β) (f:β->Str):lfL (zs.map λq=>.str (f q))=true:=cA λd hd=>by
 obtain⟨p,_,rfl⟩:=List.mem_map.mp hd;rfl
theorem GQ {po lo} (hp:qz po) (hw:m5 lo):Aq (aX 3 6 (Ab po lo)):=λps t w hv ht hk=>by
 refine aC rfl ?_;have hs:aL 6 [ah ps,.int (t:Int),wD w]=[some (.sh,ah ps),some (.sh,.int (t:Int)),some (.sh,wD w),none,none,none]:=rfl;rw[hs];unfold Ab;refine(ao (eE (d:=.non) ?_)).trans ?_
 ·simp[hw ps t w hv ht hk]
 have hm:ak [4,5] (jX noV (clF po (aa (va 0) (aa (va 1) (aa (va 2) ae))))) (gTp 2 (aK (gNm 4) (aK (gNm 5) b6))) (aD (ac (aQ false) (va 4) (cS "pile"))) (va 4)
   [some (ah ps),some (.int (t:Int)),some (wD w),none,none,none]=some (((w.zip (ps.drop t)).filter λq=>!(pkAt q).1).map λq=>.str (kd (pkAt q).1)):=by
  refine fA (mk:=λq=>pkD (pkAt q)) ?_ (λq hq=>?_) (iz hv t w)
  ·simp[hp ps t w hv hk]
  ·simp only[pkD,bR,bu,bL,J0,z0,CZ,eB,set_cons_succ,set_cons_zero,length_cons,List.length_nil,if_true,Option.bind_some,bb,aF,aG,av,aj,ay,uA,zZ,Bool.false_eq_true,if_false,bQ,Mr];cases(pkAt q).1<;>rfl
 refine(ao (bm (evX_lfs (d:=.lst (((w.zip (ps.drop t)).filter λq=>!(pkAt q).1).map λq=>.str (kd (pkAt q).1))) ?_ rfl hm (C6 _ _)))).trans ?_
 ·show lsF _ [some (ah ps),some (.int (t:Int)),some (wD w),none,none,none]=_;rw[bz,hm];rfl
 refine aJ (bg (evX_lf ?_ rfl));have h2:(0:Int)<2:=by decide
 simp only[set_cons_succ,set_cons_zero,az,aB,aA,D5,bb,aF,br,ag,am,aG,av,aj,ay,db,Option.bind_some,bE,j8,length_map,Mq _ 2 h2,iK,Bool.false_eq_true,if_false,bQ,D3,zW,eF];show(if decide ((piles (w.zip (ps.drop t)):Int)%2=0)=true then _ else _)=_;generalize (piles (w.zip (ps.drop t)):Int)=n;have hn:=md n h2;by_cases h:n%2=0
 ·simp[h]
 ·have:n%2=1:=by omega
  simp[this]
end L2
namespace L2
open PySem PySem.Spec PyProof.Rows
theorem GR {R L Sp} (h:R (vw Y)=some d) (f:lfD d=false) (hl:L (vw Y)=none) (hs:Sp (vw Y)=none) (hl2:L (shv Y)=none) (h2:R (shv Y)=none):evX R L Sp Y=some ((.sh,d),cH Y):=by
 unfold evX orO lE kY rH w9 frX orO lfO js;simp[h,hl,hl2,h2,f,hs]
theorem GS {K} {st} (n k:Nat) (X:K.In h) (hN:h.Ns mainGlobals mg) (hfa:mg "law"=some (.ref fa)) (S:FnScope N ["script"] (aE st)) (b:cZ "law" st ["script"]) (t:bi K "law" st) (g:∀base:Heap,K.In base->base.Ns mainGlobals mg->GbOk P w K mg base G) (hf:∀ns:List Int,ns.length<=63->cu (dfn n k N ["script"] st G [.lst (ns.map D.int)])=some (.bl true)):
  ∃fd:FuncData,(∀ (s:Shared) (v:Value),BindsTo s fd ⟨[v],[]⟩ [("script",v)])/\∀base:Heap,K.In base->base.Ns mainGlobals mg->FnOk P w K mg base CX0 (k+1) fa fd ["script"] (spL K):=by
 obtain⟨f,oc,od,an,osl,kV,doc,pm,cdv,ct,h1,h2,h3,h4⟩:=t
 have e:=hfa.symm.trans (PySem.W.mg_of X hN h1)
 cases e
 have Fn:=pS h2 h3 h4
 refine⟨_,λs v=>.of_eq (b "law" kV doc pm an cdv ct [v] rfl),λbase KB hB=>Gr (FL Fn S λcdv A outer s H E hr=>?_) hf⟩
 exact(CV n).2 _ _ (vP (g base KB hB) S cdv A outer s H E hr) _
theorem cn_int {K} (X:K.In h) (hN:h.Ns mainGlobals mg) (t:∃t,nsIn K mainGlobals x=some (some (.int i t))):Cn K mg x (.int i):=by
 obtain⟨t,e⟩:=t;exact⟨_,_,PySem.W.mg_of X hN e,(show RelV (.int i) _ from⟨t,rfl⟩),λH=>rfl⟩
theorem cn_2str {K} (X:K.In h) (hN:h.Ns mainGlobals mg) (t:∃ (a:Addr) (od:Option Addr) (n:Nat) (sl:Array (Option Value)) (t0:Tok) (t1:Tok),nsIn K mainGlobals x=some (some (.ref a))/\K.lookup a=some ⟨.type "tuple",od,.seq #[.str y t0,.str z t1] n,sl⟩):Cn K mg x (.tup [.str y,.str z]):=by
 obtain⟨a,od,n,sl,t0,t1,e,l⟩:=t;refine⟨.ref a,_,PySem.W.mg_of X hN e,rfl,λH=>⟨a,[.str y,.str z],rfl,.inr ⟨_,_,n,l,rfl,rfl,?_,?_⟩,⟨_,_,rfl,rfl,⟨_,_,rfl,rfl,rfl⟩⟩⟩⟩
 ·show 2<=sizeLine;decide
 ·exact .cons ⟨t0,rfl⟩ (.cons ⟨t1,rfl⟩ .nil)
theorem fl_one {K} (t:∃Ca,nsIn K mainGlobals C=some (some (.ref Ca))/\findIn K (.ref Ca) m=some none) (h:f=m):∀Ca,nsIn K mainGlobals C=some (some (.ref Ca))->NoAttr K Ca f:=λCa hc=>by
 obtain⟨Cb,e,n⟩:=t;rw[hc]at e;cases e;rw[h];exact n
theorem C7 {K} (c:TCls K C) (hc:nsIn K mainGlobals C=some (some (.ref Ca))):Cls K Ca:=by
 obtain⟨Cb,e,cl,_,_⟩:=c.ex;rw[hc]at e;cases e;exact cl
theorem Ms {K} {st} {kV doc pm cdv ct} (a:nsIn K mainGlobals x=some (some (.ref f))) (l:K.lookup f=some ⟨oc,od,.func (PySem.W.fnOf x x (cy st) (bj st) (aE st) .none kV doc pm an cdv ct),osl⟩) (c:PySem.W.codeIn K cdv x=true) (k:PySem.W.keepIn K (.ref f)=true):bi K x st:=⟨f,oc,od,an,osl,kV,doc,pm,cdv,ct,a,l,c,k⟩
theorem GT {K} {st} {kV doc pm cdv ct} (a:nsIn K mainGlobals C=some (some (.ref Ca))) (n:findIn K (.ref Ca) m=some (some (.ref f))) (i:PySem.W.isFn K (.ref f)=true) (l:K.lookup f=some ⟨oc,od,.func (PySem.W.fnOf m qual (cy st) (bj st) (aE st) .none kV doc pm an cdv ct),osl⟩) (c:PySem.W.codeIn K cdv qual=true) (k:PySem.W.keepIn K (.ref f)=true):qr K C m qual st:=⟨Ca,f,oc,od,an,osl,kV,doc,pm,cdv,ct,a,n,i,l,c,k⟩
theorem Mt {K} (a:nsIn K mainGlobals C=some (some (.ref Ca))) (pg:PySem.W.plainGet K Ca Str.empty=true) (hd:PySem.W.hasDictIn K Ca=true) (po:PySem.W.plainOver K Ca=true) (sa:findIn K (.ref Ca) "__setattr__"=some (some (.builtin "object.__setattr__"))) (mk:PySem.W.makesIn K Ca=true) (kc:PySem.W.keepIn K (.ref Ca)=true):TCls K C:=⟨Ca,a,⟨pg,hd,po,sa⟩,mk,kc⟩
theorem tno {K} (a:nsIn K mainGlobals C=some (some (.ref Ca))) (n:findIn K (.ref Ca) m=some none):∃Ca,nsIn K mainGlobals C=some (some (.ref Ca))/\findIn K (.ref Ca) m=some none:=⟨Ca,a,n⟩
theorem xD {K} (a:nsIn K mainGlobals x=some (some (.int i t))):∃t,nsIn K mainGlobals x=some (some (.int i t)):=⟨t,a⟩
theorem J8 {K} (e:nsIn K mainGlobals x=some (some (.ref a))) (l:K.lookup a=some ⟨.type "tuple",od,.seq #[.str y t0,.str z t1] n,sl⟩):
 ∃ (a:Addr) (od:Option Addr) (n:Nat) (sl:Array (Option Value)) (t0:Tok) (t1:Tok),nsIn K mainGlobals x=some (some (.ref a))/\K.lookup a=some ⟨.type "tuple",od,.seq #[.str y t0,.str z t1] n,sl⟩:=⟨a,od,n,sl,t0,t1,e,l⟩
def sr (dU:List D->Option Sl) (dS:List D->Option Sl):Ev->Option Out:=(af (ifS (orQ (bP (trF (biF eX (aa (va 1) (aa (cT "tuple") ae))))) (aD (ac (aQ true) (biF b8 (aa (va 1) ae)) (cI 2)))) (af (cb (evX (cB false) noV noV)) nxE) nxE) (af (cb (evX (lB (clF dS (aa (ac ixD (va 1) (cI 0)) ae)) (clF dU (aa (va 0) (aa (ac ixD (va 1) (cI 1)) ae)))) noV noV)) nxE))
def jA (fq:List D->Option Sl):Ev->Option Out:=(af (ifS (orQ (bP (trF (biF eX (aa (va 1) (aa (tpF (aa (cT "list") (aa (cT "tuple") ae))) ae))))) (aD (ac gtD (biF b8 (aa (va 1) ae)) (cD (.int 24))))) (af noO' nxE) nxE) (af (ifS (bP (trF (biF mF (aa (lsF (ak [2] (jX noV (va 1)) (gNm 2) tQ (clF fq (aa (va 0) (aa (va 2) ae))))) ae)))) (af noO' nxE) nxE) nxE))
def nY (qP:List D->Option Sl) (dW:List D->Option Sl):Ev->Option Out:=(af (cb (evX (lB (clF dW (aa (va 0) (aa (ac ixD (va 1) (cI 1)) (aa (va 2) ae)))) (clF qP (aa (va 0) (aa (ac ixD (va 1) (cI 1)) (aa (va 2) (aa (ac ixD (va 1) (cI 0)) ae)))))) noV noV)) nxE)
def m8 (dt:List D->Option Sl) (b7:List D->Option Sl):Ev->Option Out:=(af (cX (clF b7 (aa (va 0) (aa (va 1) ae)))) (af (ifS (orQ (bP (trF (biF eX (aa (va 2) (aa (tpF (aa (cT "list") (aa (cT "tuple") ae))) ae))))) (aD (ac (aQ true) (biF b8 (aa (va 2) ae)) (biF b8 (aa (va 1) ae))))) (af noO' nxE) nxE) (af (ifS (bP (trF (biF mF (aa (lsF (ak [3,4] (jX (zpF (aa (va 1) (aa (va 2) ae))) (biF noD (aa (va 1) (aa (va 2) ae)))) (gTp 2 (aK (gNm 3) (aK (gNm 4) b6))) tQ (clF dt (aa (va 0) (aa (va 3) (aa (va 4) ae)))))) ae)))) (af noO' nxE) nxE) nxE)))
structure Lt where
 s:Int
 t:Nat
 w:List Nat
def jB (l:Lt):D:=.tup [.int l.s,.int (l.t:Int)]
structure LtOk (ps:List (List Pk)) (l:Lt):Prop where
 s1:1<=l.s
 s9:l.s<=9
 t:l.t<=ps.length
 w:WordOk ps l.t l.w
 fit:∀q∈l.w.zip (ps.drop l.t),l.s<=(pkAt q).2
def lsD (v:Bool) (ls:List Lt):D:=sq v (ls.map jB)
def plD (v:Bool) (ls:List Lt):D:=sq v (ls.map λl=>wD l.w)
def qB (f:List D->Option Sl):Prop:=∀ (ps:List (List Pk)) (l:Lt),LtOk ps l->f [ah ps,jB l]=some (.deep,.bl true)
theorem Ar (hl:vX la) (hs:vW si):qB (aX 2 2 (sr la si)):=λps l h=>by
 refine aC rfl ?_;refine(ao ((c3 ?_).trans rfl)).trans (aJ (bg (evX_lf ?_ rfl)))
 ·simp[aL,jB]
 ·simp[aL,jB,hs l.s,hl ps l.t h.t,h.s1,h.s9]
def qC (f:List D->Option Sl):Prop:=∀ (v:Bool) (ps:List (List Pk)) (ls:List Lt),ls.length<=24->(∀l∈ls,LtOk ps l)->f [ah ps,lsD v ls]=some (.deep,.non)
theorem As (hl:qB le):qC (aX 2 3 (jA le)):=λv ps ls h24 h=>by
 have hs:aL 3 [ah ps,lsD v ls]=[some _,some _,none]:=rfl;refine eC rfl (Y:=aL 3 [ah ps,lsD v ls]) ?_;rw[hs];refine(ao ((c3 ?_).trans rfl)).trans ((ao ((c3 ?_).trans rfl)).trans rfl)
 ·have h':¬ (24:Int)<(ls.length:Int):=by omega
  cases v<;>simp[lsD,sq,h']
 ·have hm:ak [2] (jX noV (va 1)) (gNm 2) tQ (clF le (aa (va 0) (aa (va 2) ae))) [some (ah ps),some (lsD v ls),none]=some (ls.map λ_=>.bl true):=by
   refine aN (mk:=jB) (by simp[lsD]) (λl hlm=>?_) (lt_of_le_of_lt h24 (by decide));simp[hl ps l (h l hlm)]
  simp[hm,eD ls λ_=>true]
def qD (f:List D->Option Sl):Prop:=∀ (v u:Bool) (ps:List (List Pk)) (ls:List Lt),Valid ps->ls.length<=24->(∀l∈ls,LtOk ps l)->f [ah ps,lsD v ls,plD u ls]=some (.deep,.non)
theorem C8 (h:LtOk ps l):((l.w.zip (ps.drop l.t)).all λq=>decide (l.s<=(pkAt q).2))=true:=by
 rw[List.all_eq_true];exactλq hq=>decide_eq_true (h.fit q hq)
theorem ss {β γ:Type} (g:β×β->γ):∀xs:List β,(xs.zip xs).map g=xs.map λx=>g (x,x)
 |[]=>rfl
 |x::xs=>by rw[List.zip_cons_cons,List.map_cons,List.map_cons,ss g xs]
def GU (f:List D->Option Sl):Prop:=∀ (ps:List (List Pk)) (l:Lt),Valid ps->LtOk ps l->f [ah ps,jB l,wD l.w]=some (.deep,.bl true)
theorem J9 (hf:Ak fi) (hw:vY wo):GU (aX 3 3 (nY fi wo)):=λps a hv ho=>by
 have x1:ixD (jB a) (.int 1)=some (.int (a.t:Int)):=r0 _ _ _;have x0:ixD (jB a) (.int 0)=some _:=lm _ _;refine aC rfl ?_;refine aJ (bg (evX_lf ?_ rfl));simp[aL,x1,x0,hw ps a.t a.w hv ho.w,hf ps a.t a.w a.s hv ho.t ho.w ho.s1 ho.s9,C8 ho]
theorem At {wf lo} (hf:GU wf) (hl:qC lo):qD (aX 3 5 (m8 wf lo)):=λv u ps ls hv h24 h=>by
 have hs:aL 5 [ah ps,lsD v ls,plD u ls]=[some _,some _,some _,none,none]:=rfl;refine eC rfl (Y:=[some (.sh,ah ps),some (.sh,lsD v ls),some (.sh,plD u ls),none,none]) ?_;rw[hs];refine(ao (eE (d:=.non) ?_)).trans ((ao ((c3 ?_).trans rfl)).trans ((ao ((c3 ?_).trans rfl)).trans rfl))
 ·simp[hl v ps ls h24 h]
 ·cases u<;>cases v<;>simp[plD,lsD,sq]
 ·have hm:ak [3,4] (jX (zpF (aa (va 1) (aa (va 2) ae))) (biF noD (aa (va 1) (aa (va 2) ae)))) (gTp 2 (aK (gNm 3) (aK (gNm 4) b6))) tQ (clF wf (aa (va 0) (aa (va 3) (aa (va 4) ae)))) [some (ah ps),some (lsD v ls),some (plD u ls),none,none]=some (ls.map λ_=>.bl true):=by
   refine aN (mk:=λl=>.tup [jB l,wD l.w]) (rZ ?_) (λl hlm=>?_) (lt_of_le_of_lt h24 (by decide))
   ·simp only[ag,aG,av,aj,ay,am,Option.bind_some];rw[gP (a:=lsD v ls) (b:=plD u ls) (dQ _ _) (dQ _ _),iY];exact congrArg some (ss _ ls)
   ·simp[hf ps l hv (h l hlm)]
  simp[hm,eD ls λ_=>true]
theorem Au {β:Type} {xs:List β} {mk} {i:Nat} {x} (h:xs[i]?=some x):ixD (sq v (xs.map mk)) (.int (i:Int))=some (mk x):=by
 cases v<;>exact atI_mapN h
def Av:Ev->Option Out:=(af (aP 5 (evX (lsF (ak [7] (jX noV (va 3)) (gNm 7) tQ (lsF (dpF ae)))) (ak [7] (jX noV (va 3)) (gNm 7) tQ (lsF (dpF ae))) (fCo [7] (jX noV (va 3)) (gNm 7) tQ (frX (lsF (dpF ae)) (dpF ae) (fLs ae))))) (af (frF (jX noV (va 4)) (eNm 6) (af (qk 5 (ac ixD (ac ixD (va 1) (va 6)) (ac ga (va 2) (ac ixD (ac ixD (va 0) (va 6)) (cI 1)))) (va 6)) nxE)) (af (rtN 5) nxE)))
def xF:Ev->Option Out:=(af (aP 2 (evX (lsF (dpF ae)) (dpF ae) (fLs ae))) (af (frF (jX (zpF (aa (va 0) (aa (va 1) ae))) (biF noD (aa (va 0) (aa (va 1) ae)))) (eTp 2 (cm (eNm 3) (cm (eNm 4) j4))) (af (qh 2 (ifF (aD (ac (aQ false) (ac ixD (va 3) (cI 0)) (cS "queue"))) (va 4) (liG (aa (biF noD (aa (va 4) ae)) ae) (orO (rvF (aa (va 4) ae)) (l1F (aa (biF noD (aa (va 4) ae)) ae)))))) nxE)) (af (rtN 2) nxE)))
theorem D8 (h:(xs Y).bind vy=some ds):jX (enF xs) R Y=some ds:=by
 unfold jX orO enF;rw[h]
theorem pk {β:Type} {f} (xs:List β):lh (xs.map f)=(xs.zipIdx).map λp=>.tup [.int (p.2:Nat),f p.1]:=by
 unfold lh;rw[List.zipIdx_map,List.map_map];rfl
def fT (ls:List Lt) (t:Nat):List Nat:=(ls.zipIdx.filter λp=>decide (p.1.t=t)).map (·.2)
def aw (r:List Nat):D:=.lst (r.map λ(k:Nat)=>D.int (k:Int))
theorem kg (r:List Nat):lfL (r.map λ(k:Nat)=>D.int (k:Int))=true:=cA λd hd=>by
 obtain⟨k,_,rfl⟩:=List.mem_map.mp hd;rfl
theorem wb {R L Sp} (h:R (vw Y)=some d) (f:lfD d=false) (hl:L (vw Y)=some ds) (fl:lfL ds=false) (hs:Sp (vw Y)=some e):evX R L Sp Y=some ((.deep,e),Y):=by
 unfold evX orO lE frX orO lfO js;simp only[h,hl,hs,f,fl,Option.bind_some];rfl
theorem wd (h:j<n):ixN n (j:Int)=some j:=by
 unfold ixN;rw[if_pos (by omega),if_pos (by omega)];rfl
theorem we (h0:iD Y i=some (.deep,ds)) (hk:fk (vw Y)=some (.int (j:Int))) (hj:ds[j]?=some (.lst ds2)) (hd:R (shv Y)=some d) (lf:lfD d=true) (hl:ds2.length+1<big):
  qk i fk R Y=some (.nx (Y.set i (some (.deep,.lst (ds.set j (.lst (ds2++[d]))))))):=by
 have hjl:=(List.getElem?_eq_some_iff.mp hj).1
 unfold qk vB
 simp only[h0,Option.bind_some,if_true,hk,mS,wd hjl,hj,hd,lfO,lf]
 show(if ds2.length+1<big then _ else _)=_
 rw[if_pos hl]
def pkOf (ls:List Lt) (step k:Nat):Nat:=((ls[k]?).bind λl=>l.w[step-l.t]?).getD 0
def bC (ls:List Lt) (step n:Nat) (row:List Nat):List (List Nat):=(List.range n).map λj=>row.filter λk=>decide (pkOf ls step k=j)
def bF (hs:List (List Nat)):D:=.lst (hs.map aw)
def Aw (ls:List Lt) (step n:Nat) (row:List Nat):Prop:=∀k∈row,∃l j,ls[k]?=some l/\l.t<=step/\l.w[step-l.t]?=some j/\j<n
theorem xH (ls:List Lt) (step n:Nat) (row:List Nat) (k:Nat) (h:pkOf ls step k<n):
  (bC ls step n row)[pkOf ls step k]?=some (row.filter λi=>decide (pkOf ls step i=pkOf ls step k))/\
  bC ls step n (row++[k])=(bC ls step n row).set (pkOf ls step k) ((row.filter λi=>decide (pkOf ls step i=pkOf ls step k))++[k]):=by
 constructor
 ·unfold bC;rw[getElem?_map,List.getElem?_range h];rfl
 ·apply List.ext_getElem?;intro j;rw[List.getElem?_set];unfold bC;rw[getElem?_map,getElem?_map];by_cases hj:j<n
  ·rw[List.getElem?_range hj];by_cases e:pkOf ls step k=j
   ·subst e;simp[hj,List.filter_append]
   ·simp[e,List.filter_append]
  ·rw[List.getElem?_eq_none (by rw[length_range];omega)];have:pkOf ls step k≠j:=by omega
   simp[this]
def Ax (f:List D->Option Sl):Prop:=∀ (v u:Bool) (ls:List Lt) (step:Nat) (p:List Pk) (row:List Nat),ls.length<=24->row.length<=24->p.length<=6->Aw ls step p.length row->
 f [lsD v ls,plD u ls,.int (step:Int),tpD p,aw row]=some (.deep,bF (bC ls step p.length row))
theorem GV:Ax (aX 5 8 Av):=λv u ls step p row h24 hr hp hi=>by
  refine aC rfl ?_
  have hz:bC ls step p.length []=p.map λ_=>[]:=by
    unfold bC
    apply List.ext_getElem?
    intro j
    rw[getElem?_map,getElem?_map]
    by_cases hj:j<p.length
    · rw[List.getElem?_range hj,getElem?_eq_getElem hj];rfl
    · rw[List.getElem?_eq_none (by rw[length_range];omega),List.getElem?_eq_none (by omega)];rfl
  have e1:ak [7] (jX noV (va 3)) (gNm 7) tQ (lsF (dpF ae)) (vw [some (.sh,lsD v ls),some (.sh,plD u ls),some (.sh,.int (step:Int)),some (.sh,tpD p),some (.sh,aw row),none,none,none])=some (p.map λ_=>.lst []):=by
    refine aN (mk:=pkD) ?_ ?_ (lt_of_le_of_lt hp (by decide))
    · simp only[bn,az,aB,aA,aG,av,aj,ay,Option.bind_some];rfl
    · intro x _
      simp[vw]
  have e2:ak [7] (jX noV (va 3)) (gNm 7) tQ (frX (lsF (dpF ae)) (dpF ae) (fLs ae)) (vw [some (.sh,lsD v ls),some (.sh,plD u ls),some (.sh,.int (step:Int)),some (.sh,tpD p),some (.sh,aw row),none,none,none])=some (p.map λ_=>.lst []):=by
    refine aN (mk:=pkD) ?_ ?_ (lt_of_le_of_lt hp (by decide))
    · simp only[bn,az,aB,aA,aG,av,aj,ay,Option.bind_some];rfl
    · intro x _
      have:frX (lsF (dpF ae)) (dpF ae) (fLs ae)=λ_=>some (.lst []):=by
        funext Y
        show orO _ _ Y=_
        unfold orO
        simp[lfO,js]
      rw[this]
      simp[vw]
  have a1:aP 5 (evX (lsF (ak [7] (jX noV (va 3)) (gNm 7) tQ (lsF (dpF ae)))) (ak [7] (jX noV (va 3)) (gNm 7) tQ (lsF (dpF ae))) (fCo [7] (jX noV (va 3)) (gNm 7) tQ (frX (lsF (dpF ae)) (dpF ae) (fLs ae)))) [some (.sh,lsD v ls),some (.sh,plD u ls),some (.sh,.int (step:Int)),some (.sh,tpD p),some (.sh,aw row),none,none,none]=some (.nx [some (.sh,lsD v ls),some (.sh,plD u ls),some (.sh,.int (step:Int)),some (.sh,tpD p),some (.sh,aw row),some (.deep,bF (bC ls step p.length [])),none,none]):=by
    have:evX (lsF (ak [7] (jX noV (va 3)) (gNm 7) tQ (lsF (dpF ae)))) (ak [7] (jX noV (va 3)) (gNm 7) tQ (lsF (dpF ae))) (fCo [7] (jX noV (va 3)) (gNm 7) tQ (frX (lsF (dpF ae)) (dpF ae) (fLs ae))) [some (.sh,lsD v ls),some (.sh,plD u ls),some (.sh,.int (step:Int)),some (.sh,tpD p),some (.sh,aw row),none,none,none]=some ((.deep,.lst (p.map λ_=>.lst [])),[some (.sh,lsD v ls),some (.sh,plD u ls),some (.sh,.int (step:Int)),some (.sh,tpD p),some (.sh,aw row),none,none,none]):=by
      cases p with
      |nil=>exact evX_lfs (by rw[bz,e1];rfl) rfl e1 rfl
      |cons a b=>exact wb (by rw[bz,e1];rfl) rfl e1 rfl (by unfold fCo;rw[e2];rfl)
    rw[bm this,hz]
    unfold bF
    rw[List.map_map]
    rfl
  have L:=dm (J:=jX noV (va 4)) (tg:=eNm 6) (F:=(af (qk 5 (ac ixD (ac ixD (va 1) (va 6)) (ac ga (va 2) (ac ixD (ac ixD (va 0) (va 6)) (cI 1)))) (va 6)) nxE))
   
    (λi Y=>∃o6,Y=[some (.sh,lsD v ls),some (.sh,plD u ls),some (.sh,.int (step:Int)),some (.sh,tpD p),some (.sh,aw row),some (.deep,bF (bC ls step p.length (row.take i))),o6,none])
    (by simp only[bn,gO,dA,eY,eu,aG,av,aj,ay,Option.bind_some];rfl) ⟨none,rfl⟩ (by
      rintro i d Y hd ⟨o6,rfl⟩
      rw[getElem?_map]at hd
      cases hk:row[i]? with
      |none=>rw[hk]at hd;cases hd
      |some k=>
        rw[hk]at hd
        cases hd
        obtain⟨l,j,g1,g2,g3,g4⟩:=hi k (mem_of_getElem? hk)
        have hpk:pkOf ls step k=j:=by unfold pkOf;rw[g1,Option.bind_some,g3];rfl
        obtain⟨f1,f2⟩:=xH ls step p.length (row.take i) k (by rw[hpk];exact g4)
        rw[hpk]at f1 f2
        have ht:row.take (i+1)=row.take i++[k]:=by rw[List.take_succ,hk];rfl
        have x1:ixD (jB l) (.int 1)=some (.int (l.t:Int)):=r0 _ _ _
        have y1:ixD (lsD v ls) (.int (k:Int))=some _:=Au g1
        have y2:ixD (plD u ls) (.int (k:Int))=some _:=Au g1
        have y3:ixD (wD l.w) (.int ((step:Int)-(l.t:Int)))=some (.int (j:Int)):=by
          rw[show(step:Int)-(l.t:Int)=((step-l.t:Nat):Int)by omega]
          exact atI_mapN g3
        refine⟨_,(ao (we (j:=j) (ds2:=((row.take i).filter λi=>decide (pkOf ls step i=j)).map λ(k:Nat)=>D.int (k:Int)) (d:=.int (k:Int)) rfl ?_ ?_ ?_ rfl ?_)).trans rfl,⟨some (.sh,.int (k:Int)),?_⟩⟩
        · simp only[set_cons_succ,set_cons_zero,az,aB,aA,aF,aG,av,aj,ay,db,Option.bind_some,y1,y2,x1,lV,y3]
        · rw[getElem?_map,f1];rfl
        · simp only[set_cons_succ,set_cons_zero,gO,dA,eY,eu,aG,av,aj,ay]
        · rw[length_map]
          have:=List.length_filter_le (λi=>decide (pkOf ls step i=j)) (row.take i)
          rw[List.length_take]at this
          have h2:(25:Nat)<big:=by decide
          omega
        · rw[ht,f2]
          unfold bF
          simp only[set_cons_succ,set_cons_zero,List.map_set]
          rw[show aw ((List.filter (λi=>decide _) _)++[k])=.lst ((((row.take i).filter λi=>decide _).map λ(k:Nat)=>D.int (k:Int))++[.int (k:Int)])by unfold aw;rw[List.map_append];rfl])
  obtain⟨Y',e,o6,rfl⟩:=L
  refine(ao a1).trans ((ao e).trans (aJ ?_))
  rw[length_map,List.take_length]
  rfl
theorem pz:∀ {es:List D},lfL es=true->extC .deep es=.deep
 |[],_=>rfl
 |d::es,h=>by
  rw[zY,and_eq_true]at h;show extC (newCat .deep (extS d)) es=.deep;rw[show newCat .deep (extS d)=.deep by unfold extS newCat;rw[h.1];rfl];exact pz h.2
theorem kh (h0:iD Y i=some (.deep,ds)) (hR:R (shv Y)=some (.lst es)) (lf:lfL es=true) (hl:ds.length+es.length<big):qh i R Y=some (.nx (Y.set i (some (.deep,.lst (ds++es))))):=by
 unfold qh;rw[h0];simp only[Option.bind_some,hR];show(if ds.length+es.length<big then _ else _)=_;rw[if_pos hl,pz lf]
def turnN (q:Pk×List Nat):List Nat:=if q.1.1 then q.2 else q.2.reverse
def b0 (p:List Pk) (hs:List (List Nat)):List Nat:=((p.zip hs).map turnN).flatten
theorem su (r:List Nat):(r.map λ(k:Nat)=>D.int (k:Int)).reverse=r.reverse.map λ(k:Nat)=>D.int (k:Int):=by rw[List.map_reverse]
theorem C9 (h1:xs Y=none) (h2:ys Y=some [d]) (h3:fN d=some ds):liG xs (orO (rvF ys) zs) Y=some (.lst ds.reverse):=by
 unfold liG orO lsF rvF;simp only[h1,h2,Option.bind_none,Option.bind_some];rw[show revD [d]=some ds.reverse by show(fN d).bind _=_;rw[h3];rfl];rfl
def uJ (f:List D->Option Sl):Prop:=∀ (p:List Pk) (hs:List (List Nat)),p.length<=6->(∀h∈hs,h.length<=24)->f [tpD p,bF hs]=some (.deep,aw (b0 p hs))
theorem sv {xs:List (List Nat)} (h:∀x∈xs,x.length<=n):xs.flatten.length<=xs.length*n:=by
 induction xs with
 |nil=>simp
 |cons x xs ih=>
  rw[List.flatten_cons,length_append,length_cons,Nat.succ_mul];have a:=h x mem_cons_self;have b:=ih λy hy=>h y (mem_cons_of_mem _ hy);omega
theorem Da:uJ (aX 2 5 xF):=λp hs hp hh=>by
 refine aC rfl ?_;have a1:evX (lsF (dpF ae)) (dpF ae) (fLs ae) [some (.sh,tpD p),some (.sh,bF hs),none,none,none]=some ((.deep,.lst []),[some _,some _,none,none,none]):=evX_lfs (d:=.lst []) (by simp) rfl (by simp) rfl;have L:=dm (J:=jX (zpF (aa (va 0) (aa (va 1) ae))) (biF noD (aa (va 0) (aa (va 1) ae)))) (tg:=eTp 2 (cm (eNm 3) (cm (eNm 4) j4)))
  (F:=(af (qh 2 (ifF (aD (ac (aQ false) (ac ixD (va 3) (cI 0)) (cS "queue"))) (va 4) (liG (aa (biF noD (aa (va 4) ae)) ae) (orO (rvF (aa (va 4) ae)) (l1F (aa (biF noD (aa (va 4) ae)) ae)))))) nxE))
  (ds:=(p.zip hs).map λq=>.tup [pkD q.1,aw q.2])
  (λi Y=>∃o3 o4,Y=[some (.sh,tpD p),some (.sh,bF hs),some (.deep,aw (((p.zip hs).take i).map turnN).flatten),o3,o4])
  (by
   refine rZ ?_;simp only[gO,dA,eY,eu,ag,aG,av,aj,ay,am,Option.bind_some];rw[gP rfl rfl,iY]) ⟨none,none,rfl⟩ (by
   rintro i d Y hd ⟨o3,o4,rfl⟩;rw[getElem?_map]at hd;cases hq:(p.zip hs)[i]? with
   |none=>rw[hq]at hd;cases hd
   |some q=>
    rw[hq]at hd;cases hd;obtain⟨⟨b,w⟩,h⟩:=q;obtain⟨g1,g2⟩:=List.getElem?_zip_eq_some.mp hq;have hlen:=hh h (mem_of_getElem? g2);have ht:(p.zip hs).take (i+1)=(p.zip hs).take i++[((b,w),h)]:=by rw[List.take_succ,hq];rfl
    have hb:((((p.zip hs).take i).map turnN).flatten).length<=144:=by
     refine Nat.le_trans (sv (n:=24) λx hx=>?_) ?_
     ·obtain⟨y,hy,rfl⟩:=List.mem_map.mp hx;have hy2:=(List.of_mem_zip (List.mem_of_mem_take hy)).2;unfold turnN;split
      ·exact hh _ hy2
      ·rw[List.length_reverse];exact hh _ hy2
     ·rw[length_map,List.length_take,List.length_zip];omega
    have x0:ixD (pkD (b,w)) (.int 0)=some _:=lm _ _;refine⟨_,(ao (kh (es:=(turnN ((b,w),h)).map λ(k:Nat)=>D.int (k:Int)) rfl ?_ (kg _) ?_)).trans rfl,⟨some (.sh,pkD (b,w)),some (.sh,aw h),?_⟩⟩
    ·simp only[set_cons_succ,set_cons_zero,gO,dA,eY,eu,D5,bb,aF,aG,av,aj,ay,db,uA,Option.bind_some,x0,zZ,bQ];cases b with
     |true=>rfl
     |false=>
      refine(C9 ?_ rfl rfl).trans ?_
      ·simp[noD]
      ·rw[su];rfl
    ·rw[length_map,length_map];have h2:(turnN ((b,w),h)).length<=24:=by
      unfold turnN;split
      ·exact hlen
      ·rw[List.length_reverse];exact hlen
     have h3:(1000:Nat)<big:=by decide
     omega
    ·rw[ht,List.map_append,List.flatten_append];simp only[set_cons_succ,set_cons_zero];unfold aw;simp)
 obtain⟨Y',e,o3,o4,rfl⟩:=L;refine(ao (bm a1)).trans ((ao e).trans (aJ ?_));rw[length_map,List.take_length];rfl
theorem mem_join:k∈fT ls t↔∃l,ls[k]?=some l/\l.t=t:=by
 unfold fT;simp only[List.mem_map,List.mem_filter,decide_eq_true_eq];constructor
 ·rintro⟨⟨l,j⟩,⟨h1,h2⟩,rfl⟩;exact⟨l,List.mem_zipIdx_iff_getElem?.mp h1,h2⟩
 ·rintro⟨l,h1,h2⟩;exact⟨(l,k),⟨List.mem_zipIdx_iff_getElem?.mpr h1,h2⟩,rfl⟩
theorem m9 (f:Nat->Nat):∀ (n:Nat) (row:List Nat),(∀k∈row,f k<n)->(((List.range n).map λj=>row.filter λk=>decide (f k=j)).flatten).Perm row
 |0,row,h=>by
  cases row with
  |nil=>exact .nil
  |cons k _=>exact absurd (h k mem_cons_self) (by omega)
 |n+1,row,h=>by
  rw[List.range_succ,List.map_append,List.flatten_append];have e:((List.range n).map λj=>row.filter λk=>decide (f k=j))=((List.range n).map λj=>(row.filter λk=>decide (f k<n)).filter λk=>decide (f k=j)):=by
   apply List.map_congr_left;intro j hj;rw[List.filter_filter];apply List.filter_congr;intro k _;have:=List.mem_range.mp hj;by_cases e:f k=j
   ·simp[e,this]
   ·simp[e]
  have a:=m9 f n (row.filter λk=>decide (f k<n)) λk hk=>by simpa using (List.mem_filter.mp hk).2
  rw[e];have b:(row.filter λk=>decide (f k=n))=row.filter λk=>!decide (f k<n):=by
   apply List.filter_congr;intro k hk;have:=h k hk;by_cases e:f k=n
   ·simp[e]
   ·have:f k<n:=by omega
    simp[e,this]
  simp only[List.map_cons,List.map_nil,List.flatten_cons,List.flatten_nil,List.append_nil];rw[b];exact(a.append_right _).trans (List.filter_append_perm _ _)
theorem pA:∀ (p:List Pk) (hs:List (List Nat)),p.length=hs.length->(b0 p hs).Perm hs.flatten
 |[],[],_=>.nil
 |[],_::_,h=>by simp at h
 |_::_,[],h=>by simp at h
 |a::p,h::hs,e=>by
  have ih:=pA p hs (by simpa using e);unfold b0 at ih⊢;rw[List.zip_cons_cons,List.map_cons,List.flatten_cons,List.flatten_cons];refine List.Perm.append ?_ ih;unfold turnN;split
  ·exact .refl _
  ·exact List.reverse_perm _
theorem ki {step} (h:∀k∈row,pkOf ls step k<p.length):(b0 p (bC ls step p.length row)).Perm row:=
 (pA p _ (by unfold bC;rw[length_map,length_range])).trans (m9 _ _ _ h)
def rowAt (ps:List (List Pk)) (ls:List Lt):Nat->List Nat
 |0=>fT ls 0
 |i+1=>b0 (ps[i]?.getD []) (bC ls i (ps[i]?.getD []).length (rowAt ps ls i))++fT ls (i+1)
theorem Ay (h:∀l∈ls,LtOk ps l) (hk:ls[k]?=some l) (ht:l.t<=i) (hi:i<ps.length):∃j,l.w[i-l.t]?=some j/\j<(ps[i]?.getD []).length/\pkOf ls i k=j:=by
 have o:=h l (mem_of_getElem? hk);have hl:i-l.t<l.w.length:=by rw[o.w.len,List.length_drop];omega
 refine⟨l.w[i-l.t],getElem?_eq_getElem hl,?_,?_⟩
 ·have hz:(l.w.zip (ps.drop l.t))[i-l.t]?=some (l.w[i-l.t],ps[i]):=by
   rw[List.getElem?_zip_eq_some];refine⟨getElem?_eq_getElem hl,?_⟩;rw[List.getElem?_drop,show l.t+(i-l.t)=i by omega];exact getElem?_eq_getElem hi
  have:=o.w.each _ (mem_of_getElem? hz);rw[getElem?_eq_getElem hi];exact this
 ·unfold pkOf;rw[hk,Option.bind_some,getElem?_eq_getElem hl];rfl
theorem wg (h:∀l∈ls,LtOk ps l):∀ (i:Nat),i<=ps.length->∀k,k∈rowAt ps ls i↔∃l,ls[k]?=some l/\l.t<=i
 |0,_,k=>by
  show k∈fT ls 0↔_;rw[mem_join];exact⟨λ⟨l,a,b⟩=>⟨l,a,by omega⟩,λ⟨l,a,b⟩=>⟨l,a,by omega⟩⟩
 |i+1,hi,k=>by
  have ih:=wg h i (by omega);have pm:=ki (ls:=ls) (step:=i) (p:=ps[i]?.getD []) (row:=rowAt ps ls i) λk hk=>by
   obtain⟨l,a,b⟩:=(ih k).mp hk;obtain⟨j,_,c,d⟩:=Ay h a b (by omega);rw[d];exact c
  show k∈b0 _ _++fT ls (i+1)↔_;rw[mem_append,pm.mem_iff,ih,mem_join];constructor
  ·rintro(⟨l,a,b⟩|⟨l,a,b⟩)
   ·exact⟨l,a,by omega⟩
   ·exact⟨l,a,by omega⟩
  ·rintro⟨l,a,b⟩;by_cases e:l.t<=i
   ·exact .inl ⟨l,a,e⟩
   ·exact .inr ⟨l,a,by omega⟩
def nb (ps:List (List Pk)) (l:Lt) (i:Nat):List (Nat×List Pk):=(l.w.zip (ps.drop l.t)).take (i-l.t)
def stAt (ps:List (List Pk)) (l:Lt) (i:Nat):Int×Int:=walkC (ahd ps l.t,ahd ps l.t-1) (nb ps l i)
def gS (ps:List (List Pk)) (l:Lt) (i:Nat):Int:=1-2*((piles (nb ps l i):Int)%2)
section
variable {ps:List (List Pk)} {ls:List Lt}
theorem lZ (o:LtOk ps l) (ht:l.t<=i) (hi:i<ps.length):∃j,l.w[i-l.t]?=some j/\(l.w.zip (ps.drop l.t))[i-l.t]?=some (j,ps[i])/\j<ps[i].length:=by
 have hl:i-l.t<l.w.length:=by rw[o.w.len,List.length_drop];omega
 have hz:(l.w.zip (ps.drop l.t))[i-l.t]?=some (l.w[i-l.t],ps[i]):=by
  rw[List.getElem?_zip_eq_some];refine⟨getElem?_eq_getElem hl,?_⟩;rw[List.getElem?_drop,show l.t+(i-l.t)=i by omega];exact getElem?_eq_getElem hi
 exact⟨_,getElem?_eq_getElem hl,hz,o.w.each _ (mem_of_getElem? hz)⟩
theorem pB (ht:l.t<=i) (h:(l.w.zip (ps.drop l.t))[i-l.t]?=some q):nb ps l (i+1)=nb ps l i++[q]:=by
 unfold nb;rw[show i+1-l.t=(i-l.t)+1 by omega,List.take_succ,h];rfl
theorem wj (ht:l.t<=i) (h:(l.w.zip (ps.drop l.t))[i-l.t]?=some q):stAt ps l (i+1)=stp (stAt ps l i) q:=by
 unfold stAt walkC;rw[pB ht h,List.foldl_append];rfl
theorem qE (ht:l.t<=i) (h:(l.w.zip (ps.drop l.t))[i-l.t]?=some q):gS ps l (i+1)=if(pkAt q).1=true then gS ps l i else-gS ps l i:=by
 unfold gS piles;rw[pB ht h,List.filter_append,length_append];cases hb:(pkAt q).1 with
 |true=>simp[hb]
 |false=>simp[hb];omega
theorem Az (hi:i<ps.length):ahd ps (i+1)=ahd ps i*(ps[i].length:Nat):=by
 unfold ahd;rw[List.take_succ,getElem?_eq_getElem hi];have:∀ (xs:List (List Pk)) (y:List Pk),prod (xs++[y])=prod xs*y.length:=λxs y=>by
  induction xs with
  |nil=>simp[prod]
  |cons a xs ih=>simp only[List.cons_append,prod,ih,Nat.mul_assoc]
 simp only[Option.toList_some,this];push_cast;rfl
theorem l5 (hv:Valid ps) (i:Nat):0<ahd ps i:=by
 unfold ahd;have:∀ (xs:List (List Pk)),(∀x∈xs,1<=x.length)->0<prod xs:=λxs=>by
  induction xs with
  |nil=>intro _;simp[prod]
  |cons a xs ih=>intro h;simp only[prod];exact Nat.mul_pos (h a mem_cons_self) (ih λx hx=>h x (mem_cons_of_mem _ hx))
 have:=this (ps.take i) λx hx=>(hv.p (List.mem_of_mem_take hx)).1;omega
theorem AA (hv:Valid ps) (o:LtOk ps l):∀ (d:Nat),l.t+d<=ps.length->(stAt ps l (l.t+d)).1=ahd ps (l.t+d)/\0<=(stAt ps l (l.t+d)).2/\(stAt ps l (l.t+d)).2<ahd ps (l.t+d)
 |0,_=>by
  have:stAt ps l (l.t+0)=(ahd ps l.t,ahd ps l.t-1):=by unfold stAt nb walkC;simp
  rw[this];have:=l5 hv l.t;exact⟨rfl,by show 0<=ahd ps l.t-1;omega,by show ahd ps l.t-1<ahd ps l.t;omega⟩
 |d+1,hd=>by
  obtain⟨h1,h2,h3⟩:=AA hv o d (by omega);obtain⟨j,g1,g2,g3⟩:=lZ o (i:=l.t+d) (by omega) (by omega);have e:=wj (ps:=ps) (i:=l.t+d) (by omega) g2;rw[show l.t+(d+1)=l.t+d+1 from rfl,e,Az (by omega)];unfold stp;simp only[h1];have hA:=l5 hv (l.t+d);generalize ahd ps (l.t+d)=A at*;generalize (stAt ps l (l.t+d)).2=c at*;have hl:0<=lay (pkAt (j,ps[l.t+d])).1 A c/\lay (pkAt (j,ps[l.t+d])).1 A c<A:=by
   unfold lay;split<;>constructor<;>omega
  generalize lay (pkAt (j,ps[l.t+d])).1 A c=y at*;have h4:(j:Int)*A+A<=A*(ps[l.t+d].length:Nat):=by
   have:(j:Int)+1<=(ps[l.t+d].length:Nat):=by omega
   have:=Int.mul_le_mul_of_nonneg_left this (Int.le_of_lt hA);rw[Int.mul_add,Int.mul_one,Int.mul_comm]at this;exact this
  have h5:0<=(j:Int)*A:=Int.mul_nonneg (by omega) (Int.le_of_lt hA);exact⟨trivial,by omega,by omega⟩
def cd (ps:List (List Pk)) (ls:List Lt) (i k:Nat):Int:=((ls[k]?).map λl=>(stAt ps l i).2).getD 0
def ky (ps:List (List Pk)) (ls:List Lt) (i k:Nat):Int:=((ls[k]?).map λl=>gS ps l i*((k:Int)+(ls.length:Int)*(l.t:Int))).getD 0
def pLt (ps:List (List Pk)) (ls:List Lt) (i a b:Nat):Prop:=cd ps ls i a<cd ps ls i b\/(cd ps ls i a=cd ps ls i b/\ky ps ls i a<ky ps ls i b)
theorem pC (hv:Valid ps) (h:∀l∈ls,LtOk ps l) (hk:ls[k]?=some l) (ht:l.t<=i) (hi:i<=ps.length):0<=cd ps ls i k/\cd ps ls i k<ahd ps i:=by
 unfold cd;rw[hk];have:=AA hv (h l (mem_of_getElem? hk)) (i-l.t) (by omega);rw[show l.t+(i-l.t)=i by omega]at this;exact this.2
theorem dq (hv:Valid ps) (h:∀l∈ls,LtOk ps l) (hk:ls[k]?=some l) (ht:l.t<=i) (hi:i<ps.length):
  cd ps ls (i+1) k=(pkOf ls i k:Int)*ahd ps i+lay (pkAt (pkOf ls i k,ps[i])).1 (ahd ps i) (cd ps ls i k)/\ky ps ls (i+1) k=(if(pkAt (pkOf ls i k,ps[i])).1=true then ky ps ls i k else-ky ps ls i k)/\pkOf ls i k<ps[i].length:=by
 have o:=h l (mem_of_getElem? hk)
 obtain⟨j,g1,g2,g3⟩:=lZ o ht hi
 have hp:pkOf ls i k=j:=by unfold pkOf;rw[hk,Option.bind_some,g1];rfl
 have e:=wj ht g2
 have f:=qE ht g2
 have s1:=(AA hv o (i-l.t) (by omega)).1
 rw[show l.t+(i-l.t)=i by omega]at s1
 rw[hp]
 unfold cd ky
 rw[hk]
 simp only[map_some,Option.getD_some]
 refine⟨?_,?_,g3⟩
 ·rw[e];unfold stp;rw[s1]
 ·rw[f];split
  ·rfl
  ·rw[Int.neg_mul]
theorem fc_b (l:Lt) (i:Nat):gS ps l i=1\/gS ps l i= -1:=by unfold gS;omega
theorem Mu (hk:ls[k]?=some l) (ht:l.t<=i):ky ps ls i k<(ls.length:Int)*((i:Int)+1):=by
 unfold ky;rw[hk];simp only[map_some,Option.getD_some];have hl:=(List.getElem?_eq_some_iff.mp hk).1;have h1:(ls.length:Int)*(l.t:Int)<=(ls.length:Int)*(i:Int):=Int.mul_le_mul_of_nonneg_left (by omega) (by omega);have h0:0<=(ls.length:Int)*(l.t:Int):=Int.mul_nonneg (by omega) (by omega);rw[Int.mul_add (ls.length:Int) (i:Int) 1,Int.mul_one];generalize (ls.length:Int)*(l.t:Int)=x at*;generalize (ls.length:Int)*(i:Int)=y at*;rcases fc_b l i with e|e<;>rw[e]<;>omega
theorem jC (hk:ls[k]?=some l) (ht:l.t=i):cd ps ls i k=ahd ps i-1/\ky ps ls i k=(k:Int)+(ls.length:Int)*(i:Int):=by
 have hg:nb ps l i=[]:=by unfold nb;rw[show i-l.t=0 by omega];rfl
 unfold cd ky stAt gS;rw[hk];simp only[map_some,Option.getD_some,hg];subst ht;constructor
 ·rfl
 ·simp[piles]
theorem ly (ls:List Lt) (t:Nat):(fT ls t).Pairwise (·<·):=by
 have h:(ls.zipIdx.map (·.2)).Pairwise (·<·):=by rw[List.zipIdx_map_snd];exact List.pairwise_lt_range' ..
 exact h.sublist (List.Sublist.map _ List.filter_sublist)
theorem xI {p:List Pk} (g:Nat->List Nat):p.zip ((List.range p.length).map g)=(List.range p.length).map λj=>(p[j]?.getD (true,0),g j):=by
 apply List.ext_getElem?;intro j;rw[getElem?_map];by_cases hj:j<p.length
 ·rw[List.getElem?_range hj];have z:(p.zip ((List.range p.length).map g))[j]?=some (p[j],g j):=List.getElem?_zip_eq_some.mpr ⟨getElem?_eq_getElem hj,by rw[getElem?_map,List.getElem?_range hj];rfl⟩;rw[z,map_some,getElem?_eq_getElem hj];rfl
 ·rw[List.getElem?_eq_none (by rw[List.length_zip,length_map,length_range];omega),List.getElem?_eq_none (by rw[length_range];omega)];rfl
theorem pD (hv:Valid ps) (h:∀l∈ls,LtOk ps l):∀ (i:Nat),i<=ps.length->(rowAt ps ls i).Pairwise (pLt ps ls i)
 |0,_=>by
  refine(List.Pairwise.and_mem.mp (ly ls 0)).imp λ{a b} ⟨ha,hb,hab⟩=>?_;obtain⟨la,x1,x2⟩:=mem_join.mp ha;obtain⟨lb,y1,y2⟩:=mem_join.mp hb;obtain⟨c1,k1⟩:=jC (ps:=ps) x1 x2;obtain⟨c2,k2⟩:=jC (ps:=ps) y1 y2;exact .inr ⟨by rw[c1,c2],by rw[k1,k2];omega⟩
 |i+1,hi=>by
  have ih:=pD hv h i (by omega);have hil:i<ps.length:=by omega
  have mem:=wg h i (Nat.le_of_lt hil);have hA:=l5 hv i;have hpg:ps[i]?.getD []=ps[i]:=by rw[getElem?_eq_getElem hil];rfl
  have info:∀k∈rowAt ps ls i,∃l,ls[k]?=some l/\l.t<=i:=λk hk=>(mem k).mp hk;show(b0 (ps[i]?.getD []) (bC ls i (ps[i]?.getD []).length (rowAt ps ls i))++fT ls (i+1)).Pairwise _;rw[hpg];rw[List.pairwise_append];refine⟨?_,?_,?_⟩
  ·unfold b0 bC;rw[xI,List.map_map,List.pairwise_flatten];constructor
   ·intro r hr;obtain⟨j,hj,rfl⟩:=List.mem_map.mp hr;have hq:((rowAt ps ls i).filter λk=>decide (pkOf ls i k=j)).Pairwise (pLt ps ls i):=ih.sublist List.filter_sublist;have hm:∀k∈((rowAt ps ls i).filter λk=>decide (pkOf ls i k=j)),pkOf ls i k=j/\∃l,ls[k]?=some l/\l.t<=i:=λk hk=>⟨by simpa using (List.mem_filter.mp hk).2,info k (List.mem_filter.mp hk).1⟩;show(turnN _).Pairwise _;unfold turnN;simp only;cases hb:(ps[i][j]?.getD (true,0)).1 with
    |true=>
     simp only[if_true];refine(List.Pairwise.and_mem.mp hq).imp λ{a b} ⟨ha,hb',hab⟩=>?_;obtain⟨pa,la,x1,x2⟩:=hm a ha;obtain⟨pb,lb,y1,y2⟩:=hm b hb';obtain⟨c1,k1,_⟩:=dq hv h x1 x2 hil;obtain⟨c2,k2,_⟩:=dq hv h y1 y2 hil;have e:(pkAt (j,ps[i])).1=true:=hb;rw[pa,e]at c1 k1;rw[pb,e]at c2 k2;simp only[lay,if_true]at c1 c2 k1 k2;unfold pLt at hab⊢;rw[c1,c2,k1,k2];omega
    |false=>
     simp only[Bool.false_eq_true,if_false];rw[List.pairwise_reverse];refine(List.Pairwise.and_mem.mp hq).imp λ{a b} ⟨ha,hb',hab⟩=>?_;obtain⟨pa,la,x1,x2⟩:=hm a ha;obtain⟨pb,lb,y1,y2⟩:=hm b hb';obtain⟨c1,k1,_⟩:=dq hv h x1 x2 hil;obtain⟨c2,k2,_⟩:=dq hv h y1 y2 hil;have e:(pkAt (j,ps[i])).1=false:=hb;rw[pa,e]at c1 k1;rw[pb,e]at c2 k2;simp only[lay,Bool.false_eq_true,if_false]at c1 c2 k1 k2;unfold pLt at hab⊢;rw[c1,c2,k1,k2];omega
   ·rw[List.pairwise_map];refine(List.pairwise_lt_range (n:=ps[i].length)).imp λ{j1 j2} hj=>?_;intro a ha b hb;have ma:∀ (j k:Nat),k∈(turnN∘λj=>(ps[i][j]?.getD (true,0),(rowAt ps ls i).filter λk=>decide (pkOf ls i k=j))) j->pkOf ls i k=j/\∃l,ls[k]?=some l/\l.t<=i:=λj k hk=>by
     have hk':k∈(rowAt ps ls i).filter λk=>decide (pkOf ls i k=j):=by
      have:k∈turnN (ps[i][j]?.getD (true,0),(rowAt ps ls i).filter λk=>decide (pkOf ls i k=j)):=hk;unfold turnN at this;split at this
      ·exact this
      ·exact List.mem_reverse.mp this
     exact⟨by simpa using (List.mem_filter.mp hk').2,info k (List.mem_filter.mp hk').1⟩
    obtain⟨pa,la,x1,x2⟩:=ma j1 a ha;obtain⟨pb,lb,y1,y2⟩:=ma j2 b hb;obtain⟨c1,_,_⟩:=dq hv h x1 x2 hil;obtain⟨c2,_,_⟩:=dq hv h y1 y2 hil;obtain⟨z1,z2⟩:=pC hv h x1 x2 (Nat.le_of_lt hil);obtain⟨w1,w2⟩:=pC hv h y1 y2 (Nat.le_of_lt hil);rw[pa]at c1;rw[pb]at c2;have l1:lay (pkAt (j1,ps[i])).1 (ahd ps i) (cd ps ls i a)<ahd ps i:=by unfold lay;split<;>omega
    have l2:0<=lay (pkAt (j2,ps[i])).1 (ahd ps i) (cd ps ls i b):=by unfold lay;split<;>omega
    have m:((j1:Int)+1)*ahd ps i<=(j2:Int)*ahd ps i:=Int.mul_le_mul_of_nonneg_right (by omega) (Int.le_of_lt hA);rw[Int.add_mul,Int.one_mul]at m;exact .inl (by rw[c1,c2];omega)
  ·refine(List.Pairwise.and_mem.mp (ly ls (i+1))).imp λ{a b} ⟨ha,hb,hab⟩=>?_;obtain⟨la,x1,x2⟩:=mem_join.mp ha;obtain⟨lb,y1,y2⟩:=mem_join.mp hb;obtain⟨c1,k1⟩:=jC (ps:=ps) x1 x2;obtain⟨c2,k2⟩:=jC (ps:=ps) y1 y2;exact .inr ⟨by rw[c1,c2],by rw[k1,k2];omega⟩
  ·intro a ha b hb;have pm:=ki (ls:=ls) (step:=i) (p:=ps[i]) (row:=rowAt ps ls i) λk hk=>by
    obtain⟨l,x,y⟩:=info k hk;exact(dq hv h x y hil).2.2
   obtain⟨la,x1,x2⟩:=info a (pm.mem_iff.mp ha);obtain⟨lb,y1,y2⟩:=mem_join.mp hb;obtain⟨c2,k2⟩:=jC (ps:=ps) y1 y2;obtain⟨z1,z2⟩:=pC hv h x1 (show la.t<=i+1 by omega) hi;by_cases e:cd ps ls (i+1) a=ahd ps (i+1)-1
   ·refine .inr ⟨by rw[e,c2],?_⟩;rw[k2];obtain⟨_,k1,_⟩:=dq hv h x1 x2 hil;have kb:=Mu (ps:=ps) x1 x2;have kb2:- ky ps ls i a<(ls.length:Int)*((i:Int)+1):=by
     unfold ky at kb⊢;rw[x1]at kb⊢;simp only[map_some,Option.getD_some]at kb⊢;have hl:a<ls.length:=(List.getElem?_eq_some_iff.mp x1).1;have h1:(ls.length:Int)*(la.t:Int)<=(ls.length:Int)*(i:Int):=Int.mul_le_mul_of_nonneg_left (by omega) (by omega);have h0:0<=(ls.length:Int)*(la.t:Int):=Int.mul_nonneg (by omega) (by omega);rw[Int.mul_add (ls.length:Int) (i:Int) 1,Int.mul_one];generalize (ls.length:Int)*(la.t:Int)=x at*;generalize (ls.length:Int)*(i:Int)=y at*;rcases fc_b (ps:=ps) la i with e|e<;>rw[e]<;>omega
    rw[k1];have e3:((i+1:Nat):Int)=(i:Int)+1:=rfl;rw[e3];split<;>omega
   ·exact .inl (by rw[c2];omega)
theorem Mv (hv:Valid ps) (o:LtOk ps l):(stAt ps l ps.length).2=kf ps l.t l.w/\gS ps l ps.length=eF ps l.t l.w:=by
 have hg:nb ps l ps.length=l.w.zip (ps.drop l.t):=by
  apply List.take_of_length_le;rw[List.length_zip,List.length_drop];omega
 unfold stAt gS kf eF;rw[hg];exact⟨rfl,rfl⟩
end
theorem evX_cat {R L Sp} (h:R (vw Y)=none) (hl:L (vw Y)=some ds) (fl:lfL ds=true):evX R L Sp Y=some ((.deep,.lst ds),Y):=by
 unfold evX orO lE frX orO lfO js;simp only[h,hl,fl,Option.bind_some,Option.bind_none];rfl
def fU (fl:Str->Str->Bool):Ev->Option Out:=(af (frF (jX noV (flF fl "passes" (va 0))) (eNm 1) (af (ifS (trF (biF ue (aa (lsF (ak [2,3] (jX noV (va 1)) (gTp 2 (aK (gNm 2) (aK (gNm 3) b6))) tQ (ac (aQ false) (va 3) (cI 0)))) ae))) (af noO' nxE) nxE) nxE)) nxE)
def sw (aO:List D->Option Sl):Ev->Option Out:=(af (ifS (orQ (bP (trF (biF eX (aa (va 0) (aa (tpF (aa (cT "list") (aa (cT "tuple") ae))) ae))))) (aD (ac gtD (biF b8 (aa (va 0) ae)) (cD (.int 24))))) (af (cb (evX (cB false) noV noV)) nxE) nxE) (af (cb (evX (lB (biF mF (aa (lsF (ak [1] (jX noV (va 0)) (gNm 1) tQ (clF aO (aa (va 1) (aa (cI 0) (aa (ac ga (biF b8 (aa (va 0) ae)) (cI 1)) ae)))))) ae)) (ac (aQ false) (liG (aa (va 0) ae) (s1F (aa (va 0) ae))) (liG (aa (biF noD (aa (biF b8 (aa (va 0) ae)) ae)) ae) (orO (lrF (aa (biF b8 (aa (va 0) ae)) ae)) (l1F (aa (biF noD (aa (biF b8 (aa (va 0) ae)) ae)) ae)))))) noV noV)) nxE))
def jD:Ev->Option Out:=(af (cb (evX (lsF (ak [1] (jX noV (va 0)) (gNm 1) tQ (tpF (aa (cI 1) (aa (cI 0) ae))))) (ak [1] (jX noV (va 0)) (gNm 1) tQ (tpF (aa (cI 1) (aa (cI 0) ae)))) (fCo [1] (jX noV (va 0)) (gNm 1) tQ (frX (tpF (aa (cI 1) (aa (cI 0) ae))) noV (fTp (aa (frX (cI 1) noV noV) (aa (frX (cI 0) noV noV) ae))))))) nxE)
def gv (bT:List D->Option Sl) (c5:List D->Option Sl) (cj:List D->Option Sl):Ev->Option Out:=(af (cX (clF cj (aa (va 0) ae))) (af (ifS (aD (ac gtD (biF b8 (aa (va 1) ae)) (cD (.int 24)))) (af noO' nxE) nxE) (af (cX (clF c5 (aa (va 0) (aa (clF bT (aa (va 1) ae)) (aa (va 1) ae))))) nxE)))
def ng (fl:Str->Str->Bool) (bT:List D->Option Sl) (hU:List D->Option Sl) (fW:List D->Option Sl) (jN:List D->Option Sl) (aU:List D->Option Sl):Ev->Option Out:=(af (cX (clF aU (aa (va 0) (aa (va 1) ae)))) (af (ifS (orQ (bP (trF (clF jN (aa (va 2) ae)))) (aD (ac (aQ true) (biF b8 (aa (va 2) ae)) (biF b8 (aa (va 1) ae))))) (af noO' nxE) nxE) (af (aP 3 (evX (liF (aa (va 2) ae)) (l1F (aa (va 2) ae)) (fNo (aa (va 2) ae)))) (af (frF (jX (enF (aa (flF fl "passes" (va 0)) ae)) (biF noD (aa (flF fl "passes" (va 0)) ae))) (eTp 2 (cm (eNm 4) (cm (eNm 5) j4))) (af (aP 3 (evX (clF fW (aa (va 5) (aa (clF hU (aa (clF bT (aa (va 1) ae)) (aa (va 1) (aa (va 4) (aa (va 5) (aa (va 3) ae)))))) ae))) noV (fCl fW (aa (va 5) (aa (clF hU (aa (clF bT (aa (va 1) ae)) (aa (va 1) (aa (va 4) (aa (va 5) (aa (va 3) ae)))))) ae))))) nxE)) (af (rtN 3) nxE)))))
section
variable {G F:Ev->Option Out} {Y Y':Ev} {out:Option Out}
theorem q_set (h:g Y=some (s,Y')) (k:G (Y'.set i (some s))=out):af (aP i g) G Y=out:=(ao (bm h)).trans k
theorem qF (h:f (vw Y)=some d) (k:G Y=out):af (cX f) G Y=out:=(ao (eE h)).trans k
theorem q_if0 (h:c (vw Y)=some false) (k:G Y=out):af (ifS c F nxE) G Y=out:=(ao ((c3 h).trans rfl)).trans k
theorem nh (h:F Y=some (.nx Y')) (k:G Y'=out):af F G Y=out:=(ao h).trans k
theorem q_ret (h:g Y=some (s,Y')):af (cb g) G Y=some (.rt s):=aJ (bg h)
theorem Ka (I:Nat->Ev->Prop) (hJ:J (shv Y)=some ds) (h0:I 0 Y) (hs:∀ (i:Nat) (d:D) (Y:Ev),ds[i]?=some d->I i Y->∃Y',(tg d Y).bind F=some (.nx Y')/\I (i+1) Y') (k:∀Y',I ds.length Y'->G Y'=out):af (frF J tg F) G Y=out:=by
 obtain⟨Y',e,i⟩:=dm I hJ h0 hs;exact(ao e).trans (k _ i)
theorem uK {β:Type} {xs:List β} {mk} (I:Nat->Ev->Prop) (hJ:J (shv Y)=some (xs.map mk)) (h0:I 0 Y) (hs:∀ (i:Nat) (x:β) (Y:Ev),xs[i]?=some x->I i Y->∃Y',(tg (mk x) Y).bind F=some (.nx Y')/\I (i+1) Y') (k:∀Y',I xs.length Y'->G Y'=out):af (frF J tg F) G Y=out:=Ka I hJ h0 (λi d Y hd hi=>by
 rw[getElem?_map]at hd;cases hx:xs[i]? with
 |none=>rw[hx]at hd;cases hd
 |some x=>rw[hx]at hd;cases hd;exact hs i x Y hx hi) (by rw[length_map];exact k)
theorem GW {β:Type} {xs:List β} {mk} (I:Nat->Ev->Prop) (hJ:J (shv Y)=some (xs.map mk)) (h0:I 0 Y) (hs:∀ (i:Nat) (x:β) (Y:Ev),xs[i]?=some x->I i Y->∃Y',(tg (mk x) Y).bind F=some (.nx Y')/\I (i+1) Y'):
  ∃Y',af (frF J tg F) nxE Y=some (.nx Y'):=by
 obtain⟨Y',e,i⟩:=dm I hJ h0 (λi d Y hd hi=>by
  rw[getElem?_map]at hd;cases hx:xs[i]? with
  |none=>rw[hx]at hd;cases hd
  |some x=>rw[hx]at hd;cases hd;exact hs i x Y hx hi)
 exact⟨Y',(ao e).trans rfl⟩
theorem Kb {v:Nat->Int} (I:Nat->Ev->Prop) (hJ:J (shv Y)=some ((List.range n).map λi=>D.int (v i))) (h0:I 0 Y) (hs:∀ (i:Nat) (Y:Ev),i<n->I i Y->∃Y',F (Y.set s (some (.sh,.int (v i))))=some (.nx Y')/\I (i+1) Y') (k:∀Y',I n Y'->G Y'=out):af (frF J (eNm s) F) G Y=out:=by
 obtain⟨Y',e,i⟩:=ff (s:=s) (F:=F) I hJ h0 hs;exact(ao e).trans (k _ i)
theorem GX (h:J (shv Y)=none) (e:gw J tg F (frzS [i] Y)=some x):frY i J tg F Y=some x:=by
 unfold frY orO;rw[show gw J tg F Y=none by unfold gw;rw[h];rfl];simp only[e]
end
theorem iZ:∀r:List Nat,dZ (r.map λ(k:Nat)=>D.int (k:Int))=some (r.map λ(k:Nat)=>(k:Int))
 |[]=>rfl
 |k::r=>by
  show(dZ (r.map λ(k:Nat)=>D.int (k:Int))).bind (λxs=>some ((k:Int)::xs))=_;rw[iZ r];rfl
theorem Db {r:List Nat} (h:r.Perm (List.range n)):gx (r.map λ(k:Nat)=>(k:Int))=(List.range n).map λ(k:Nat)=>(k:Int):=by
 refine(ud (h.symm.map _) ?_).symm;rw[List.pairwise_map];exact List.pairwise_lt_range.imp λh=>by omega
theorem AB (h:r.Perm (List.range n)) (hn:n<=24):vC [aw r]=some ((List.range n).map λ(k:Nat)=>D.int (k:Int)):=by
 show((dZ (r.map λ(k:Nat)=>D.int (k:Int))).bind λns=>if ns.length<64 then some ((gx ns).map D.int)else none)=_;rw[iZ];simp only[Option.bind_some];have hl:r.length=n:=by rw[h.length_eq,length_range]
 rw[if_pos (by rw[length_map];omega),Db h,List.map_map];rfl
theorem GY {n:Nat} (hn:n<=24):lrD [.int (n:Int)]=some ((List.range n).map λ(k:Nat)=>D.int (k:Int)):=by
 show(if inR (n:Int)/\(n:Int)<1000000 then some (lC 0 (n:Int).toNat)else none)=_;rw[if_pos ⟨vV (by omega),by omega⟩,Int.toNat_natCast,uE]
theorem i6:∀r:List Nat,okL (r.map λ(k:Nat)=>D.int (k:Int))=true/\dP (r.map λ(k:Nat)=>D.int (k:Int))=0
 |[]=>⟨rfl,rfl⟩
 |k::r=>⟨by show(true&&okL _)=true;rw[(i6 r).1];rfl,by show max 0 (dP _)=0;rw[(i6 r).2];rfl⟩
theorem qG (neg:Bool) (h2:okE d=true) (h3:dep d<=50) (h4:Fm d d=true) (h1:bq d=false):aQ neg d d=some (.bl (!neg)):=by
 unfold aQ jq;rw[show(bq d&&bq d&&xU (toV d) (toV d))=false by rw[h1];rfl,if_neg (by decide),h2,h4,decide_eq_true h3,if_pos (by rfl),rF _ h2];cases neg<;>rfl
theorem GZ (neg:Bool) (r:List Nat):aQ neg (aw r) (aw r)=some (.bl (!neg)):=qG neg (i6 r).1 (by show dP _+1<=50;rw[(i6 r).2];decide) rfl rfl
theorem sx (h:L Y=some ds):liG xs L Y=some (.lst ds):=by
 unfold liG orO lsF;have:(xs Y).bind noD=none:=by cases xs Y<;>rfl
 simp only[this,h];rfl
theorem Kc (hn:n<=24) (h:ys Y=some [.int (n:Int)]):orO (lrF ys) zs Y=some ((List.range n).map λ(k:Nat)=>D.int (k:Int)):=by
 have:lrF ys Y=some ((List.range n).map λ(k:Nat)=>D.int (k:Int)):=by
  unfold lrF;rw[h];exact GY hn
 unfold orO;rw[this]
theorem sy {β:Type} (xs:List β) (p:β->Bool):ue [.lst (xs.map λx=>.bl (p x))]=some (.bl (xs.any p)):=by
 have e:xs.map (λx=>D.bl (p x))=(xs.map p).map D.bl:=by rw[List.map_map];rfl
 rw[e];unfold ue un1;simp only[fN,Option.bind_some];rw[mU];simp[List.any_map];rfl
def Wide (ps:List (List Pk)):Prop:=∀p∈ps,∀k∈p,1<=k.2
def Ha (f:List D->Option Sl):Prop:=∀ps:List (List Pk),Valid ps->Wide ps->f [ah ps]=some (.deep,.non)
theorem Kd (hfl:fl "Mill" "passes"=true):Ha (aX 1 4 (fU fl)):=λps hv hw=>by
 have hf:iE fl "passes" (ah ps)=some (ai ps):=by simp[iE,ah,hfl]
 have L:∃Y',fU fl [some (.sh,ah ps),none,none,none]=some (.nx Y'):=by
  refine GW (xs:=ps) (mk:=tpD) (λi Y=>∃o1,Y=[some _,o1,none,none]) ?_ ⟨none,rfl⟩ ?_
  ·simp only[bn,gO,dA,eY,rY,aG,aj,Option.bind_some,hf];rfl
  ·rintro i p Y hp ⟨o1,rfl⟩;have hpl:=(hv.p (mem_of_getElem? hp)).2.1;have hm:ak [2,3] (jX noV (va 1)) (gTp 2 (aK (gNm 2) (aK (gNm 3) b6))) tQ (ac (aQ false) (va 3) (cI 0)) [some (ah ps),some (tpD p),none,none]=some (p.map λ_=>.bl false):=by
    refine aN (by simp only[bn,aG,ay,Option.bind_some];rfl) (λk hk=>?_) (lt_of_le_of_lt hpl (by decide));have h1:¬k.2=0:=by have:=hw p (mem_of_getElem? hp) k hk;omega
    show gI _ _ _ _ (.tup [.str (kd k.1),.int k.2])=_;simp[h1]
   refine⟨_,q_if0 ?_ rfl,⟨some _,rfl⟩⟩;simp only[set_cons_succ,set_cons_zero,az,aB,aA,fR,br,ag,am,bz,hm,map_some,Option.bind_some,sy p λ_=>false];simp
 obtain⟨Y',e⟩:=L;exact eC rfl e
def uL (f:List D->Option Sl):Prop:=∀ (r:List Nat) (n:Nat),r.Perm (List.range n)->n<=24->f [aw r]=some (.deep,.bl true)
theorem Dc (hw:eZ w):uL (aX 1 2 (sw w)):=λr n pm hn=>by
 have hs:aL 2 [aw r]=[some (.sh,aw r),none]:=rfl;have hl:r.length=n:=by rw[pm.length_eq,length_range]
 have y:seqD (aw r)=some (r.map λ(k:Nat)=>D.int (k:Int)):=rfl;have hm:ak [1] (jX noV (va 0)) (gNm 1) tQ (clF w (aa (va 1) (aa (cI 0) (aa (ac ga (biF b8 (aa (va 0) ae)) (cI 1)) ae)))) [some (aw r),none]=some (r.map λ_=>.bl true):=by
  refine aN (xs:=r) (mk:=λ(k:Nat)=>D.int (k:Int)) (out:=λ_=>.bl true) (by simp only[bn,aG,aj,Option.bind_some,y]) (λk hk=>?_) (lt_of_le_of_lt (by omega:r.length<=24) (by decide));have h1:=List.mem_range.mp (pm.mem_iff.mp hk);have h2:(0:Int)<=(k:Int):=by omega
  have h3:(k:Int)<=(r.length:Int)-1:=by omega
  simp only[bR,bu,bL,eB,lG,set_cons_succ,set_cons_zero,Option.bind_some,if_true,clF_a,ag,am,aG,aj,ay,db,aF,br,bE,y,length_map,lV,hw (k:Int) 0 ((r.length:Int)-1),aM,h2,h3,decide_true];rfl
 have s1:s1F (aa (va 0) ae) [some (aw r),none]=some ((List.range n).map λ(k:Nat)=>D.int (k:Int)):=by
  unfold s1F orO;simp only[ag,am,aG,aj,Option.bind_some,AB pm hn]
 refine aC rfl ?_;rw[hs];unfold sw;have h24:¬ (24:Int)<(r.length:Int):=by omega
 refine q_if0 ?_ (q_ret (evX_lf ?_ rfl))
 ·simp only[az,aB,aA,mR,notQ_a,fR,bb,aF,br,ag,am,aG,aj,mP,CW,Gs,Option.bind_some,gh,JW,Gz,show cW (aw r)=some "list"from rfl,List.any_cons,List.any_nil,GA,iw,bE,y,length_map,uD,bQ,h24,decide_false];rfl
 ·simp only[az,aB,aA,uB,br,ag,am,bz,hm,map_some,Option.bind_some,eD r λ_=>true,bQ];rw[show(r.all λ_=>true)=true by simp];simp only[if_true,aF];rw[sx s1,sx (Kc hn (by simp only[ag,am,br,aG,aj,Option.bind_some,bE,y,length_map,hl]))];exact GZ false (List.range n)
def Dd (f:List D->Option Sl):Prop:=∀ (u:Bool) (ls:List Lt),ls.length<=24->(∀l∈ls,l.s=1/\l.t=0)->f [plD u ls]=some (.deep,lsD true ls)
theorem De (ls:List Lt):lfL (ls.map jB)=true:=cA λd hd=>by
 obtain⟨p,_,rfl⟩:=List.mem_map.mp hd;rfl
theorem Ke:Dd (aX 1 2 jD):=λu ls h24 h=>by
 have hs:aL 2 [plD u ls]=[some (.sh,plD u ls),none]:=rfl;have hm:ak [1] (jX noV (va 0)) (gNm 1) tQ (tpF (aa (cI 1) (aa (cI 0) ae))) [some (plD u ls),none]=some (ls.map jB):=by
  refine aN (xs:=ls) (mk:=λl=>wD l.w) (out:=jB) (by simp only[bn,aG,aj,Option.bind_some];exact dQ _ _) (λl hl=>?_) (lt_of_le_of_lt h24 (by decide));unfold jB;rw[(h l hl).1,(h l hl).2];simp
 refine aC rfl ?_;rw[hs];unfold jD;exact q_ret (evX_lfs (d:=lsD true ls) (by simp only[az,aB,aA,bz,hm];rfl) rfl (by simp only[az,aB,aA,hm]) (De ls))
structure One (ps:List (List Pk)) (l:Lt):Prop where
 s:l.s=1
 t:l.t=0
 w:WordOk ps 0 l.w
theorem One.ok (h:One ps l) (hw:Wide ps):LtOk ps l:=by
 refine⟨by rw[h.s];decide,by rw[h.s];decide,by rw[h.t];exact Nat.zero_le _,by rw[h.t];exact h.w,λq hq=>?_⟩;rw[h.t]at hq;rw[h.s];have h1:=h.w.each q hq;have h2:q.2∈ps:=by have:=(List.of_mem_zip hq).2;simpa using this
 have e:=getElem?_eq_getElem h1;unfold pkAt;rw[e];exact hw _ h2 _ (List.getElem_mem h1)
def AC (f:List D->Option Sl):Prop:=∀ (u:Bool) (ps:List (List Pk)) (ls:List Lt),Valid ps->Wide ps->ls.length<=24->(∀l∈ls,One ps l)->f [ah ps,plD u ls]=some (.deep,.non)
theorem Kf {lo lp wi} (h1:Dd lo) (h2:qD lp) (h3:Ha wi):AC (aX 2 2 (gv lo lp wi)):=λu ps ls hv hw h24 h=>by
 have hs:aL 2 [ah ps,plD u ls]=[some (.sh,ah ps),some (.sh,plD u ls)]:=rfl;have e1:=h1 u ls h24 λl hl=>⟨(h l hl).s,(h l hl).t⟩;have e2:=h2 true u ps ls hv h24 λl hl=>(h l hl).ok hw;have e3:=h3 ps hv hw;have y:seqD (plD u ls)=some (ls.map λl=>wD l.w):=dQ _ _;have h':¬ (24:Int)<(ls.length:Int):=by omega
 refine eC (Y:=[some (.sh,ah ps),some (.sh,plD u ls)]) rfl ?_;rw[hs];unfold gv;refine qF (d:=.non) ?_ (q_if0 ?_ (qF (d:=.non) ?_ rfl))
 ·simp only[az,aA,clF_a,ag,am,aG,aj,Option.bind_some,e3,aM]
 ·simp only[az,aA,bb,aF,br,ag,am,aG,ay,Gs,Option.bind_some,bE,y,length_map,uD,bQ,h',decide_false]
 ·simp only[az,aA,clF_a,ag,am,aG,aj,ay,Option.bind_some,e1,e2,aM]
def aZ (ps:List (List Pk)) (ls:List Lt) (row:List Nat):Nat->List Nat
 |0=>row
 |i+1=>b0 (ps[i]?.getD []) (bC ls i (ps[i]?.getD []).length (aZ ps ls row i))
theorem dR (h:∀l∈ls,LtOk ps l) (h0:∀l∈ls,l.t=0) (pm:row.Perm (List.range ls.length)):∀ (i:Nat),i<=ps.length->(aZ ps ls row i).Perm row
 |0,_=>.refl _
 |i+1,hi=>by
  have ih:=dR h h0 pm i (by omega);refine(ki (ls:=ls) (step:=i) (p:=ps[i]?.getD []) (row:=aZ ps ls row i) λk hk=>?_).trans ih;have hk2:k<ls.length:=List.mem_range.mp (pm.mem_iff.mp (ih.mem_iff.mp hk));have e:ls[k]?=some ls[k]:=getElem?_eq_getElem hk2;obtain⟨j,_,c,d⟩:=Ay h e (by rw[h0 _ (List.getElem_mem hk2)];exact Nat.zero_le _) (show i<ps.length by omega);rw[d];exact c
theorem wk (h:∀l∈ls,LtOk ps l) (h0:∀l∈ls,l.t=0) (pm:row.Perm (List.range ls.length)) (hp:ps[i]?=some p):Aw ls i p.length (aZ ps ls row i):=λk hk=>by
 have hi:i<ps.length:=(List.getElem?_eq_some_iff.mp hp).1;have hk2:k<ls.length:=List.mem_range.mp (pm.mem_iff.mp ((dR h h0 pm i (by omega)).mem_iff.mp hk));have e:ls[k]?=some ls[k]:=getElem?_eq_getElem hk2;have ht:ls[k].t<=i:=by rw[h0 _ (List.getElem_mem hk2)];exact Nat.zero_le _
 obtain⟨j,c,d,_⟩:=Ay h e ht hi;rw[hp]at d;exact⟨_,j,e,ht,c,d⟩
def AD (f:List D->Option Sl):Prop:=∀ (u:Bool) (ps:List (List Pk)) (ls:List Lt) (row:List Nat),Valid ps->Wide ps->ls.length<=24->(∀l∈ls,One ps l)->row.Perm (List.range ls.length)->f [ah ps,plD u ls,aw row]=some (.deep,aw (aZ ps ls row ps.length))
theorem Hb {fl lo fi em ir lw} (hfl:fl "Mill" "passes"=true) (h1:Dd lo) (h2:Ax fi) (h3:uJ em) (h4:uL ir) (h5:AC lw):AD (aX 3 6 (ng fl lo fi em ir lw)):=λu ps ls row hv hw h24 h pm=>by
 have hs:aL 6 [ah ps,plD u ls,aw row]=[some (.sh,ah ps),some (.sh,plD u ls),some (.sh,aw row),none,none,none]:=rfl;have hf:iE fl "passes" (ah ps)=some (ai ps):=by simp[iE,ah,hfl]
 have ok:=λl hl=>(h l hl).ok hw;have t0:=λl hl=>(h l hl).t;have e1:=h1 u ls h24 λl hl=>⟨(h l hl).s,(h l hl).t⟩;have e4:=h4 row ls.length pm h24;have e5:=h5 u ps ls hv hw h24 h;have hrl:row.length=ls.length:=by rw[pm.length_eq,length_range]
 have yp:seqD (plD u ls)=some (ls.map λl=>wD l.w):=dQ _ _;have yr:seqD (aw row)=some (row.map λ(k:Nat)=>D.int (k:Int)):=rfl;refine aC rfl ?_;rw[hs];unfold ng;refine qF (d:=.non) ?_ (q_if0 ?_ (q_set (evX_lfs (d:=aw row) (ds:=row.map λ(k:Nat)=>D.int (k:Int)) ?_ rfl ?_ (kg row))
  (uK (xs:=ps.zipIdx) (mk:=λp=>.tup [.int (p.2:Nat),tpD p.1]) (λi Y=>∃o4 o5,Y=[some (.sh,ah ps),some (.sh,plD u ls),some (.sh,aw row),some (.deep,aw (aZ ps ls row i)),o4,o5]) ?_ ⟨none,none,rfl⟩ ?_ ?_)))
 ·simp only[az,aB,aA,clF_a,ag,am,aG,aj,ay,Option.bind_some,e5,aM]
 ·simp only[az,aB,aA,mR,notQ_a,fR,bb,aF,clF_a,br,ag,am,aG,av,aj,ay,Option.bind_some,e4,aM,iw,map_some,bE,yp,yr,length_map,hrl,iK,bQ];simp
 ·simp only[az,aB,aA,vS,ag,am,aG,av,aj,ay,Option.bind_some,lW,yr,map_some];rfl
 ·simp only[az,aB,aA,vR,ag,am,aG,av,aj,ay,Option.bind_some,lW,yr]
 ·refine D8 ?_;simp only[set_cons_succ,set_cons_zero,gO,dA,eY,eu,ag,aG,rY,av,aj,ay,am,Option.bind_some,hf];show(seqD (ai ps)).bind (λxs=>some (lh xs))=_;rw[show seqD (ai ps)=some (ps.map tpD)from rfl,Option.bind_some,pk]
 ·rintro i ⟨p,j⟩ Y hd ⟨o4,o5,rfl⟩;rw[List.getElem?_zipIdx]at hd;cases hp:ps[i]? with
  |none=>rw[hp]at hd;cases hd
  |some p'=>
   rw[hp]at hd;simp only[map_some,Nat.zero_add,Option.some.injEq,Prod.mk.injEq]at hd;obtain⟨rfl,rfl⟩:=hd;have hil:i<ps.length:=(List.getElem?_eq_some_iff.mp hp).1;have hpl:p'.length<=6:=(hv.p (mem_of_getElem? hp)).2.1;have hwl:(aZ ps ls row i).length<=24:=by rw[(dR ok t0 pm i (by omega)).length_eq];omega
   have y1:=h2 true u ls i p' (aZ ps ls row i) h24 hwl hpl (wk ok t0 pm hp);have y2:=h3 p' (bC ls i p'.length (aZ ps ls row i)) hpl (λx hx=>by
    unfold bC at hx;obtain⟨j,_,rfl⟩:=List.mem_map.mp hx;exact Nat.le_trans (List.length_filter_le _ _) hwl)
   have er:aZ ps ls row (i+1)=b0 p' (bC ls i p'.length (aZ ps ls row i)):=by
    show b0 _ _=_;rw[hp];rfl
   have arg:∀ (F:List D->Option Sl),(aa (va 5) (aa (clF fi (aa (clF lo (aa (va 1) ae)) (aa (va 1) (aa (va 4) (aa (va 5) (aa (va 3) ae)))))) ae) [some (ah ps),some (plD u ls),some (aw row),some (aw (aZ ps ls row i)),some (.int (i:Nat)),some (tpD p')])=some [tpD p',bF (bC ls i p'.length (aZ ps ls row i))]:=λF=>by
    simp only[clF_a,ag,am,aG,av,aj,ay,Option.bind_some,e1,y1,aM]
   refine⟨_,q_set (evX_call (d:=aw (aZ ps ls row (i+1))) (e:=aw (aZ ps ls row (i+1))) ?_ rfl rfl ?_) rfl,⟨some (.sh,.int (i:Nat)),some (.sh,tpD p'),rfl⟩⟩
   ·simp only[set_cons_succ,set_cons_zero,az,aB,aA,clF_a (f:=em)];rw[arg em,Option.bind_some,y2,er];rfl
   ·simp only[set_cons_succ,set_cons_zero,az,aB,aA,fCl_a (f:=em)];rw[arg em,Option.bind_some,y2,er];rfl
 ·rintro Y' ⟨o4,o5,rfl⟩;rw[List.length_zipIdx];exact rfl
theorem shv_o (o:Option Sl) (Y:Ev):shv (o::Y)=Fz o::shv Y:=rfl
@[simp] theorem Mw (a b c d:D):bZ (some [a,b,c,d])=some [a,b,c,d]:=cC (show 4<big by decide)
@[simp] theorem K5 (a b c d e f g h i j:D):bZ (some [a,b,c,d,e,f,g,h,i,j])=some [a,b,c,d,e,f,g,h,i,j]:=cC (show 10<big by decide)
section
variable {α:Type} {G F:Ev->Option Out} {Y Y':Ev} {out:α->Option Out} {P:α->Prop}
theorem sA (h:F Y=some (.nx Y')) (k:∃a,G Y'=out a/\P a):∃a,af F G Y=out a/\P a:=k.imp λ_ q=>⟨(ao h).trans q.1,q.2⟩
theorem AE (h:g Y=some (s,Y')) (k:∃a,G (Y'.set i (some s))=out a/\P a):∃a,af (aP i g) G Y=out a/\P a:=sA (bm h) k
theorem qH (h:f (vw Y)=some d) (k:∃a,G Y=out a/\P a):∃a,af (cX f) G Y=out a/\P a:=sA (eE h) k
theorem Kg (h:c (vw Y)=some false) (k:∃a,G Y=out a/\P a):∃a,af (ifS c F nxE) G Y=out a/\P a:=sA ((c3 h).trans rfl) k
theorem Mx {b:Bool} (h:c (vw Y)=some b) (k1:∃Y',(if b then F Y else F' Y)=some (.nx Y')/\∃a,G Y'=out a/\P a):∃a,af (ifS c F F') G Y=out a/\P a:=by
 obtain⟨Y',e,k⟩:=k1;cases b with
 |true=>exact sA ((jz h).trans e) k
 |false=>exact sA ((c3 h).trans e) k
theorem Kh {v:Nat->Int} (I:Nat->Ev->Prop) (hJ:J (shv Y)=some ((List.range n).map λi=>D.int (v i))) (h0:I 0 Y) (hs:∀ (i:Nat) (Y:Ev),i<n->I i Y->∃Y',F (Y.set s (some (.sh,.int (v i))))=some (.nx Y')/\I (i+1) Y') (k:∀Y',I n Y'->∃a,G Y'=out a/\P a):∃a,af (frF J (eNm s) F) G Y=out a/\P a:=by
 obtain⟨Y',e,i⟩:=ff I hJ h0 hs;exact sA e (k _ i)
theorem D9 {β:Type} {xs:List β} {mk} (I:Nat->Ev->Prop) (hJ:J (shv Y)=some (xs.map mk)) (h0:I 0 Y) (hs:∀ (i:Nat) (x:β) (Y:Ev),xs[i]?=some x->I i Y->∃Y',(tg (mk x) Y).bind F=some (.nx Y')/\I (i+1) Y') (k:∀Y',I xs.length Y'->∃a,G Y'=out a/\P a):∃a,af (frF J tg F) G Y=out a/\P a:=by
 obtain⟨Y',e,i⟩:=dm I hJ h0 (λi d Y hd hi=>by
  rw[getElem?_map]at hd;cases hx:xs[i]? with
  |none=>rw[hx]at hd;cases hd
  |some x=>rw[hx]at hd;cases hd;exact hs i x Y hx hi)
 rw[length_map]at i;exact sA e (k _ i)
theorem wl {P:Ev->Prop} (h:P Y):∃a,nxE Y=some (.nx a)/\P a:=⟨Y,rfl,h⟩
theorem Ki {P:Ev->Prop} (h:F' Y=some (.nx Y')) (p:P Y'):∃a,af F' nxE Y=some (.nx a)/\P a:=sA h (wl p)
end
abbrev dp (d:D):Option Sl:=some (.deep,d)
abbrev sn (d:D):Option Sl:=some (.sh,d)
abbrev iN (n:Nat):D:=.int (n:Int)
abbrev Fn:=List D->Option Sl
abbrev Fv:=Vv->Option D
abbrev Fx:=Vv->Option (List D)
abbrev evV (R:Fv):=evX R noV noV
abbrev evC (f:Fn) (xs:Fx):=evX (clF f xs) noV (fCl f xs)
abbrev evE:=evX (lsF (dpF ae)) (dpF ae) (fLs ae)
abbrev jR (xs:Fx):=jX (r1F xs) (biF noD xs)
abbrev rtF (g:Ev->Option (Sl×Ev)):=af (cb g) nxE
abbrev x1 (a:Fv):Fx:=aa a ae
abbrev x2 (a b:Fv):Fx:=aa a (x1 b)
abbrev x3 (a b c:Fv):Fx:=aa a (x2 b c)
abbrev x4 (a b c d:Fv):Fx:=aa a (x3 b c d)
abbrev x5 (a b c d e:Fv):Fx:=aa a (x4 b c d e)
abbrev lnF (a:Fv):Fv:=biF b8 (x1 a)
theorem tr {α:Type} {P:α->Prop} {f g} (h:P g) (e:f=g:=by kernel_rfl):P f:=e▸h
theorem Hc:x1 a Y=aa a ae Y:=rfl
theorem Kj:x2 a b Y=aa a (x1 b) Y:=rfl
theorem My:x3 a b c Y=aa a (x2 b c) Y:=rfl
end L2
namespace HD
open PySem PySem.W PyProof.Rows
abbrev S0 (w:World) (os:OsState):Shared:=⟨boot_heap w.params,Array.mk [],boot_drawn,boot_toks,os⟩
theorem left_of {Ya:World->α} {F:World->OsState->Shared} (o:∀w:World,(fencedOpening treeTable p w N).map (λs=>(s.heap,s.gens,s.drawn,s.toks))=some (boot_heap w.params,Array.mk [],boot_drawn,boot_toks)) (sz:∀w:World,(boot_heap w.params).isNs mainGlobals=true/\(boot_heap w.params).objs.size=m₀/\(boot_heap w.params).nsMap mainGlobals "__annotations__"=ann) (rn:∀w os,topRun treeTable p w m₀ ann M (S0 w os) (topStub p)=some (F w os)) (le:M<=N) (lk:∀w os,((staticsOk (importedModules p.main.body) (boot_heap w.params) (F w os).heap&&namesBound p (F w os).heap&&gensDone (F w os)&&laidKept (boot_heap w.params) (F w os).heap),openSeen q loose (importedModules p.main.body) Xt true (F w os),Yf (F w os))=(true,openGood q loose,Ya w)):
  LeftO p q loose Xt Yf Ya N:=by
 intro w
 obtain⟨s,e,e'⟩:=Option.map_eq_some_iff.mp (o w)
 cases s with
 |mk h gs d k os=>
 simp only[Prod.mk.injEq]at e'
 obtain⟨a1,a2,a3,a4⟩:=e'
 subst a1 a2 a3 a4
 obtain⟨z1,z2,z3⟩:=sz w
 have l:=lk w os
 simp only[Prod.mk.injEq]at l
 obtain⟨l1,l2,l3⟩:=l
 have r:=topRun_mono (N-M) _ _ _ _ (rn w os)
 rw[show M+(N-M)=N from Nat.add_sub_cancel' le]at r
 have t:topFrom treeTable p w N (S0 w os)=some (F w os):=by
  unfold topFrom;rw[z2,z3];rw[r];simp only[z1];show(match(staticsOk (importedModules p.main.body) (boot_heap w.params) (F w os).heap&&namesBound p (F w os).heap&&gensDone (F w os)&&laidKept (boot_heap w.params) (F w os).heap)with|true=>_|false=>_)=_;rw[l1]
 unfold openEnds
 rw[e]
 show Option.map _ (topFrom treeTable p w N (S0 w os))=_
 rw[t]
 exact congrArg some (Prod.ext l2 l3)
abbrev Kk:=@PySem.W.Fast.tw10110043849684766642
abbrev Kl:=@PySem.W.Fast.tw14364793385576792824
abbrev AF:=@PySem.W.Fast.tw12563942051412417395
theorem Km:@segRunT=@Kk:=PySem.W.Fast.te10110043849684766642
theorem Kn:@treeTable=@Kl:=PySem.W.Fast.te14364793385576792824
theorem Dg:@execs=@AF:=PySem.W.Fast.te12563942051412417395
def put:List Obj->Nat->BT->BT
 |[],_,t=>t
 |o::l,i,t=>put l (i+1) (t.ins i o)
def toT (s:Shared):SharedT:=⟨put s.heap.objs.toList 0 .nil,s.heap.objs.size,s.heap.life,s.gens,s.drawn,s.toks,s.os⟩
def st1 (d:Shared):Option (Shared×Thread)->Shared
 |some (s,_)=>s
 |none=>d
def st2 (d:Shared):Option (Flow×Shared×Code×Pos)->Shared
 |some (_,s,_)=>s
 |none=>d
def st3 (d:SharedT):Option (Flow×SharedT×Code×Pos)->SharedT
 |some (_,s,_)=>s
 |none=>d
theorem of1 (h:o.map (·.2)=some t):o=some (st1 d o,t):=by
 cases o with
 |none=>cases h
 |some z=>cases h;rfl
theorem of2 (h:o.map (λr=>(r.1,r.2.2))=some (f,c,q)):o=some (f,st2 d o,c,q):=by
 cases o with
 |none=>cases h
 |some z=>obtain⟨a,b,x,y⟩:=z;cases h;rfl
theorem of3 (h:o.map (λr=>(r.1,r.2.2))=some (f,c,q)):o=some (f,st3 d o,c,q):=by
 cases o with
 |none=>cases h
 |some z=>obtain⟨a,b,x,y⟩:=z;cases h;rfl
section
variable (p:Program) (m₀:Nat) (ann:Option Value) (env:Env) (q pa pb:Pos) (k1 k2 k3:Nat)
abbrev cd:Code:=.body (behindTheImports p) env
def A (w:World) (os:OsState):Option (Shared×Thread):=topGo treeTable p w m₀ ann k1 (S0 w os) (topStub p)
def SA (w:World) (os:OsState):Shared:=st1 (S0 w os) (A p m₀ ann k1 w os)
def B (w:World) (os:OsState):Option (Flow×Shared×Code×Pos):=segRun treeTable p w m₀ ann 1 k2 (SA p m₀ ann k1 w os) (blockOf (behindTheImports p) env (cd p env) pa [topFrame q])
def SB (w:World) (os:OsState):Shared:=st2 (S0 w os) (B p m₀ ann env q pa k1 k2 w os)
def C (w:World) (os:OsState):Option (Flow×SharedT×Code×Pos):=Kk Kl p w m₀ ann 1 k3 (toT (SB p m₀ ann env q pa k1 k2 w os)) ⟨(AF (behindTheImports p) env).wrap doneF deadEnd id id,cd p env,pb,[topFrame q]⟩
theorem Ko (w:World) (os:OsState):C p m₀ ann env q pa pb k1 k2 k3 w os=segRunT treeTable p w m₀ ann 1 k3 (toT (SB p m₀ ann env q pa k1 k2 w os)) (piecesOf (behindTheImports p) env (cd p env) pb [topFrame q]):=by
 unfold C piecesOf;rw[Km,Kn,Dg]
def SC (w:World) (os:OsState):SharedT:=st3 (toT (S0 w os)) (C p m₀ ann env q pa pb k1 k2 k3 w os)
end
theorem run_of (hA:∀w os,(A p m₀ ann k1 w os).map (·.2)=some ⟨denote treeTable (cd p env),cd p env,pa,[topFrame q]⟩) (hB:∀w os,(B p m₀ ann env q pa k1 k2 w os).map (λr=>(r.1,r.2.2))=some (.next,cd p env,pb)) (hT:∀w os,(toT (SB p m₀ ann env q pa k1 k2 w os)).abs=SB p m₀ ann env q pa k1 k2 w os) (hC:∀w os,(C p m₀ ann env q pa pb k1 k2 k3 w os).map (λr=>(r.1,r.2.2))=some (.next,cd p env,pc)) (hF:∀w s,topRun treeTable p w m₀ ann k4 s ⟨doneF .next,cd p env,pc,[topFrame q]⟩=some s) (w:World) (os:OsState):
  topRun treeTable p w m₀ ann (k1+(k2+(k3+k4))) (S0 w os) (topStub p)=some (SC p m₀ ann env q pa pb k1 k2 k3 w os).abs:=by
 have a:=of1 (d:=S0 w os) (hA w os)
 have b:=of2 (d:=S0 w os) (hB w os)
 have c:=of3 (d:=toT (S0 w os)) (hC w os)
 rw[Ko]at c
 have c:=segRun_of c
 rw[hT]at c
 rw[<-Ko]at c
 refine go_top a (piece_block b ?_)
 have k:=piece_app c (piece_nil (hF w _))
 rw[List.append_nil]at k
 exact k
end HD
namespace K42
open PySem PySem.Spec PyProof.Rows L2
section
variable {ps:List (List Pk)} {ls:List Lt}
theorem Hd (h0:∀l∈ls,l.t=0):fT ls 0=List.range ls.length:=by
 unfold fT;rw[List.filter_eq_self.mpr λp hp=>decide_eq_true (h0 _ (List.fst_mem_of_mem_zipIdx hp))];apply List.ext_getElem?;intro i;rw[getElem?_map,List.getElem?_zipIdx];by_cases hi:i<ls.length
 ·rw[getElem?_eq_getElem hi,List.getElem?_range hi];simp
 ·rw[List.getElem?_eq_none (by omega),List.getElem?_eq_none (by rw[length_range];omega)];rfl
theorem He (h0:∀l∈ls,l.t=0) (t:Nat):fT ls (t+1)=[]:=by
 unfold fT;rw[List.filter_eq_nil_iff.mpr λp hp=>by rw[h0 _ (List.fst_mem_of_mem_zipIdx hp)];simp];rfl
theorem sB (h0:∀l∈ls,l.t=0):∀i,rowAt ps ls i=aZ ps ls (List.range ls.length) i
 |0=>Hd h0
 |i+1=>by
  show _++fT ls (i+1)=_;rw[He h0,List.append_nil,sB h0 i];rfl
theorem Dh {n step} (h:k∈b0 p (bC ls step n row)):k∈row:=by
 unfold b0 bC at h;obtain⟨l,h1,h2⟩:=List.mem_flatten.mp h;obtain⟨⟨a,hh⟩,h3,rfl⟩:=List.mem_map.mp h1;have h4:=(List.of_mem_zip h3).2;obtain⟨j,_,rfl⟩:=List.mem_map.mp h4;unfold turnN at h2;split at h2
 ·exact(List.mem_filter.mp h2).1
 ·exact(List.mem_filter.mp (List.mem_reverse.mp h2)).1
theorem sC:∀ {i:Nat},k∈aZ ps ls row i->k∈row
 |0,h=>h
 |i+1,h=>sC (Dh h)
theorem xJ (hg:∀j∈X,ls'[j]?=ls[f j]?) (p:List Pk) (n step:Nat):b0 p (bC ls step n (X.map f))=(b0 p (bC ls' step n X)).map f:=by
 unfold b0 bC;rw[List.map_flatten,List.zip_map_right,List.zip_map_right,List.map_map,List.map_map,List.map_map];congr 1;refine List.map_congr_left λq _=>?_;show turnN (q.1,(X.map f).filter _)=(turnN (q.1,X.filter _)).map f;have e:(X.map f).filter (λk=>decide (pkOf ls step k=q.2))=(X.filter λk=>decide (pkOf ls' step k=q.2)).map f:=by
  rw[List.filter_map];congr 1;refine List.filter_congr λj hj=>?_;show decide (pkOf ls step (f j)=q.2)=_;unfold pkOf;rw[hg j hj]
 unfold turnN;rw[e];dsimp only;split
 ·rfl
 ·rw[List.map_reverse]
theorem nk (hg:∀j∈X,ls'[j]?=ls[f j]?):∀i,aZ ps ls (X.map f) i=(aZ ps ls' X i).map f
 |0=>rfl
 |i+1=>by
  show b0 _ (bC ls i _ (aZ ps ls (X.map f) i))=_;rw[nk hg i];exact xJ (λj hj=>hg j (sC hj)) _ _ _
theorem pE (hv:Valid ps) (h:∀l∈ls,LtOk ps l) (h0:∀l∈ls,l.t=0) (ha:ls[a]?=some la) (hb:ls[b]?=some lb):∀i,i<=ps.length->cd ps ls i a=cd ps ls i b->gS ps la i=gS ps lb i
 |0,_,_=>by
  have e:∀l:Lt,nb ps l 0=[]:=λl=>by unfold nb;rw[Nat.zero_sub];rfl
  unfold gS;rw[e,e]
 |i+1,hi,e=>by
  have ma:=mem_of_getElem? ha;have mb:=mem_of_getElem? hb;have ta:la.t<=i:=by rw[h0 _ ma];exact Nat.zero_le _
  have tb:lb.t<=i:=by rw[h0 _ mb];exact Nat.zero_le _
  have hi':i<ps.length:=by omega
  obtain⟨a1,a2,a3⟩:=dq hv h ha ta hi';obtain⟨b1,b2,b3⟩:=dq hv h hb tb hi';obtain⟨a4,a5⟩:=pC hv h ha ta (show i<=ps.length by omega);obtain⟨b4,b5⟩:=pC hv h hb tb (show i<=ps.length by omega);have lay_b:∀ (q:Bool) (A c:Int),0<=c->c<A->0<=lay q A c/\lay q A c<A:=λq A c h1 h2=>by unfold lay;split<;>omega
  obtain⟨x1,x2⟩:=lay_b (pkAt (pkOf ls i a,ps[i])).1 _ _ a4 a5;obtain⟨y1,y2⟩:=lay_b (pkAt (pkOf ls i b,ps[i])).1 _ _ b4 b5;have hp:=l5 hv i;have ej:pkOf ls i a=pkOf ls i b:=by
   rw[a1,b1]at e;generalize lay (pkAt (pkOf ls i a,ps[i])).1 (ahd ps i) (cd ps ls i a)=u at*;generalize lay (pkAt (pkOf ls i b,ps[i])).1 (ahd ps i) (cd ps ls i b)=v at*;have h1:((pkOf ls i a:Int)*ahd ps i+u)/ahd ps i=(pkOf ls i a:Int):=by
    rw[Int.add_comm,Int.add_mul_ediv_right _ _ (by omega),Int.ediv_eq_zero_of_lt x1 x2];omega
   have h2:((pkOf ls i b:Int)*ahd ps i+v)/ahd ps i=(pkOf ls i b:Int):=by
    rw[Int.add_comm,Int.add_mul_ediv_right _ _ (by omega),Int.ediv_eq_zero_of_lt y1 y2];omega
   rw[e,h2]at h1;omega
  have ec:cd ps ls i a=cd ps ls i b:=by
   rw[a1,b1,ej]at e;have e2:lay (pkAt (pkOf ls i b,ps[i])).1 (ahd ps i) (cd ps ls i a)=lay (pkAt (pkOf ls i b,ps[i])).1 (ahd ps i) (cd ps ls i b):=by omega
   unfold lay at e2;split at e2<;>omega
  have ih:=pE hv h h0 ha hb i (by omega) ec;obtain⟨ja,u1,u2,_⟩:=lZ (h la ma) ta hi';obtain⟨jb,v1,v2,_⟩:=lZ (h lb mb) tb hi';have ea:pkOf ls i a=ja:=by unfold pkOf;rw[ha,Option.bind_some,u1];rfl
  have eb:pkOf ls i b=jb:=by unfold pkOf;rw[hb,Option.bind_some,v1];rfl
  rw[qE ta u2,qE tb v2,ih,<-ea,<-eb,ej]
def cls (ps:List (List Pk)) (ls:List Lt) (r:List Nat) (c:Int):List Nat:=r.filter λk=>decide (cd ps ls ps.length k=c)
def turned (s:Int) (l:List Nat):List Nat:=if s<0 then l.reverse else l
theorem mem_turned:k∈turned s l↔k∈l:=by
 unfold turned;split
 ·exact List.mem_reverse
 ·exact Iff.rfl
theorem AG (hv:Valid ps) (h:∀l∈ls,LtOk ps l) (h0:∀l∈ls,l.t=0) {cs:List Int} (hcs:cs.Pairwise (·<·)) (hm:∀k,k<ls.length->cd ps ls ps.length k∈cs) {sd:Int->Int} (hsd:∀k l,ls[k]?=some l->sd (cd ps ls ps.length k)=gS ps l ps.length):
  aZ ps ls (List.range ls.length) ps.length=cs.flatMap λc=>turned (sd c) (cls ps ls (List.range ls.length) c):=by
 have rise:=pD hv h ps.length (le_refl _)
 rw[sB h0]at rise
 have anti:∀a b,pLt ps ls ps.length a b->pLt ps ls ps.length b a->False:=λa b h1 h2=>by
  unfold pLt at h1 h2;omega
 have kyv:∀k,k<ls.length->ky ps ls ps.length k=sd _*(k:Int):=λk hk=>by
  have e:=getElem?_eq_getElem hk;rw[hsd k _ e];unfold ky;rw[e];simp only[map_some,Option.getD_some];rw[h0 _ (List.getElem_mem hk)];simp
 have pw:(cs.flatMap λc=>turned (sd c) (cls ps ls (List.range ls.length) c)).Pairwise (pLt ps ls ps.length):=by
  refine List.pairwise_flatMap.mpr ⟨λc _=>?_,hcs.imp λ{c d} hcd x hx y hy=>?_⟩
  ·have up:(cls ps ls (List.range ls.length) c).Pairwise (·<·):=List.pairwise_lt_range.filter _;have cl:∀k∈cls ps ls (List.range ls.length) c,k<ls.length/\cd ps ls ps.length k=c:=λk hk=>by
    obtain⟨a,b⟩:=List.mem_filter.mp hk;exact⟨List.mem_range.mp a,of_decide_eq_true b⟩
   have fc:∀k∈cls ps ls (List.range ls.length) c,sd c=1\/sd c= -1:=λk hk=>by
    obtain⟨a,b⟩:=cl k hk;have:=hsd k _ (getElem?_eq_getElem a);rw[b]at this;rw[this];exact fc_b _ _
   unfold turned;split
   ·rename_i hs;refine List.pairwise_reverse.mpr ((List.Pairwise.and_mem.mp up).imp λ{a b} ⟨ha,hb,hab⟩=>?_);obtain⟨a1,a2⟩:=cl a ha;obtain⟨b1,b2⟩:=cl b hb;have e:sd c= -1:=by rcases fc a ha with e|e<;>omega
    refine .inr ⟨by rw[a2,b2],?_⟩;rw[kyv a a1,kyv b b1,a2,b2,e];omega
   ·rename_i hs;refine(List.Pairwise.and_mem.mp up).imp λ{a b} ⟨ha,hb,hab⟩=>?_;obtain⟨a1,a2⟩:=cl a ha;obtain⟨b1,b2⟩:=cl b hb;have e:sd c=1:=by rcases fc a ha with e|e<;>omega
    refine .inr ⟨by rw[a2,b2],?_⟩;rw[kyv a a1,kyv b b1,a2,b2,e];omega
  ·have a:=of_decide_eq_true (List.mem_filter.mp (mem_turned.mp hx)).2;have b:=of_decide_eq_true (List.mem_filter.mp (mem_turned.mp hy)).2;exact .inl (by rw[a,b];exact hcd)
 have pm:(aZ ps ls (List.range ls.length) ps.length).Perm (cs.flatMap λc=>turned (sd c) (cls ps ls (List.range ls.length) c)):=by
  have w:=dR h h0 (.refl _) ps.length (le_refl _);refine w.trans ((List.perm_ext_iff_of_nodup List.nodup_range (pw.imp λ{a b} hab z=>?_)).mpr λk=>?_)
  ·subst z;exact anti _ _ hab hab
  ·rw[List.mem_flatMap];constructor
   ·intro hk;exact⟨_,hm k (List.mem_range.mp hk),mem_turned.mpr (List.mem_filter.mpr ⟨hk,decide_eq_true rfl⟩)⟩
   ·rintro⟨c,_,hk⟩;exact(List.mem_filter.mp (mem_turned.mp hk)).1
 exact List.Perm.eq_of_pairwise (λa b _ _ h1 h2=>(anti a b h1 h2).elim) rise pw pm
theorem AH (hv:Valid ps) (h:∀l∈ls,LtOk ps l) (h0:∀l∈ls,l.t=0) (pm:r.Perm (List.range ls.length)) {cs:List Int} (hcs:cs.Pairwise (·<·)) (hm:∀k,k<ls.length->cd ps ls ps.length k∈cs) {sd:Int->Int} (hsd:∀k l,ls[k]?=some l->sd (cd ps ls ps.length k)=gS ps l ps.length):
  aZ ps ls r ps.length=cs.flatMap λc=>turned (sd c) (cls ps ls r c):=by
 have hrl:r.length=ls.length:=by rw[pm.length_eq,length_range]
 let f:Nat->Nat:=λj=>r.getD j 0
 let ls':List Lt:=r.map λk=>(ls[k]?).getD ⟨0,0,[]⟩
 have rl:∀k∈r,k<ls.length:=λk hk=>List.mem_range.mp (pm.mem_iff.mp hk)
 have hl':ls'.length=ls.length:=by rw[length_map];exact hrl
 have fj:∀j,(hj:j<ls.length)->f j=r[j]'(by omega):=λj hj=>by
  show r.getD j 0=_;rw[List.getD_eq_getElem?_getD,getElem?_eq_getElem (by omega)];rfl
 have flt:∀j,j<ls.length->f j<ls.length:=λj hj=>by rw[fj j hj];exact rl _ (List.getElem_mem _)
 have hg:∀j,j<ls.length->ls'[j]?=ls[f j]?:=λj hj=>by
  show(r.map _)[j]?=_;rw[getElem?_map,getElem?_eq_getElem (by omega),fj j hj];have:=rl _ (List.getElem_mem (show j<r.length by omega));rw[getElem?_eq_getElem this,map_some,getElem?_eq_getElem this];rfl
 have hr:(List.range ls.length).map f=r:=by
  apply List.ext_getElem?;intro j;rw[getElem?_map];by_cases hj:j<ls.length
  ·rw[List.getElem?_range hj,getElem?_eq_getElem (by omega)];show some (f j)=_;rw[fj j hj]
  ·rw[List.getElem?_eq_none (by rw[length_range];omega),List.getElem?_eq_none (by omega)];rfl
 have mem':∀l∈ls',l∈ls:=λl hl=>by
  obtain⟨k,hk,rfl⟩:=List.mem_map.mp hl;rw[getElem?_eq_getElem (rl k hk)];exact List.getElem_mem _
 have cde:∀j,j<ls.length->cd ps ls' ps.length j=cd ps ls ps.length (f j):=λj hj=>by unfold cd;rw[hg j hj]
 have W:=AG (ls:=ls') hv (λl hl=>h l (mem' l hl)) (λl hl=>h0 l (mem' l hl)) hcs (sd:=sd) (λk hk=>by rw[cde k (by omega)];exact hm _ (flt k (by omega))) (λk l hk=>by
  have hk':k<ls.length:=by have:=(List.getElem?_eq_some_iff.mp hk).1;omega
  rw[cde k hk'];rw[hg k hk']at hk;exact hsd _ l hk)
 rw[hl']at W
 have R:=nk (ps:=ps) (ls:=ls) (ls':=ls') (f:=f) (X:=List.range ls.length) (λj hj=>hg j (List.mem_range.mp hj)) ps.length
 rw[hr]at R
 rw[R,W,List.map_flatMap]
 congr 1
 funext c
 have e:(cls ps ls' (List.range ls.length) c).map f=cls ps ls r c:=by
  unfold cls;rw[<-hr,List.filter_map];congr 1;refine List.filter_congr λj hj=>?_;show _=decide (cd ps ls ps.length (f j)=c);rw[cde j (List.mem_range.mp hj)]
 unfold turned
 split
 ·rw[List.map_reverse,e]
 ·exact e
end
def kys (l:List Int):List Int:=l.foldl (λks c=>if c∈ks then ks else ks++[c]) []
theorem jE (l:List Int) (c:Int):kys (l++[c])=if c∈kys l then kys l else kys l++[c]:=by
 unfold kys;rw[List.foldl_append];rfl
theorem qI (c:Int):∀l:List Int,c∈kys l.reverse↔c∈l
 |[]=>Iff.rfl
 |x::l=>by
  rw[List.reverse_cons,jE];have ih:=qI c l;have ihx:=qI x l;split
  ·rename_i hx;rw[ih,mem_cons];exact⟨.inr,λz=>z.elim (λe=>e▸ihx.mp hx) id⟩
  ·rw[mem_append,mem_singleton,ih,mem_cons];exact Or.comm
theorem kys_mem:c∈kys l↔c∈l:=by
 have:=qI c l.reverse;rw[List.reverse_reverse]at this;rw[this,List.mem_reverse]
theorem gT:∀l:List Int,(kys l.reverse).Nodup
 |[]=>List.nodup_nil
 |x::l=>by
  rw[List.reverse_cons,jE];split
  ·exact gT l
  ·rename_i hx;exact List.nodup_append.mpr ⟨gT l,by simp,λa ha b hb z=>by rw[mem_singleton.mp hb]at z;exact hx (z▸ha)⟩
theorem pF (l:List Int):(kys l).Nodup:=by
 have:=gT l.reverse;rwa [List.reverse_reverse]at this
theorem pG:∀l:List Int,(kys l.reverse).length<=l.length
 |[]=>le_refl _
 |x::l=>by
  rw[List.reverse_cons,jE];have:=pG l;split
  ·rw[length_cons];omega
  ·rw[length_append,length_cons];show(kys l.reverse).length+1<=l.length+1;omega
theorem wm (l:List Int):(kys l).length<=l.length:=by
 have:=pG l.reverse;rwa [List.reverse_reverse,List.length_reverse]at this
theorem Hf (h:l.Nodup):(gx l).Pairwise (·<·):=by
 have p:(gx l).Perm l:=List.mergeSort_perm _ _;have s:=List.pairwise_mergeSort (le:=λa b:Int=>decide (a<=b)) (λa b c h1 h2=>decide_eq_true (Int.le_trans (of_decide_eq_true h1) (of_decide_eq_true h2))) (λa b=>by simp;omega) l;have n:(gx l).Nodup:=p.nodup_iff.mpr h;exact(s.and n).imp λ{a b} ⟨h1,h2⟩=>by have:=of_decide_eq_true h1;omega
end K42
namespace K42
open PySem PySem.Spec PyProof.Rows L2
def gj (bf cc:Fn):Ev->Option Out:=(af (ifS (aD (ac (aQ false) (ac bA (clF bf (x2 (va 0) (cI 0))) (cI 2)) (cI 1))) (rtF (evX (lsF (ak [5] (jR (x1 (va 1))) (gNm 5) tQ (clF cc (x2 (clF bf (x2 (va 0) (ac b9 (cI 1) (ac bA (va 5) (cI 16))))) (ac cV (va 5) (cI 16)))))) (ak [5] (jR (x1 (va 1))) (gNm 5) tQ (clF cc (x2 (clF bf (x2 (va 0) (ac b9 (cI 1) (ac bA (va 5) (cI 16))))) (ac cV (va 5) (cI 16))))) (fCo [5] (jR (x1 (va 1))) (gNm 5) tQ (frX (clF cc (x2 (clF bf (x2 (va 0) (ac b9 (cI 1) (ac bA (va 5) (cI 16))))) (ac cV (va 5) (cI 16)))) noV (fCl cc (x2 (clF bf (x2 (va 0) (ac b9 (cI 1) (ac bA (va 5) (cI 16))))) (ac cV (va 5) (cI 16)))))))) nxE) (af (aP 2 (evV (cI 7))) (af (frF (jX noV (va 0)) (eNm 3) (af (aP 2 (evV (ac bA (ac b9 (ac b9 (ac cq (va 2) (va 2)) (ac cq (va 3) (cI 131))) (cI 17)) (cI 1000000000039)))) nxE)) (af (aP 4 evE) (af (frF (jR (x1 (va 1))) (eNm 5) (af (aP 2 (evV (ac bA (ac b9 (ac b9 (ac cq (va 2) (va 2)) (ac cq (cI 977) (va 5))) (cI 3)) (cI 1000000000039)))) (af (rW 4 2 (evV (va 2)) (va 2)) nxE))) (af (frF (jR (x1 (lnF (va 0)))) (eNm 5) (af (aP 6 (evV (ac bA (va 5) (va 1)))) (af (j6 4 (va 6) (evV (ac bA (ac b9 (ac cq (ac ixD (va 4) (va 6)) (cI 131)) (ac ixD (va 0) (va 5))) (cI 1000000000039)))) nxE))) (af (rtN 4) nxE)))))))
def eG:Ev->Option Out:=(af (aP 1 (evX (ac b9 (cI 1) (ac bA (va 0) (cI 3))) (iX (cI 1) (ac bA (va 0) (cI 3))) noV)) (af (aP 2 evE) (af (frF (jR (x1 (va 1))) (eNm 3) (af (aP 4 (evV (ac ixD (lsF (dpF (x2 (cS "queue") (cS "pile")))) (ac bA (ac cV (va 0) (ac ixD (lsF (dpF (x3 (cI 3) (cI 6) (cI 12)))) (va 3))) (cI 2))))) (af (nW 2 (evX (tpF (x2 (va 4) (ac b9 (cI 1) (ac bA (ac cV (va 0) (ac ixD (lsF (dpF (x3 (cI 24) (cI 216) (cI 1944)))) (va 3))) (cI 9))))) noV (fTp (x2 (frX (va 4) noV noV) (frX (ac b9 (cI 1) (ac bA (ac cV (va 0) (ac ixD (lsF (dpF (x3 (cI 24) (cI 216) (cI 1944)))) (va 3))) (cI 9))) (iX (cI 1) (ac bA (ac cV (va 0) (ac ixD (lsF (dpF (x3 (cI 24) (cI 216) (cI 1944)))) (va 3))) (cI 9))) noV))))) nxE))) (rtF (evX (biF aY (x1 (va 2))) noV (fNo (x1 (va 2))))))))
def iM (cf:Fn):Ev->Option Out:=(rtF (evX (biF aY (x1 (lsF (ak [2] (jR (x1 (ac bA (ac ixD (va 0) (va 1)) (cI 5)))) (gNm 2) tQ (clF cf (x1 (ac ixD (va 0) (ac b9 (ac b9 (va 1) (cI 1)) (va 2))))))))) noV (fNo (x1 (lsF (ak [2] (jR (x1 (ac bA (ac ixD (va 0) (va 1)) (cI 5)))) (gNm 2) tQ (clF cf (x1 (ac ixD (va 0) (ac b9 (ac b9 (va 1) (cI 1)) (va 2)))))))))))
def gU:Ev->Option Out:=(af (aP 4 evE) (af (frF (jR (x1 (va 3))) (eNm 5) (af (aP 6 (evV (ac ixD (va 0) (ac b9 (va 1) (va 5))))) (af (nW 4 (evX (biF aY (x1 (lsF (ak [7] (jR (x1 (lnF (va 2)))) (gNm 7) tQ (ac bA (ac cV (va 6) (ac ixD (lsF (dpF (x4 (cI 1) (cI 3) (cI 9) (cI 27)))) (va 7))) (lnF (ac ixD (va 2) (va 7)))))))) noV (fNo (x1 (lsF (ak [7] (jR (x1 (lnF (va 2)))) (gNm 7) tQ (ac bA (ac cV (va 6) (ac ixD (lsF (dpF (x4 (cI 1) (cI 3) (cI 9) (cI 27)))) (va 7))) (lnF (ac ixD (va 2) (va 7)))))))))) nxE))) (af (rtN 4) nxE)))
def iO:Ev->Option Out:=(af (aP 3 (evX (liF (x1 (va 2))) (l1F (x1 (va 2))) (fNo (x1 (va 2))))) (af (frF (jR (x1 (lnF (va 0)))) (eNm 4) (af (aP 5 (evX (lsF (ak [8] (jX noV (ac ixD (va 0) (va 4))) (gNm 8) tQ (lsF (dpF ae)))) (ak [8] (jX noV (ac ixD (va 0) (va 4))) (gNm 8) tQ (lsF (dpF ae))) (fCo [8] (jX noV (ac ixD (va 0) (va 4))) (gNm 8) tQ (frX (lsF (dpF ae)) (dpF ae) (fLs ae))))) (af (frY 3 (jX noV (va 3)) (eNm 6) (af (aP 8 (evV (ac ixD (ac ixD (va 1) (va 6)) (va 4)))) (af (ifS (aD (ac (aQ false) (ac ixD (ac ixD (ac ixD (va 0) (va 4)) (va 8)) (cI 0)) (cS "pile"))) (af (zm 5 (va 8) (cI 0) (va 6)) nxE) (af (qk 5 (va 8) (va 6)) nxE)) nxE))) (af (aP 3 evE) (af (frY 5 (jX noV (va 5)) (eNm 7) (af (qh 3 (va 7)) nxE)) nxE))))) (af (rtN 3) nxE)))
theorem Di (hc:Am ce) (hp:An pa):qA (aX 2 7 (gj ce pa)):=λns m hn h0 hm=>by
 have hs:aL 7 [scD ns,.int (m:Int)]=[some (.sh,scD ns),some (.sh,.int (m:Int)),none,none,none,none,none]:=rfl;have hc0:=hc ns 0;have hT:aD (ac (aQ false) (ac bA (clF ce (x2 (va 0) (cI 0))) (cI 2)) (cI 1)) [some (scD ns),some (.int (m:Int)),none,none,none,none,none]=some (decide (ns[0]?.getD 0%2=1)):=by
  have e:(0:Int)=((0:Nat):Int):=rfl;simp only[bb,aF,clF_a,ag,aG,aj,db,am,Option.bind_some];rw[e,hc0];simp only[aM,Option.bind_some,bK (show(0:Int)<2 by decide),iK];rfl
 cases hb:decide (ns[0]?.getD 0%2=1)with
 |true=>
  rw[hb]at hT;obtain⟨cs,l,_,e⟩:=sk (ks:=[5]) (J:=jR (x1 (va 1))) (g:=gNm 5) (ft:=tQ) (fe:=clF pa (x2 (clF ce (x2 (va 0) (ac b9 (cI 1) (ac bA (va 5) (cI 16))))) (ac cV (va 5) (cI 16))))
   (Y:=[some (scD ns),some (.int (m:Int)),none,none,none,none,none]) (xs:=List.range m) (mk:=λ(i:Nat)=>D.int (i:Int)) (out:=D.int) (P:=λ_=>True) (fS (by simp;exact bV (by omega))) (λk hk=>by
    have hk':k<m:=List.mem_range.mp hk;have e1:(1+(k:Int)%16)=((1+k%16:Nat):Int):=by omega
    have e2:(k:Int)/16=((k/16:Nat):Int):=by omega
    obtain⟨v,_,_,ev⟩:=hp (ns[1+k%16]?.getD 0) (k/16) (by omega);refine⟨v,trivial,?_⟩;simp only[bR,bu,bL,eB,set_cons_succ,set_cons_zero,Option.bind_some,lG,if_true,clF_a,ag,aG,aj,av,ay,aF,db,am,bK (show(0:Int)<16 by decide),gf (show(0:Int)<16 by decide) (show(16:Int)<1073741824 by decide),io,e1,e2,hc ns (1+k%16),aM,ev]) (by rw[length_range];exact Nat.lt_trans hm (by decide))
  rw[length_range]at l;refine⟨cs,l,aC rfl ?_⟩;unfold gj;rw[hs];refine aJ ((jz hT).trans (aJ (bg (evX_lfs (d:=scD cs) ?_ rfl (show _=some (cs.map D.int)from e) (Al cs)))));simp only[az,aB,aA,bz,e];rfl
 |false=>
  rw[hb]at hT;have L1:=dm (J:=jX noV (va 0)) (tg:=eNm 3) (F:=af (aP 2 (evV (ac bA (ac b9 (ac b9 (ac cq (va 2) (va 2)) (ac cq (va 3) (cI 131))) (cI 17)) (cI 1000000000039)))) nxE) (ds:=ns.map D.int)
   (Y:=[some (.sh,scD ns),some (.sh,.int (m:Int)),some (.deep,.int 7),none,none,none,none])
   (λi Y=>∃v o,0<=v/\v<1000000000039/\Y=[some (.sh,scD ns),some (.sh,.int (m:Int)),some (.deep,.int v),o,none,none,none]) (by simp) ⟨7,none,by decide,by decide,rfl⟩ (by
    rintro i d Y hd ⟨v,o,h1,h2,rfl⟩;rw[getElem?_map]at hd;cases hq:ns[i]? with
    |none=>rw[hq]at hd;cases hd
    |some p=>
     rw[hq]at hd;cases hd;refine⟨_,ao (bm (evX_lf (d:=.int ((v*v+p*131+17)%1000000000039)) ?_ rfl)),⟨_,_,Int.emod_nonneg _ (by decide),Int.emod_lt_of_pos _ (by decide),rfl⟩⟩;simp[Ao h1 h2,lX (show(-1000000:Int)<131 by decide) (show(131:Int)<1000000 by decide)];exact bK (by decide))
  obtain⟨Y1,e1,v1,o1,g1,g2,rfl⟩:=L1;have L2:=ff (J:=jR (x1 (va 1))) (s:=5) (v:=λi=>(i:Int)) (n:=m) (F:=af (aP 2 (evV (ac bA (ac b9 (ac b9 (ac cq (va 2) (va 2)) (ac cq (cI 977) (va 5))) (cI 3)) (cI 1000000000039)))) (af (rW 4 2 (evV (va 2)) (va 2)) nxE))
   (Y:=[some (.sh,scD ns),some (.sh,.int (m:Int)),some (.deep,.int v1),o1,some (.deep,.lst []),none,none])
   (λi Y=>∃v o,∃cs:List Int,cs.length=i/\0<=v/\v<1000000000039/\Y=[some (.sh,scD ns),some (.sh,.int (m:Int)),some (.deep,.int v),o1,some (.deep,scD cs),o,none]) (fS (by simp;exact bV (by omega))) ⟨v1,none,[],rfl,g1,g2,rfl⟩ (by
    rintro i Y hi ⟨v,o,cs,hl,h1,h2,rfl⟩;have hi':(i:Int)<1000000:=by omega
    have hi0:(-1000000:Int)<i:=by omega
    refine⟨_,(ao (bm (evX_lf (d:=.int ((v*v+977*i+3)%1000000000039)) ?_ rfl))).trans (ao (ka (ds:=cs.map D.int) (ds0:=cs.map D.int) (c0:=.deep) (d:=.int ((v*v+977*i+3)%1000000000039)) rfl (evX_lf rfl rfl) rfl (by rw[length_map,hl];exact Nat.lt_trans (show i+1<1001 by omega) (by decide)))),
     ⟨(v*v+977*i+3)%1000000000039,some (.sh,.int i),cs++[(v*v+977*i+3)%1000000000039],by simp[hl],Int.emod_nonneg _ (by decide),Int.emod_lt_of_pos _ (by decide),?_⟩⟩
    ·simp[lH,Ao h1 h2,lX hi0 hi'];exact bK (by decide)
    ·simp only[scD,List.map_append];rfl)
  obtain⟨Y2,e2,v2,o2,cs2,l2,_,_,rfl⟩:=L2;have L3:=ff (J:=jR (x1 (lnF (va 0)))) (s:=5) (v:=λi=>(i:Int)) (n:=ns.length) (F:=af (aP 6 (evV (ac bA (va 5) (va 1)))) (af (j6 4 (va 6) (evV (ac bA (ac b9 (ac cq (ac ixD (va 4) (va 6)) (cI 131)) (ac ixD (va 0) (va 5))) (cI 1000000000039)))) nxE))
   (Y:=[some (.sh,scD ns),some (.sh,.int (m:Int)),some (.deep,.int v2),o1,some (.deep,scD cs2),o2,none])
   (λi Y=>∃o o6,∃cs:List Int,cs.length=m/\Y=[some (.sh,scD ns),some (.sh,.int (m:Int)),some (.deep,.int v2),o1,some (.deep,scD cs),o,o6]) (fS (by simp;exact bV (by omega))) ⟨o2,none,cs2,l2,rfl⟩ (by
    rintro i Y hi ⟨o,o6,cs,hl,rfl⟩;have hm0:(0:Int)<m:=by omega
    have hk0:0<=(i:Int)%(m:Int):=Int.emod_nonneg _ (by omega);have hk1:(i:Int)%(m:Int)<m:=Int.emod_lt_of_pos _ hm0;obtain⟨x,ex⟩:=m6 (ns:=cs) hk0 (by rw[hl];exact hk1);obtain⟨y,ey⟩:=m6 (ns:=ns) (i:=(i:Int)) (by omega) (by omega);refine⟨_,(ao (bm (evX_lf (d:=.int ((i:Int)%(m:Int))) (by simp;exact bK hm0) rfl))).trans (ao (r9 (ds:=cs.map D.int) (k:=(i:Int)%(m:Int)) (d:=.int ((x*131+y)%1000000000039)) (evX_lf ?_ rfl) rfl rfl hk0 (by rw[length_map,hl];exact hk1))),
     ⟨some (.sh,.int i),some (.deep,.int ((i:Int)%(m:Int))),cs.set ((i:Int)%(m:Int)).toNat ((x*131+y)%1000000000039),by simp[hl],?_⟩⟩
    ·simp[lH,ex,ey,lX (show(-1000000:Int)<131 by decide) (show(131:Int)<1000000 by decide)];exact bK (by decide)
    ·simp only[scD,List.map_set];rfl)
  obtain⟨Y3,e3,o3,o6,cs3,l3,rfl⟩:=L3;refine⟨cs3,l3,aC rfl ?_⟩;unfold gj;rw[hs];refine(ao ((c3 hT).trans rfl)).trans ((ao (bm (evX_lf (d:=.int 7) rfl rfl))).trans ((ao e1).trans ((ao (bm (evX_lfs (d:=.lst []) (ds:=[]) (by simp) rfl (by simp) rfl))).trans ((ao e2).trans ((ao e3).trans (aJ ?_))))));rfl
theorem Kp (a b c:D):bZ (some [a,b,c])=some [a,b,c]:=cC (show 3<big by decide)
theorem Mz (a b c d:D):bZ (some [a,b,c,d])=some [a,b,c,d]:=cC (show 4<big by decide)
theorem mdZ (x:Int) (h:0<m):0<=x%m/\x%m<m:=⟨Int.emod_nonneg _ (by omega),Int.emod_lt_of_pos _ h⟩
theorem Dj (x:Int):∃b:Bool,ixD (.lst [.str "queue",.str "pile"]) (.int (x%2))=some (.str (kd b)):=by
 rcases(show x%2=0\/x%2=1 by omega)with h|h
 ·exact⟨true,by rw[h];exact lm _ _⟩
 ·exact⟨false,by rw[h];exact r0 _ _ _⟩
theorem Ea (a b c:Int) {i:Nat} (hi:i<3) (h:(0<a/\a<1073741824)/\(0<b/\b<1073741824)/\(0<c/\c<1073741824)):∃d:Int,0<d/\d<1073741824/\ixD (.lst [.int a,.int b,.int c]) (.int (i:Int))=some (.int d):=by
 obtain⟨⟨a1,a2⟩,⟨b1,b2⟩,⟨c1,c2⟩⟩:=h;rcases(show i=0\/i=1\/i=2 by omega)with rfl|rfl|rfl
 ·exact⟨a,a1,a2,eh (by decide) rfl⟩
 ·exact⟨b,b1,b2,eh (by decide) rfl⟩
 ·exact⟨c,c1,c2,eh (by decide) rfl⟩
structure Pas (p:List Pk):Prop where
 lo:1<=p.length
 hi:p.length<=3
 w:∀k∈p,1<=k.2/\k.2<=9
def Hg (f:Fn):Prop:=∀c:Int,∃p:List Pk,Pas p/\f [.int c]=some (.deep,tpD p)
theorem Kq:Hg (aX 1 5 eG):=λc=>by
 have hs:aL 5 [.int c]=[some (.sh,.int c),none,none,none,none]:=rfl;obtain⟨m0,m1⟩:=mdZ c (show(0:Int)<3 by decide);have hn:(1+c%3)=(((1+c%3).toNat:Nat):Int):=by omega
 have hn3:(1+c%3).toNat<=3/\1<=(1+c%3).toNat:=by omega
 generalize (1+c%3).toNat=n at hn hn3;suffices h:∃p:List Pk,Pas p/\eG [some (.sh,.int c),none,none,none,none]=some (.rt (.deep,tpD p))by
  obtain⟨p,h1,h2⟩:=h;exact⟨p,h1,aC rfl (by rw[hs];exact h2)⟩
 have e1:evX (ac b9 (cI 1) (ac bA (va 0) (cI 3))) (iX (cI 1) (ac bA (va 0) (cI 3))) noV [some (.sh,.int c),none,none,none,none]=some ((.deep,.int (n:Int)),[some (.sh,.int c),none,none,none,none]):=evX_lf (by
  simp only[az,aB,aA,aF,db,aG,aj,Option.bind_some,bK (show(0:Int)<3 by decide),io];rw[hn]) rfl
 have L:=ff (J:=(jR (x1 (va 1)))) (s:=3) (v:=λi=>(i:Int)) (n:=n)
  (F:=(af (aP 4 (evV (ac ixD (lsF (dpF (x2 (cS "queue") (cS "pile")))) (ac bA (ac cV (va 0) (ac ixD (lsF (dpF (x3 (cI 3) (cI 6) (cI 12)))) (va 3))) (cI 2))))) (af (nW 2 (evX (tpF (x2 (va 4) (ac b9 (cI 1) (ac bA (ac cV (va 0) (ac ixD (lsF (dpF (x3 (cI 24) (cI 216) (cI 1944)))) (va 3))) (cI 9))))) noV (fTp (x2 (frX (va 4) noV noV) (frX (ac b9 (cI 1) (ac bA (ac cV (va 0) (ac ixD (lsF (dpF (x3 (cI 24) (cI 216) (cI 1944)))) (va 3))) (cI 9))) (iX (cI 1) (ac bA (ac cV (va 0) (ac ixD (lsF (dpF (x3 (cI 24) (cI 216) (cI 1944)))) (va 3))) (cI 9))) noV))))) nxE)))
  (Y:=[some (.sh,.int c),some (.deep,.int (n:Int)),some (.deep,.lst []),none,none])
  (λi Y=>∃o3 o4,∃p:List Pk,p.length=i/\(∀k∈p,1<=k.2/\k.2<=9)/\Y=[some (.sh,.int c),some (.deep,.int (n:Int)),some (.deep,.lst (p.map pkD)),o3,o4]) (fS (by simp;exact bV (by omega))) ⟨none,none,[],rfl,λ_ h=>(nomatch h),rfl⟩ (by
   rintro i Y hi ⟨o3,o4,p,hl,hw,rfl⟩;obtain⟨d1,p1,p2,x1⟩:=Ea 3 6 12 (i:=i) (by omega) (by decide);obtain⟨d2,q1,q2,x2⟩:=Ea 24 216 1944 (i:=i) (by omega) (by decide);obtain⟨b,xb⟩:=Dj (c/d1);obtain⟨w0,w1⟩:=mdZ (c/d2) (show(0:Int)<9 by decide);refine⟨_,q_set (evX_lf (d:=.str (kd b)) ?_ rfl) (nh (j9 (ds:=p.map pkD) (ds0:=p.map pkD) (c0:=.deep) (d:=pkD (b,1+c/d2%9)) rfl (evX_lf ?_ rfl) rfl (by rw[length_map,hl];exact Nat.lt_trans (show i+1<5 by omega) (by decide))) rfl),⟨some (.sh,.int (i:Int)),some (.deep,.str (kd b)),p++[(b,1+c/d2%9)],by simp[hl],λk hk=>?_,?_⟩⟩
   ·simp only[set_cons_succ,set_cons_zero,lH,map_some,aF,bz,lj,ag,am,uA,db,aG,av,aj,ay,Option.bind_some,gh,Kp,x1,gf p1 p2,bK (show(0:Int)<2 by decide),xb]
   ·simp only[set_cons_succ,set_cons_zero,lH,map_some,mP,aF,bz,lj,ag,am,uA,db,aG,av,aj,ay,Option.bind_some,gh,Kp,x2,gf q1 q2,bK (show(0:Int)<9 by decide),io];rfl
   ·rcases mem_append.mp hk with z|z
    ·exact hw k z
    ·rw[mem_singleton.mp z];exact⟨by show 1<=1+c/d2%9;omega,by show 1+c/d2%9<=9;omega⟩
   ·simp only[List.map_append,set_cons_succ,set_cons_zero];rfl)
 obtain⟨Y',e,o3,o4,p,hl,hw,rfl⟩:=L;refine⟨p,⟨by omega,by omega,hw⟩,?_⟩;unfold eG;refine q_set e1 (q_set (evX_lfs (d:=.lst []) (ds:=[]) (by simp) rfl (by simp) rfl) (nh e (q_ret (evX_lf (d:=tpD p) ?_ (D6 p)))));simp only[lH,map_some,br,ag,am,aG,av,aj,ay,Option.bind_some,gN,j8];rfl
def Hh (f:Fn):Prop:=∀ (cs:List Int) (t:Nat),t+5<cs.length->∃ps:List (List Pk),ps.length<=4/\(∀p∈ps,Pas p)/\f [scD cs,.int (t:Int)]=some (.deep,ai ps)
theorem Kr (hp:Hg po):Hh (aX 2 3 (iM po)):=λcs t ht=>by
 have hs:aL 3 [scD cs,.int (t:Int)]=[some (.sh,scD cs),some (.sh,.int (t:Int)),none]:=rfl;obtain⟨x,ex⟩:=m6 (ns:=cs) (i:=(t:Int)) (by omega) (by omega);obtain⟨m0,m1⟩:=mdZ x (show(0:Int)<5 by decide);obtain⟨ps,hl,hP,e⟩:=sk (ks:=[2]) (J:=(jR (x1 (ac bA (ac ixD (va 0) (va 1)) (cI 5))))) (g:=gNm 2) (ft:=tQ) (fe:=(clF po (x1 (ac ixD (va 0) (ac b9 (ac b9 (va 1) (cI 1)) (va 2))))))
  (Y:=[some (scD cs),some (.int (t:Int)),none]) (xs:=List.range (x%5).toNat) (mk:=λ(i:Nat)=>D.int (i:Int)) (out:=tpD) (P:=Pas) (fS (by
   simp only[ag,am,aF,aG,aj,ay,db,Option.bind_some,ex,bK (show(0:Int)<5 by decide)];exact Aa m0 (by omega))) (λk hk=>by
   have hk':=List.mem_range.mp hk;obtain⟨y,ey⟩:=m6 (ns:=cs) (i:=(t:Int)+1+(k:Int)) (by omega) (by omega);obtain⟨p,h1,h2⟩:=hp y;refine⟨p,h1,?_⟩;simp only[bR,bu,bL,eB,lG,set_cons_succ,set_cons_zero,Option.bind_some,if_true,clF_a,ag,am,aF,aG,av,aj,ay,db,io,ey,h2,aM]) (by rw[length_range];exact Nat.lt_trans (show(x%5).toNat<6 by omega) (by decide))
 rw[length_range]at hl;refine⟨ps,by omega,hP,aC rfl ?_⟩;rw[hs];unfold iM;refine q_ret (evX_lf (d:=ai ps) ?_ (mY ps));simp only[az,aB,aA,br,ag,am,bz,e,map_some,Option.bind_some,gN,j8];rfl
theorem sD:∀ps:List (List Pk),(∀p∈ps,Pas p)->prod ps<=3^ps.length
 |[],_=>by simp[prod]
 |p::ps,h=>by
  have a:=(h p mem_cons_self).hi;have b:=sD ps λq hq=>h q (mem_cons_of_mem _ hq);rw[show prod (p::ps)=p.length*prod ps from rfl,length_cons,Nat.pow_succ,Nat.mul_comm];exact Nat.mul_le_mul b a
theorem pH (hl:ps.length<=4) (h:∀p∈ps,Pas p):Valid ps/\Wide ps:=by
 refine⟨⟨by omega,λp hp=>?_,?_⟩,λp hp k hk=>((h p hp).w k hk).1⟩
 ·have q:=h p hp;unfold okP;rw[and_eq_true,and_eq_true,decide_eq_true_eq,decide_eq_true_eq,List.all_eq_true];refine⟨⟨q.lo,by have:=q.hi;omega⟩,λk hk=>?_⟩;have:=q.w k hk;unfold okK;rw[and_eq_true,decide_eq_true_eq,decide_eq_true_eq];omega
 ·refine Nat.le_trans (sD ps h) (Nat.le_trans (Nat.pow_le_pow_right (by decide) hl) (by decide))
end K42
namespace K42
open PySem PySem.Spec PyProof.Rows L2
def dk (k:Nat):Int:=[1,3,9,27].getD k 1
theorem Ks {k:Nat} (h:k<4):ixD (.lst [.int 1,.int 3,.int 9,.int 27]) (.int (k:Int))=some (.int (dk k))/\0<dk k/\dk k<1073741824:=by
 rcases(show k=0\/k=1\/k=2\/k=3 by omega)with rfl|rfl|rfl|rfl
 ·exact⟨eh (by decide) rfl,by decide,by decide⟩
 ·exact⟨eh (by decide) rfl,by decide,by decide⟩
 ·exact⟨eh (by decide) rfl,by decide,by decide⟩
 ·exact⟨eh (by decide) rfl,by decide,by decide⟩
def wrd (ps:List (List Pk)) (y:Int):List Nat:=(List.range ps.length).map λk=>((y/dk k)%((ps[k]?.getD []).length:Int)).toNat
theorem Hi (h:∀p∈ps,Pas p) (y:Int):WordOk ps 0 (wrd ps y):=by
 refine⟨by simp[wrd],λq hq=>?_⟩;obtain⟨k,hk⟩:=List.mem_iff_getElem?.mp hq;obtain⟨a,b⟩:=List.getElem?_zip_eq_some.mp hk;rw[List.drop_zero]at b;have hkl:k<ps.length:=(List.getElem?_eq_some_iff.mp b).1;unfold wrd at a;rw[getElem?_map,List.getElem?_range hkl,map_some,b]at a;have a:=Option.some.inj a;have hl:=(h q.2 (mem_of_getElem? b)).lo;rw[<-a];show((y/dk k)%(q.2.length:Int)).toNat<q.2.length;obtain⟨m0,m1⟩:=mdZ (y/dk k) (show(0:Int)<(q.2.length:Int)by omega);omega
theorem AI (w:List Nat):lfD (wD w)=true:=cA λd hd=>by
 obtain⟨k,_,rfl⟩:=List.mem_map.mp hd;rfl
def AJ (f:Fn):Prop:=∀ (cs:List Int) (t n:Nat) (ps:List (List Pk)),t+n<=cs.length->n<=24->ps.length<=4->(∀p∈ps,Pas p)->∃ls:List Lt,ls.length=n/\(∀l∈ls,One ps l)/\f [scD cs,.int (t:Int),ai ps,.int (n:Int)]=some (.deep,plD true ls)
theorem Hj:AJ (aX 4 8 gU):=λcs t n ps ht hn h4 hp=>by
 have hs:aL 8 [scD cs,.int (t:Int),ai ps,.int (n:Int)]=[some (.sh,scD cs),some (.sh,.int (t:Int)),some (.sh,ai ps),some (.sh,.int (n:Int)),none,none,none,none]:=rfl;suffices h:∃ls:List Lt,ls.length=n/\(∀l∈ls,One ps l)/\gU [some (.sh,scD cs),some (.sh,.int (t:Int)),some (.sh,ai ps),some (.sh,.int (n:Int)),none,none,none,none]=some (.rt (.deep,plD true ls))by
  obtain⟨ls,h1,h2,h3⟩:=h;exact⟨ls,h1,h2,aC rfl (by rw[hs];exact h3)⟩
 have yp:seqD (ai ps)=some (ps.map tpD):=rfl;have L:=ff (J:=(jR (x1 (va 3)))) (s:=5) (v:=λi=>(i:Int)) (n:=n)
  (F:=(af (aP 6 (evV (ac ixD (va 0) (ac b9 (va 1) (va 5))))) (af (nW 4 (evX (biF aY (x1 (lsF (ak [7] (jR (x1 (lnF (va 2)))) (gNm 7) tQ (ac bA (ac cV (va 6) (ac ixD (lsF (dpF (x4 (cI 1) (cI 3) (cI 9) (cI 27)))) (va 7))) (lnF (ac ixD (va 2) (va 7)))))))) noV (fNo (x1 (lsF (ak [7] (jR (x1 (lnF (va 2)))) (gNm 7) tQ (ac bA (ac cV (va 6) (ac ixD (lsF (dpF (x4 (cI 1) (cI 3) (cI 9) (cI 27)))) (va 7))) (lnF (ac ixD (va 2) (va 7)))))))))) nxE)))
  (Y:=[some (.sh,scD cs),some (.sh,.int (t:Int)),some (.sh,ai ps),some (.sh,.int (n:Int)),some (.deep,.lst []),none,none,none])
  (λi Y=>∃o5 o6,∃ls:List Lt,ls.length=i/\(∀l∈ls,One ps l)/\Y=[some (.sh,scD cs),some (.sh,.int (t:Int)),some (.sh,ai ps),some (.sh,.int (n:Int)),some (.deep,plD true ls),o5,o6,none]) (fS (by simp;exact bV (by omega))) ⟨none,none,[],rfl,λ_ h=>(nomatch h),rfl⟩ (by
   rintro i Y hi ⟨o5,o6,ls,hl,ho,rfl⟩;obtain⟨y,ey⟩:=m6 (ns:=cs) (i:=(t:Int)+(i:Int)) (by omega) (by omega);have hm:∀o4:Option D,ak [7] (jR (x1 (lnF (va 2)))) (gNm 7) tQ (ac bA (ac cV (va 6) (ac ixD (lsF (dpF (x4 (cI 1) (cI 3) (cI 9) (cI 27)))) (va 7))) (lnF (ac ixD (va 2) (va 7)))) [some (scD cs),some (.int (t:Int)),some (ai ps),some (.int (n:Int)),o4,some (.int (i:Int)),some (.int y),none]=some ((wrd ps y).map λ(k:Nat)=>D.int (k:Int)):=λo4=>by
    unfold wrd;rw[List.map_map];refine aN (xs:=List.range ps.length) (mk:=λ(i:Nat)=>D.int (i:Int)) (fS ?_) (λk hk=>?_) (by rw[length_range];exact lt_of_le_of_lt h4 (by decide))
    ·simp only[ag,am,br,aG,av,aj,ay,Option.bind_some,bE,yp,length_map];exact bV (by omega)
    ·have hk':=List.mem_range.mp hk;obtain⟨x1,x2,x3⟩:=Ks (show k<4 by omega);have hpk:ps[k]?=some ps[k]:=getElem?_eq_getElem hk';have hlo:=(hp _ (List.getElem_mem hk')).lo;have x4:ixD (ai ps) (.int (k:Int))=some (tpD ps[k]):=atI_mapN hpk;have x5:seqD (tpD ps[k])=some (ps[k].map pkD):=rfl;have h0:(0:Int)<(ps[k].length:Int):=by omega
     obtain⟨m0,m1⟩:=mdZ (y/dk k) h0;simp only[bR,bu,bL,eB,lG,set_cons_succ,set_cons_zero,Option.bind_some,if_true,aF,br,bz,lj,ag,am,db,aG,av,aj,ay,Mz,map_some,x1,gf x2 x3,x4,bE,x5,length_map,bK h0,Function.comp,hpk,Option.getD_some,Int.toNat_of_nonneg m0]
   refine⟨_,q_set (evX_lf (d:=.int y) ?_ rfl) (nh (j9 (ds:=ls.map λl=>wD l.w) (ds0:=ls.map λl=>wD l.w) (c0:=.deep) (d:=wD (wrd ps y)) rfl (evX_lf ?_ (AI _)) rfl (by rw[length_map,hl];exact Nat.lt_trans (show i+1<26 by omega) (by decide))) rfl),⟨some (.sh,.int (i:Int)),some (.deep,.int y),ls++[⟨1,0,wrd ps y⟩],by simp[hl],λl hl=>?_,?_⟩⟩
   ·simp only[set_cons_succ,set_cons_zero,lH,map_some,aF,aG,av,aj,ay,Option.bind_some,io,ey]
   ·simp only[set_cons_succ,set_cons_zero,lH,aA,map_some,Option.map_none,br,ag,am,bz,hm,Option.bind_some,gN,j8];rfl
   ·rcases mem_append.mp hl with z|z
    ·exact ho l z
    ·rw[mem_singleton.mp z];exact⟨rfl,rfl,Hi hp y⟩
   ·simp only[plD,sq,if_true,List.map_append,set_cons_succ,set_cons_zero];rfl)
 obtain⟨Y',e,o5,o6,ls,hl,ho,rfl⟩:=L;refine⟨ls,hl,ho,?_⟩;unfold gU;exact q_set (evX_lfs (d:=.lst []) (ds:=[]) (by simp) rfl (by simp) rfl) (nh e (aJ rfl))
end K42
namespace K42
open PySem PySem.Spec PyProof.Rows L2
def gk (p:List Pk) (ls:List Lt) (step:Nat) (row:List Nat):List (List Nat):=(p.zip (bC ls step p.length row)).map turnN
theorem jF (p:List Pk) (ls:List Lt) (step:Nat) (row:List Nat) (m:Nat):(gk p ls step row)[m]?=(p[m]?).map λa=>turnN (a,row.filter λi=>decide (pkOf ls step i=m)):=by
 unfold gk;rw[getElem?_map];cases h:p[m]? with
 |none=>
  have hl:p.length<=m:=List.getElem?_eq_none_iff.mp h;rw[List.getElem?_eq_none (by rw[List.length_zip];omega)];rfl
 |some a=>
  have hl:m<p.length:=(List.getElem?_eq_some_iff.mp h).1;rw[List.getElem?_zip_eq_some (z:=(a,row.filter λi=>decide (pkOf ls step i=m)))|>.mpr ⟨h,by unfold bC;rw[getElem?_map,List.getElem?_range hl];rfl⟩];rfl
theorem wn (p:List Pk) (ls:List Lt) (step:Nat) (row:List Nat):(gk p ls step row).length=p.length:=by
 unfold gk bC;rw[length_map,List.length_zip,length_map,length_range,Nat.min_self]
theorem AK {step} {a:Pk} (h:p[pkOf ls step k]?=some a):
  gk p ls step (row++[k])=(gk p ls step row).set (pkOf ls step k) (if a.1 then(turnN (a,row.filter λi=>decide (pkOf ls step i=pkOf ls step k)))++[k]else k::turnN (a,row.filter λi=>decide (pkOf ls step i=pkOf ls step k))):=by
 apply List.ext_getElem?
 intro m
 rw[jF,List.getElem?_set,jF,wn]
 by_cases e:pkOf ls step k=m
 ·subst e;have hl:=(List.getElem?_eq_some_iff.mp h).1;rw[if_pos rfl,if_pos hl,h,map_some];rw[show((row++[k]).filter λi=>decide (pkOf ls step i=pkOf ls step k))=(row.filter λi=>decide (pkOf ls step i=pkOf ls step k))++[k]by rw[List.filter_append];simp];unfold turnN;cases a.1<;>simp
 ·rw[if_neg e];rw[show((row++[k]).filter λi=>decide (pkOf ls step i=m))=(row.filter λi=>decide (pkOf ls step i=m))by rw[List.filter_append];simp[e]]
theorem Dk (h0:iD Y i=some (.deep,ds)) (hk:fj (vw Y)=some (.int (j:Int))) (hj:ds[j]?=some (.lst ds2)) (hd:R (shv Y)=some d) (lf:lfD d=true) (hl:ds2.length+1<big):
  zm i fj (cI 0) R Y=some (.nx (Y.set i (some (.deep,.lst (ds.set j (.lst (d::ds2))))))):=by
 have hjl:j<ds.length:=(List.getElem?_eq_some_iff.mp hj).1
 have e:zk ds2.length (.int 0)=some 0:=by
  show(if 0<=(0:Int)/\(0:Int)<=(ds2.length:Int)then some (0:Int).toNat else none)=_;rw[if_pos ⟨by omega,by omega⟩];rfl
 unfold zm vB
 simp only[h0,Option.bind_some,if_true,hk,mS,wd hjl,hj,hd,lfO,lf,db,fN,e]
 show(if ds2.length+1<big then _ else _)=_
 rw[if_pos hl]
 rfl
theorem sE (q:Pk×List Nat):(turnN q).length=q.2.length:=by
 unfold turnN;split
 ·rfl
 ·exact List.length_reverse
theorem Kt {b:Bool} (h:c (vw Y)=some b) (k1:(if b then F Y else G' Y)=some (.nx Y')) (k:G Y'=out):af (ifS c F G') G Y=out:=by
 cases b with
 |true=>exact(ao ((jz h).trans k1)).trans k
 |false=>exact(ao ((c3 h).trans k1)).trans k
theorem shv_o (o:Option Sl) (Y:Ev):shv (o::Y)=Fz o::shv Y:=rfl
theorem Eb {P:Ev->Prop} (h:g Y=some (s,Y')) (k:∃Y'',G (Y'.set i (some s))=some (.nx Y'')/\P Y''):∃Y'',af (aP i g) G Y=some (.nx Y'')/\P Y'':=by
 rw[ao (bm h)];exact k
theorem n_forY {P:Ev->Prop} {β:Type} {xs:List β} {mk} (I:Nat->Ev->Prop) (hN:J (shv Y)=none) (hJ:J (shv (frzS [j] Y))=some (xs.map mk)) (h0:I 0 (frzS [j] Y)) (hs:∀ (i:Nat) (x:β) (Y:Ev),xs[i]?=some x->I i Y->∃Y',(tg (mk x) Y).bind F=some (.nx Y')/\I (i+1) Y') (k:∀Y',I xs.length Y'->∃Y'',G Y'=some (.nx Y'')/\P Y''):∃Y'',af (frY j J tg F) G Y=some (.nx Y'')/\P Y'':=by
 have hs':∀ (i:Nat) (d:D) (Y:Ev),(xs.map mk)[i]?=some d->I i Y->∃Y',(tg d Y).bind F=some (.nx Y')/\I (i+1) Y':=λi d Y hd hi=>by
  rw[getElem?_map]at hd;cases hx:xs[i]? with
  |none=>rw[hx]at hd;cases hd
  |some x=>rw[hx]at hd;cases hd;exact hs i x Y hx hi
 obtain⟨Y',e,i⟩:=mO (step:=lF tg F) (xs.map mk) I _ h0 hs';rw[length_map]at i;have e':gw J tg F (frzS [j] Y)=some (.nx Y'):=by unfold gw;rw[hJ];exact e
 rw[ao (GX hN e')];exact k _ i
def wq (f:List D->Option Sl):Prop:=∀ (u:Bool) (ps:List (List Pk)) (ls:List Lt) (row:List Nat),Valid ps->Wide ps->ls.length<=24->(∀l∈ls,One ps l)->row.Perm (List.range ls.length)->f [ai ps,plD u ls,aw row]=some (.deep,aw (aZ ps ls row ps.length))
theorem Hk:wq (aX 3 9 iO):=λu ps ls row hv hw h24 h pm=>by
 have hs:aL 9 [ai ps,plD u ls,aw row]=[some (.sh,ai ps),some (.sh,plD u ls),some (.sh,aw row),none,none,none,none,none,none]:=rfl;have ok:=λl hl=>(h l hl).ok hw;have t0:=λl hl=>(h l hl).t;have yr:seqD (aw row)=some (row.map λ(k:Nat)=>D.int (k:Int)):=rfl;have yp:seqD (ai ps)=some (ps.map tpD):=rfl;have hp6:=hv.len;refine aC rfl ?_;rw[hs];unfold iO;refine q_set (evX_lfs (d:=aw row) (ds:=row.map λ(k:Nat)=>D.int (k:Int)) ?_ rfl ?_ (kg row))
  (Kb (n:=ps.length) (v:=λi=>(i:Int)) (λi Y=>∃o4 o5 o6 o7 o8,Y=[some (.sh,ai ps),some (.sh,plD u ls),some (.sh,aw row),some (.deep,aw (aZ ps ls row i)),o4,o5,o6,o7,o8]) ?_ ⟨none,none,none,none,none,rfl⟩ ?_ ?_)
 ·simp only[az,aB,aA,vS,ag,am,aG,av,aj,ay,Option.bind_some,lW,yr,map_some];rfl
 ·simp only[az,aB,aA,vR,ag,am,aG,av,aj,ay,Option.bind_some,lW,yr]
 ·refine fS ?_;simp only[set_cons_succ,set_cons_zero,gO,dA,eY,eu,ag,am,br,aG,av,aj,ay,Option.bind_some,bE,yp,length_map];exact bV (by omega)
 ·rintro i Y hi ⟨o4,o5,o6,o7,o8,rfl⟩;have hp:ps[i]?=some ps[i]:=getElem?_eq_getElem hi;generalize hpe:ps[i]=p at hp;have hpl:p.length<=6:=(hv.p (mem_of_getElem? hp)).2.1;generalize hW:aZ ps ls row i=W;have hwl:W.length<=24:=by rw[<-hW,(dR ok t0 pm i (by omega)).length_eq,pm.length_eq,length_range];exact h24
  have hin:Aw ls i p.length W:=by rw[<-hW];exact wk ok t0 pm hp
  have er:aZ ps ls row (i+1)=(gk p ls i W).flatten:=by
   show b0 _ _=_;rw[hp,hW];rfl
  have xp:ixD (ai ps) (.int (i:Int))=some (tpD p):=atI_mapN hp;have hz:gk p ls i []=p.map λ_=>[]:=by
   apply List.ext_getElem?;intro m;rw[jF,getElem?_map];cases p[m]? with
   |none=>rfl
   |some a=>show some (turnN (a,[]))=some [];unfold turnN;cases a.1<;>rfl
  have e1:ak [8] (jX noV (ac ixD (va 0) (va 4))) (gNm 8) tQ (lsF (dpF ae)) [some (ai ps),some (plD u ls),some (aw row),some (aw W),some (.int (i:Int)),o5.map (·.2),o6.map (·.2),o7.map (·.2),o8.map (·.2)]=some (p.map λ_=>.lst []):=by
   refine aN (xs:=p) (mk:=pkD) (out:=λ_=>.lst []) ?_ ?_ (lt_of_le_of_lt hpl (by decide))
   ·simp only[bn,aF,aG,av,aj,ay,Option.bind_some,xp];rfl
   ·intro x _;simp only[bR,bu,bL,eB,lG,Option.bind_some,if_true,bz,lj,am,Gx,map_some]
  have e2:ak [8] (jX noV (ac ixD (va 0) (va 4))) (gNm 8) tQ (frX (lsF (dpF ae)) (dpF ae) (fLs ae)) [some (ai ps),some (plD u ls),some (aw row),some (aw W),some (.int (i:Int)),o5.map (·.2),o6.map (·.2),o7.map (·.2),o8.map (·.2)]=some (p.map λ_=>.lst []):=by
   refine aN (xs:=p) (mk:=pkD) (out:=λ_=>.lst []) ?_ ?_ (lt_of_le_of_lt hpl (by decide))
   ·simp only[bn,aF,aG,av,aj,ay,Option.bind_some,xp];rfl
   ·intro x _;have:frX (lsF (dpF ae)) (dpF ae) (fLs ae)=λ_=>some (.lst []):=by
     funext Y;show orO _ _ Y=_;unfold orO;simp[lfO,js]
    rw[this];simp only[bR,bu,bL,eB,lG,Option.bind_some,if_true]
  have a1:evX (lsF (ak [8] (jX noV (ac ixD (va 0) (va 4))) (gNm 8) tQ (lsF (dpF ae)))) (ak [8] (jX noV (ac ixD (va 0) (va 4))) (gNm 8) tQ (lsF (dpF ae))) (fCo [8] (jX noV (ac ixD (va 0) (va 4))) (gNm 8) tQ (frX (lsF (dpF ae)) (dpF ae) (fLs ae)))
    [some (.sh,ai ps),some (.sh,plD u ls),some (.sh,aw row),some (.deep,aw W),some (.sh,.int (i:Int)),o5,o6,o7,o8]=some ((.deep,bF (gk p ls i [])),[some (.sh,ai ps),some (.sh,plD u ls),some (.sh,aw row),some (.deep,aw W),some (.sh,.int (i:Int)),o5,o6,o7,o8]):=by
   have hh:bF (gk p ls i [])=.lst (p.map λ_=>.lst []):=by rw[hz];unfold bF;rw[List.map_map];rfl
   rw[hh]
   cases p with
   |nil=>exact evX_lfs (d:=.lst []) (by rw[bz];exact congrArg (Option.map D.lst) e1) rfl e1 rfl
   |cons a b=>exact wb (d:=.lst ((a::b).map λ_=>.lst [])) (ds:=(a::b).map λ_=>.lst []) (by rw[bz];exact congrArg (Option.map D.lst) e1) rfl e1 rfl (by unfold fCo;exact congrArg (λo=>Option.bind o λds=>some (D.lst ds)) e2)
  refine Eb a1 (n_forY (xs:=W) (mk:=λ(k:Nat)=>D.int (k:Int)) (λj Y=>∃o6 o8,Y=[some (.sh,ai ps),some (.sh,plD u ls),some (.sh,aw row),some (.sh,aw W),some (.sh,.int (i:Int)),some (.deep,bF (gk p ls i (W.take j))),o6,o7,o8]) ?_ ?_ ⟨o6,o8,rfl⟩ ?_ ?_)
  ·simp only[set_cons_succ,set_cons_zero,shv_o,bn,aG,av,aj];rfl
  ·show jX noV (va 3) (shv [some (.sh,ai ps),some (.sh,plD u ls),some (.sh,aw row),some (.sh,aw W),some (.sh,.int (i:Int)),some (.deep,bF (gk p ls i [])),o6,o7,o8])=_;simp only[shv_o,bn,aG,av,aj];rfl
  ·rintro j k Y hk ⟨o6,o8,rfl⟩;obtain⟨l,q,g1,g2,g3,g4⟩:=hin k (mem_of_getElem? hk);have l0:l.t=0:=t0 l (mem_of_getElem? g1);have hpk:pkOf ls i k=q:=by unfold pkOf;rw[g1,Option.bind_some,g3];rfl
   have hq:p[q]?=some p[q]:=getElem?_eq_getElem g4;generalize hqe:p[q]=a at hq;have ht:W.take (j+1)=W.take j++[k]:=by rw[List.take_succ,hk];rfl
   have ls_:=AK (p:=p) (ls:=ls) (step:=i) (row:=W.take j) (k:=k) (a:=a) (by rw[hpk];exact hq);rw[hpk]at ls_;have lg:=jF p ls i (W.take j) q;rw[hq,map_some]at lg;generalize hT:turnN (a,(W.take j).filter λi_1=>decide (pkOf ls i i_1=q))=T at lg ls_;have hTl:T.length<=24:=by
    rw[<-hT,sE];refine Nat.le_trans (List.length_filter_le _ _) ?_;rw[List.length_take];omega
   have y1:ixD (plD u ls) (.int (k:Int))=some (wD l.w):=Au (mk:=λl:Lt=>wD l.w) g1;have y2:ixD (wD l.w) (.int (i:Int))=some (.int (q:Int)):=atI_mapN (by rw[l0,Nat.sub_zero]at g3;exact g3);have y3:ixD (tpD p) (.int (q:Int))=some (pkD a):=atI_mapN hq;have y4:ixD (pkD a) (.int 0)=some (.str (kd a.1)):=lm _ _;have hc:decide (kd a.1=("pile":Str))=!a.1:=by cases a.1<;>decide+kernel
   have hb:T.length+1<big:=lt_of_le_of_lt (show T.length+1<=25 by omega) (by decide);have hD:(bF (gk p ls i (W.take j)))=.lst ((gk p ls i (W.take j)).map aw):=rfl;have hTD:((gk p ls i (W.take j)).map aw)[q]?=some (.lst (T.map λ(k:Nat)=>D.int (k:Int))):=by rw[getElem?_map,lg];rfl
   refine⟨[some (.sh,ai ps),some (.sh,plD u ls),some (.sh,aw row),some (.sh,aw W),some (.sh,.int (i:Int)),some (.deep,bF (gk p ls i (W.take (j+1)))),some (.sh,.int (k:Int)),o7,some (.deep,.int (q:Int))],q_set (evX_lf (d:=.int (q:Int)) ?_ rfl) (Kt (b:=!a.1) ?_ ?_ rfl),⟨_,_,rfl⟩⟩
   ·simp only[set_cons_succ,set_cons_zero,lH,map_some,aF,aG,av,aj,ay,Option.bind_some,y1,y2]
   ·simp only[set_cons_succ,set_cons_zero,lH,map_some,bb,aF,aG,av,aj,ay,db,uA,Option.bind_some,xp,y3,y4,zZ,bQ,hc];rfl
   ·rw[ht,ls_,hD];cases hb1:a.1 with
    |true=>
     refine(ao (we (j:=q) (ds:=(gk p ls i (W.take j)).map aw) (ds2:=T.map λ(k:Nat)=>D.int (k:Int)) (d:=.int (k:Int)) rfl rfl hTD rfl rfl (by rw[length_map];exact hb))).trans ?_;show some _=some _;simp only[if_true,bF,List.map_set,set_cons_succ,set_cons_zero,aw,List.map_append];rfl
    |false=>
     refine(ao (Dk (j:=q) (ds:=(gk p ls i (W.take j)).map aw) (ds2:=T.map λ(k:Nat)=>D.int (k:Int)) (d:=.int (k:Int)) rfl rfl hTD rfl rfl (by rw[length_map];exact hb))).trans ?_;show some _=some _;simp only[bF,List.map_set,set_cons_succ,set_cons_zero,aw,List.map_cons];rfl
  ·rintro Y' ⟨o6,o8,rfl⟩;rw[List.take_length];generalize hL:gk p ls i W=Ly;have hLl:Ly.length<=6:=by rw[<-hL,wn];exact hpl
   have hLe:∀x∈Ly,x.length<=24:=λx hx=>by
    rw[<-hL]at hx;obtain⟨m,hm⟩:=List.mem_iff_getElem?.mp hx;rw[jF]at hm;cases hpm:p[m]? with
    |none=>rw[hpm]at hm;cases hm
    |some a=>
     rw[hpm]at hm;cases hm;rw[sE];exact Nat.le_trans (List.length_filter_le _ _) hwl
   refine Eb (evX_lfs (d:=.lst []) (ds:=[]) (by simp) rfl (by simp) rfl) (n_forY (xs:=Ly) (mk:=aw) (λj Y=>∃o7,Y=[some (.sh,ai ps),some (.sh,plD u ls),some (.sh,aw row),some (.deep,aw (Ly.take j).flatten),some (.sh,.int (i:Int)),some (.sh,bF Ly),o6,o7,o8]) ?_ ?_ ⟨o7,rfl⟩ ?_ ?_)
   ·simp only[set_cons_succ,set_cons_zero,shv_o,bn,aG,av,aj];rfl
   ·show jX noV (va 5) (shv [some (.sh,ai ps),some (.sh,plD u ls),some (.sh,aw row),some (.deep,.lst []),some (.sh,.int (i:Int)),some (.sh,bF Ly),o6,o7,o8])=_;simp only[shv_o,bn,aG,av,aj];rfl
   ·rintro j x Y hx ⟨o7,rfl⟩;have ht:Ly.take (j+1)=Ly.take j++[x]:=by rw[List.take_succ,hx];rfl
    have hxl:=hLe x (mem_of_getElem? hx);have hfl:(Ly.take j).flatten.length<=144:=by
     refine Nat.le_trans (sv (n:=24) λy hy=>hLe y (List.mem_of_mem_take hy)) ?_;rw[List.length_take];have:min j Ly.length<=6:=by omega
     omega
    refine⟨_,(ao (kh (ds:=((Ly.take j).flatten).map λ(k:Nat)=>D.int (k:Int)) (es:=x.map λ(k:Nat)=>D.int (k:Int)) rfl ?_ (kg _) ?_)).trans rfl,⟨some (.sh,aw x),?_⟩⟩
    ·simp only[set_cons_succ,set_cons_zero,shv_o,aG,av,aj];rfl
    ·rw[length_map,length_map];have h3:(1000:Nat)<big:=by decide
     omega
    ·rw[ht,List.flatten_append];simp only[set_cons_succ,set_cons_zero,aw,List.map_append,List.flatten_cons,List.flatten_nil,List.append_nil]
   ·rintro Y' ⟨o7,rfl⟩;exact⟨_,rfl,⟨some (.sh,.int (i:Int)),some (.sh,bF Ly),o6,o7,o8,by rw[er,hL,List.take_length]⟩⟩
 ·rintro Y' ⟨o4,o5,o6,o7,o8,rfl⟩;exact aJ rfl
end K42
namespace K42
open PySem PySem.Spec PyProof.Rows L2
def kj (h8 bd aU:Fn):Ev->Option Out:=(af (cX (clF aU (x2 (va 0) (va 1)))) (af (aP 2 (evX noV noV dcN)) (af (frF (jX (enF (x1 (va 1))) (biF noD (x1 (va 1)))) (eTp 2 (cm (eNm 3) (cm (eNm 4) j4))) (af (zy 2 (clF bd (x3 (va 0) (cI 0) (va 4))) (va 3)) nxE)) (rtF (evX (lsF (ak [5] (jX noV (liG (x1 (va 2)) (s1F (x1 (va 2))))) (gNm 5) tQ (tpF (x3 (va 5) (ac ixD (va 2) (va 5)) (clF h8 (x3 (va 0) (cI 0) (ac ixD (va 1) (ac ixD (ac ixD (va 2) (va 5)) (cI 0))))))))) (ak [5] (jX noV (liG (x1 (va 2)) (s1F (x1 (va 2))))) (gNm 5) tQ (tpF (x3 (va 5) (ac ixD (va 2) (va 5)) (clF h8 (x3 (va 0) (cI 0) (ac ixD (va 1) (ac ixD (ac ixD (va 2) (va 5)) (cI 0)))))))) (fCo [5] (jX noV (liG (x1 (va 2)) (s1F (x1 (va 2))))) (gNm 5) tQ (frX (tpF (x3 (va 5) (ac ixD (va 2) (va 5)) (clF h8 (x3 (va 0) (cI 0) (ac ixD (va 1) (ac ixD (ac ixD (va 2) (va 5)) (cI 0))))))) noV (fTp (x3 (frX (va 5) noV noV) (frX (ac ixD (va 2) (va 5)) noV noV) (frX (clF h8 (x3 (va 0) (cI 0) (ac ixD (va 1) (ac ixD (ac ixD (va 2) (va 5)) (cI 0))))) noV (fCl h8 (x3 (va 0) (cI 0) (ac ixD (va 1) (ac ixD (ac ixD (va 2) (va 5)) (cI 0)))))))))))))))
theorem uM:∀ {ns:List Int} {m:Nat} {c:Int},ns.Nodup->ns[m]?=some c->idxK (ns.map Sum.inl) (.inl c)=some m
 |[],m,c,_,h=>by cases h
 |n::ns,0,c,_,h=>by
  cases h;show(if Sum.inl n=Sum.inl n then some 0 else _)=_;rw[if_pos rfl]
 |n::ns,m+1,c,nd,h=>by
  obtain⟨n1,n2⟩:=List.nodup_cons.mp nd;have h':ns[m]?=some c:=by simpa using h
  show(if(Sum.inl n:Key)=Sum.inl c then some 0 else _)=_;rw[if_neg (λz=>by have e:n=c:=Sum.inl.inj z;rw[e]at n1;exact n1 (mem_of_getElem? h')),uM n2 h'];rfl
theorem Hl {K:List Int} (nd:K.Nodup) (h:c∈K):∃m,idxK (K.map Sum.inl) (.inl c)=some m/\K[m]?=some c:=by
 obtain⟨m,hm⟩:=List.mem_iff_getElem?.mp h;exact⟨m,uM nd hm,hm⟩
theorem wr:∀ {K:List Int} {c:Int},c ∉ K->idxK (K.map Sum.inl) (.inl c)=none
 |[],c,_=>rfl
 |k::K,c,h=>by
  obtain⟨h1,h2⟩:=not_or.mp (λz=>h (mem_cons.mpr z));show(if(Sum.inl k:Key)=Sum.inl c then some 0 else _)=_;rw[if_neg (λz=>h1 (Sum.inl.inj z).symm),wr h2];rfl
theorem AL:∀ {K:List Int},c∈K->rD (K.map Sum.inl) (K.map G) (.inl c)=some (G c)
 |[],h=>by cases h
 |k::K,h=>by
  show(if(Sum.inl k:Key)=Sum.inl c then some (G k)else rD (K.map Sum.inl) (K.map G) (.inl c))=_;by_cases e:k=c
  ·rw[e,if_pos rfl]
  ·rw[if_neg (λz=>e (Sum.inl.inj z))];exact AL ((mem_cons.mp h).resolve_left (λz=>e z.symm))
theorem sF:∀K:List Int,uj (K.map Sum.inl)=some K
 |[]=>rfl
 |k::K=>by
  show(uj (K.map Sum.inl)).bind _=_;rw[sF K];rfl
def mem1 (cl:List Int) (i:Nat) (c:Int):List Nat:=(List.range i).filter λk=>decide (cl.getD k 0=c)
def km (cl:List Int) (i:Nat):D:=.dct ((kys (cl.take i)).map Sum.inl) ((kys (cl.take i)).map λc=>aw (mem1 cl i c))
theorem qJ {cl} (hc:cl.getD i 0=c) (d:Int):mem1 cl (i+1) d=if d=c then mem1 cl i d++[i]else mem1 cl i d:=by
 unfold mem1;rw[List.range_succ,List.filter_append];by_cases e:d=c
 ·rw[if_pos e,List.filter_cons,if_pos (by rw[hc,e];exact decide_eq_true rfl)];rfl
 ·rw[if_neg e,List.filter_cons,if_neg (by rw[hc];simpa using λz=>e z.symm)];simp
theorem AM {cl} (h:cl[i]?=some c) (hi:i<=24):uk ((kys (cl.take i)).map Sum.inl) ((kys (cl.take i)).map λc=>aw (mem1 cl i c)) (.inl c) (.int (i:Int))=some ((kys (cl.take (i+1))).map Sum.inl,(kys (cl.take (i+1))).map λc=>aw (mem1 cl (i+1) c)):=by
 have hc:cl.getD i 0=c:=by rw[List.getD_eq_getElem?_getD,h];rfl
 have ht:cl.take (i+1)=cl.take i++[c]:=by rw[List.take_add_one,h];rfl
 have nd:=pF (cl.take i);have ln:∀d,(mem1 cl i d).length<=i:=λd=>by
  refine Nat.le_trans (List.length_filter_le _ _) ?_;rw[length_range];exact le_refl _
 rw[ht,jE];have emp:c ∉ kys (cl.take i)->mem1 cl i c=[]:=λhn=>by
  unfold mem1;rw[List.filter_eq_nil_iff];intro k hk z;have hk':=List.mem_range.mp hk;have z:=of_decide_eq_true z;refine hn (kys_mem.mpr ?_);have hil:i<cl.length:=(List.getElem?_eq_some_iff.mp h).1;rw[List.getD_eq_getElem?_getD,getElem?_eq_getElem (by omega)]at z;have z:cl[k]=c:=z;rw[<-z];exact List.mem_take_iff_getElem.mpr ⟨k,by omega,rfl⟩
 generalize kys (cl.take i)=K at*;unfold uk;by_cases hk:c∈K
 ·obtain⟨m,e1,e2⟩:=Hl nd hk;rw[e1,if_pos hk];have e3:(K.map λc=>aw (mem1 cl i c))[m]?=some (aw (mem1 cl i c)):=by rw[getElem?_map,e2];rfl
  show((K.map λc=>aw (mem1 cl i c))[m]?).bind _=_;rw[e3,Option.bind_some];show(if((mem1 cl i c).map λ(k:Nat)=>D.int (k:Int)).length+1<big then some (K.map Sum.inl,(K.map λc=>aw (mem1 cl i c)).set m (.lst ((mem1 cl i c).map (λ(k:Nat)=>D.int (k:Int))++[.int (i:Int)])))else none)=_;rw[if_pos (by rw[length_map];have:=ln c;exact lt_of_le_of_lt (show _<=25 by omega) (by decide))];congr 2;apply List.ext_getElem?;intro j;by_cases hj:j=m
  ·subst hj;have hl:j<(K.map λc=>aw (mem1 cl i c)).length:=(List.getElem?_eq_some_iff.mp e3).1;rw[List.getElem?_set_self hl,getElem?_map,e2];show _=some (aw (mem1 cl (i+1) c));rw[qJ hc,if_pos rfl];unfold aw;rw[List.map_append];rfl
  ·rw[List.getElem?_set_ne (Ne.symm hj),getElem?_map,getElem?_map];cases hx:K[j]? with
   |none=>rfl
   |some d=>
    have hd:d≠c:=λz=>hj (by
     have:=uM nd hx;rw[z,e1]at this;exact(Option.some.inj this).symm)
    show some (aw (mem1 cl i d))=some (aw (mem1 cl (i+1) d));rw[qJ hc,if_neg hd]
 ·rw[wr hk,if_neg hk];show(if _=_ then _ else _)=_;rw[if_pos (by rw[length_map,length_map]),List.map_append,List.map_append];congr 2
  ·refine congr (congrArg HAppend.hAppend (List.map_congr_left λd hd=>?_)) ?_
   ·show aw (mem1 cl i d)=aw (mem1 cl (i+1) d);rw[qJ hc,if_neg (λz:d=c=>hk (z▸hd))]
   ·show[D.lst [.int (i:Int)]]=[aw (mem1 cl (i+1) c)];rw[qJ hc,if_pos rfl,emp hk];rfl
def cdz (ps:List (List Pk)) (l:Lt):Int:=kf ps 0 l.w
def cl (ps:List (List Pk)) (ls:List Lt):List Int:=ls.map (cdz ps)
def sdz (ps:List (List Pk)) (ls:List Lt) (c:Int):Int:=((ls.find? λl=>decide (cdz ps l=c)).map λl=>eF ps 0 l.w).getD 0
structure Pln (ps:List (List Pk)) (ls:List Lt):Prop where
 v:Valid ps
 w:Wide ps
 n:ls.length<=24
 o:∀l∈ls,One ps l
theorem Pln.ok (P:Pln ps ls):∀l∈ls,LtOk ps l:=λl hl=>(P.o l hl).ok P.w
theorem Pln.t (P:Pln ps ls):∀l∈ls,l.t=0:=λl hl=>(P.o l hl).t
theorem nn (P:Pln ps ls) (h:ls[k]?=some l):cd ps ls ps.length k=cdz ps l/\gS ps l ps.length=eF ps 0 l.w:=by
 have m:=mem_of_getElem? h;have e:=Mv P.v (P.ok l m);rw[P.t l m]at e;unfold cd cdz;rw[h];exact e
theorem wt (P:Pln ps ls) {k:Nat} (h:ls[k]?=some l):sdz ps ls (cdz ps l)=eF ps 0 l.w:=by
 unfold sdz;cases hf:ls.find? (λl'=>decide (cdz ps l'=cdz ps l))with
 |none=>
  have:=List.find?_eq_none.mp hf l (mem_of_getElem? h);simp at this
 |some l'=>
  have e:cdz ps l'=cdz ps l:=by simpa using List.find?_some hf
  obtain⟨k',hk'⟩:=List.mem_iff_getElem?.mp (List.mem_of_find?_eq_some hf);have a:=nn P h;have b:=nn P hk';have:=pE P.v P.ok P.t hk' h ps.length (le_refl _) (by rw[a.1,b.1,e]);show eF ps 0 l'.w=_;rw[<-a.2,<-b.2,this]
def tri (ps:List (List Pk)) (ls:List Lt) (c:Int):D:=.tup [.int c,aw (mem1 (cl ps ls) ls.length c),.int (sdz ps ls c)]
def srtK (ps:List (List Pk)) (ls:List Lt):List Int:=gx (kys (cl ps ls))
def clsD (ps:List (List Pk)) (ls:List Lt):D:=.lst ((srtK ps ls).map (tri ps ls))
theorem uN (ps:List (List Pk)) (ls:List Lt):(cl ps ls).length=ls.length:=length_map _
theorem Ec (P:Pln ps ls):(kys (cl ps ls)).length<=24:=by
 have:=wm (cl ps ls);have:=P.n;rw[uN]at*;omega
theorem srt_mem:c∈gx l↔c∈l:=(List.mergeSort_perm _ _:(gx l).Perm l).mem_iff
theorem Dl (h:c∈kys (cl ps ls)):∃k r l,mem1 (cl ps ls) ls.length c=k::r/\ls[k]?=some l/\cdz ps l=c:=by
 obtain⟨m,hm⟩:=List.mem_iff_getElem?.mp (kys_mem.mp h);have hml:m<ls.length:=by rw[<-uN ps ls];exact(List.getElem?_eq_some_iff.mp hm).1
 have mm:m∈mem1 (cl ps ls) ls.length c:=List.mem_filter.mpr ⟨List.mem_range.mpr hml,by rw[List.getD_eq_getElem?_getD,hm];exact decide_eq_true rfl⟩;cases hr:mem1 (cl ps ls) ls.length c with
 |nil=>rw[hr]at mm;cases mm
 |cons k r=>
  have hk:k∈mem1 (cl ps ls) ls.length c:=by rw[hr];exact mem_cons_self ..
  obtain⟨h1,h2⟩:=List.mem_filter.mp hk;have h1:=List.mem_range.mp h1;have h2:=of_decide_eq_true h2;refine⟨k,r,ls[k],rfl,getElem?_eq_getElem h1,?_⟩;rw[List.getD_eq_getElem?_getD]at h2;unfold cl at h2;rw[getElem?_map,getElem?_eq_getElem h1]at h2;exact h2
theorem Dm {K} (h:xs Y=some [.dct (K.map Sum.inl) ds]) (hl:K.length<64):jX noV (liG xs (s1F xs)) Y=some ((gx K).map D.int):=by
 have e:s1F xs Y=some ((gx K).map D.int):=by
  unfold s1F orO;dsimp only;rw[h];show vD [.dct (K.map Sum.inl) ds]=_;show(uj (K.map Sum.inl)).bind _=_;rw[sF,Option.bind_some,if_pos hl]
 show(liG xs (s1F xs) Y).bind seqD=_;rw[sx e];rfl
theorem Ku {k:Nat} (h:ls[k]?=some l):ixD (plD true ls) (.int (k:Int))=some (wD l.w):=atI_mapN (mk:=λl:Lt=>wD l.w) h
end K42
namespace K42
open PySem PySem.Spec PyProof.Rows L2
def Hn (f:List D->Option Sl):Prop:=∀ (ps:List (List Pk)) (ls:List Lt),Pln ps ls->∃c,f [ah ps,plD true ls]=some (c,clsD ps ls)
theorem Dn {R L Sp} (h:R (vw Y)=some (.lst ds)) (hL:L (vw Y)=some ds) (hS:lfL ds=false->Sp (vw Y)=none) (hl2:L (shv Y)=none) (h2:R (shv Y)=none):∃z:Cat×Ev,evX R L Sp Y=some ((z.1,.lst ds),z.2):=by
 cases f:lfL ds with
 |true=>exact⟨(.deep,Y),evX_lfs h rfl hL f⟩
 |false=>
  refine⟨(.sh,cH Y),?_⟩;unfold evX orO lE kY rH w9 frX orO lfO js;simp[h,hL,f,hS f,hl2,h2]
theorem AN {R L Sp} (h:R Y=some d) (f:lfD d=false) (hL:L Y=none) (hS:Sp Y=none):frX R L Sp Y=none:=by
 unfold frX orO lfO js;simp[h,f,hL,hS]
theorem Ho {cs:List Int} {g:Int->List D} (hJ:J (vw Y)=some (cs.map D.int)) (hl:cs.length<big) (hN:J (shv Y)=none) (hE:∀c∈cs,E ((wipe [5] (vw Y)).set 5 (some (.int c)))=some (f c)/\lfD (f c)=false/\ac ixD (va 2) (va 5) ((wipe [5] (vw Y)).set 5 (some (.int c)))=some (.lst (g c))):
  ∃z:Cat×Ev,evX (lsF (ak [5] J (gNm 5) tQ E)) (ak [5] J (gNm 5) tQ E) (fCo [5] J (gNm 5) tQ (frX E noV (fTp (aa (frX (va 5) noV noV) (aa (frX (ac ixD (va 2) (va 5)) noV noV) X))))) Y=some ((z.1,.lst (cs.map f)),z.2):=by
 have hm:ak [5] J (gNm 5) tQ E (vw Y)=some (cs.map f):=aN hJ (λc hc=>by simp only[bR,eB,lG,Option.bind_some,if_true,(hE c hc).1]) hl
 have hn:∀F,ak [5] J (gNm 5) tQ F (shv Y)=none:=λF=>by unfold ak;rw[hN];rfl
 refine Dn (by rw[bz,hm];rfl) hm (λhne=>?_) (hn _) (by rw[bz,hn];rfl)
 unfold fCo ak
 rw[hJ]
 cases cs with
 |nil=>cases hne
 |cons c cs=>
  obtain⟨e1,e2,e3⟩:=hE c mem_cons_self;have e4:frX (ac ixD (va 2) (va 5)) noV noV ((wipe [5] (vw Y)).set 5 (some (.int c)))=none:=AN e3 rfl rfl rfl;have e5:aa (frX (ac ixD (va 2) (va 5)) noV noV) X ((wipe [5] (vw Y)).set 5 (some (.int c)))=none:=by rw[ag,e4];rfl
  have e6:fTp (aa (frX (va 5) noV noV) (aa (frX (ac ixD (va 2) (va 5)) noV noV) X)) ((wipe [5] (vw Y)).set 5 (some (.int c)))=none:=by
   unfold fTp;rw[ag,e5];cases frX (va 5) noV noV ((wipe [5] (vw Y)).set 5 (some (.int c)))<;>rfl
  have e7:=AN e1 e2 (show noV _=none from rfl) e6;have e8:gI (gNm 5) tQ (frX E noV (fTp (aa (frX (va 5) noV noV) (aa (frX (ac ixD (va 2) (va 5)) noV noV) X)))) (wipe [5] (vw Y)) (.int c)=none:=by
   simp only[bR,eB,lG,Option.bind_some,if_true,e7,Option.bind_none]
  rw[Option.bind_some,List.map_cons];show((bZ ((gI (gNm 5) tQ _ (wipe [5] (vw Y)) (.int c)).bind _)).bind _)=none;rw[e8];rfl
theorem Kv (hf:Aq fa) (hc:vZ wc) (hl:AC lw):Hn (aX 2 6 (kj fa wc lw)):=λps ls P=>by
 have e1:=hl true ps ls P.v P.w P.n P.o;have n24:=P.n;suffices h:∃c,kj fa wc lw [some (.sh,ah ps),some (.sh,plD true ls),none,none,none,none]=some (.rt (c,clsD ps ls))/\True by
  obtain⟨c,h,_⟩:=h;exact⟨c,aC rfl h⟩
 unfold kj;refine qH (d:=.non) ?_ ?_
 ·simp only[az,aB,aA,clF_a,ag,am,aG,aj,av,Option.bind_some,e1,aM]
 refine AE (s:=(.deep,km (cl ps ls) 0)) (Y':=[some (.sh,ah ps),some (.sh,plD true ls),none,none,none,none]) rfl ?_;refine D9 (xs:=ls.zipIdx) (mk:=λp=>.tup [.int (p.2:Nat),wD p.1.w]) (λi Y=>∃o3 o4,Y=[some (.sh,ah ps),some (.sh,plD true ls),some (.deep,km (cl ps ls) i),o3,o4,none]) ?_ ⟨none,none,rfl⟩ ?_ ?_
 ·refine D8 ?_;show(seqD (plD true ls)).bind (λxs=>some (lh xs))=_;rw[show seqD (plD true ls)=some (ls.map λl=>wD l.w)from rfl,Option.bind_some,pk]
 ·rintro i ⟨l,n⟩ Y hx ⟨o3,o4,rfl⟩;rw[List.getElem?_zipIdx]at hx;obtain⟨l',hl',e⟩:=Option.map_eq_some_iff.mp hx;rw[Nat.zero_add]at e;cases e;have hi:i<ls.length:=(List.getElem?_eq_some_iff.mp hl').1;have ml:=mem_of_getElem? hl';have ec:=hc ps 0 l.w P.v (Nat.zero_le _) (P.o l ml).w;have hci:(cl ps ls)[i]?=some (cdz ps l):=by unfold cl;rw[getElem?_map,hl'];rfl
  show∃Y',af (zy 2 _ _) nxE [some (.sh,ah ps),some (.sh,plD true ls),some (.deep,km (cl ps ls) i),some (.sh,.int (i:Int)),some (.sh,wD l.w),none]=some (.nx Y')/\_;refine Ki (Y':=[some (.sh,ah ps),some (.sh,plD true ls),some (.deep,km (cl ps ls) (i+1)),some (.sh,.int (i:Int)),some (.sh,wD l.w),none]) ?_ ⟨_,_,rfl⟩;have kl:(kys ((cl ps ls).take i)).length<=24:=by
   have:=wm ((cl ps ls).take i);rw[List.length_take]at this;omega
  have ew:clF wc (aa (va 0) (aa (cI 0) (aa (va 4) ae))) (vw [some (.sh,ah ps),some (.sh,plD true ls),some (.deep,km (cl ps ls) i),some (.sh,.int (i:Int)),some (.sh,wD l.w),none])=some (.int (cdz ps l)):=by
   simp only[az,aB,aA,clF_a,ag,am,aG,db,aj,av,Option.bind_some,show wc [ah ps,.int 0,wD l.w]=_ from ec,aM];rfl
  unfold zy;show(((clF wc _ (vw [some (.sh,ah ps),some (.sh,plD true ls),some (.deep,km (cl ps ls) i),some (.sh,.int (i:Int)),some (.sh,wD l.w),none])).bind λy=>_):Option Out)=_;rw[ew,Option.bind_some];show((uk ((kys ((cl ps ls).take i)).map Sum.inl) ((kys ((cl ps ls).take i)).map λc=>aw (mem1 (cl ps ls) i c)) (.inl (cdz ps l)) (.int (i:Int))).bind λz=>if((kys ((cl ps ls).take i)).map Sum.inl).length+1<big then _ else none)=_;rw[AM hci (by omega),Option.bind_some,if_pos (by rw[length_map];exact lt_of_le_of_lt (show _<=25 by omega) (by decide))];rfl
 ·rintro Y ⟨o3,o4,rfl⟩;rw[List.length_zipIdx];have kl:=Ec P;have hk:(cl ps ls).take ls.length=cl ps ls:=List.take_of_length_le (by rw[uN];exact le_refl _);have hJ:jX noV (liG (aa (va 2) ae) (s1F (aa (va 2) ae))) [some (ah ps),some (plD true ls),some (km (cl ps ls) ls.length),o3.map (·.2),o4.map (·.2),none]=some ((srtK ps ls).map D.int):=by
   refine Dm (K:=kys (cl ps ls)) (ds:=(kys (cl ps ls)).map λc=>aw (mem1 (cl ps ls) ls.length c)) ?_ (by omega);show some [km (cl ps ls) ls.length]=_;unfold km;rw[hk]
  have sl:(srtK ps ls).length<=24:=by rw[show(srtK ps ls).length=(kys (cl ps ls)).length from(List.mergeSort_perm _ _:(gx (kys (cl ps ls))).Perm _).length_eq];exact kl
  have i1:∀c∈srtK ps ls,ixD (km (cl ps ls) ls.length) (.int c)=some (aw (mem1 (cl ps ls) ls.length c)):=λc hc=>by
   unfold km;rw[hk];exact AL (G:=λc=>aw (mem1 (cl ps ls) ls.length c)) (srt_mem.mp hc)
  obtain⟨z,e⟩:=Ho (Y:=[some (.sh,ah ps),some (.sh,plD true ls),some (.deep,km (cl ps ls) ls.length),o3,o4,none]) (f:=tri ps ls) (g:=λc=>(mem1 (cl ps ls) ls.length c).map λ(k:Nat)=>D.int (k:Int)) hJ (lt_of_le_of_lt sl (by decide)) rfl (λc hcs=>by
   obtain⟨k,r,l,m1,m2,m3⟩:=Dl (srt_mem.mp hcs);have ef:=hf ps 0 l.w P.v (Nat.zero_le _) (P.o l (mem_of_getElem? m2)).w;have i2:ixD (aw (mem1 (cl ps ls) ls.length c)) (.int 0)=some (.int (k:Int)):=by
    rw[m1];exact lm _ _
   have cp:∀a b c:D,bZ (some [a,b,c])=some [a,b,c]:=λ_ _ _=>cC (show 3<big by decide);refine⟨?_,rfl,i1 c hcs⟩;show tpF (aa (va 5) (aa (ac ixD (va 2) (va 5)) (aa (clF fa (aa (va 0) (aa (cI 0) (aa (ac ixD (va 1) (ac ixD (ac ixD (va 2) (va 5)) (cI 0))) ae)))) ae))) [some (ah ps),some (plD true ls),some (km (cl ps ls) ls.length),o3.map (·.2),o4.map (·.2),some (.int c)]=_;simp only[mP,clF_a,ag,am,aF,aG,db,aj,ay,av,Option.bind_some,i1 c hcs,i2,Ku m2,show fa [ah ps,.int 0,wD l.w]=_ from ef,aM,cp];unfold tri;rw[<-m3,wt P m2])
  exact⟨z.1,q_ret e,trivial⟩
theorem Kw (ha:fa Y=some (.lst a)) (hb:fb Y=some (.lst b)) (h:(a++b).length<big):iX fa fb Y=some (a++b):=by
 unfold iX;rw[ha,Option.bind_some,hb,Option.bind_some];exact cC h
theorem wu:∀ {r:List Nat},a∈r->xn (a:Int) (r.map λ(k:Nat)=>(k:Int))=some (r.idxOf a)
 |[],h=>by cases h
 |x::r,h=>by
  unfold xn;rw[List.map_cons,List.findIdx?_cons];by_cases e:x=a
  ·subst e;simp[List.idxOf_cons]
  ·have ha:a∈r:=(mem_cons.mp h).resolve_left (λz=>e z.symm);have ih:=wu ha;unfold xn at ih;have e':((x:Int)==(a:Int))=false:=by simp;omega
   rw[e',ih];have e2:(x==a)=false:=by simp[e]
   simp[List.idxOf_cons,e2]
theorem Do (hg:sg g) (hv:Valid ps):g [ai ps]=some [(("passes":Str),ai ps)]:=by
 have i1:(ps.map λp=>(false,p)).map (·.2)=ps:=by rw[List.map_map];exact List.map_id ps
 have i2:(ps.map λp=>(false,p)).map paD=ps.map tpD:=by rw[List.map_map];rfl
 have q:=hg false (ps.map λp=>(false,p)) (by rw[i1];exact hv);rw[i1,i2]at q;exact q
theorem jG {β:Type} {f}:∀ {xs:List β},(∀x∈xs,okE (f x)=true/\dep (f x)<=n)->okL (xs.map f)=true/\dP (xs.map f)<=n
 |[],_=>⟨rfl,Nat.zero_le _⟩
 |x::xs,h=>by
  obtain⟨a,b⟩:=h x mem_cons_self;obtain⟨c,d⟩:=jG (xs:=xs) λy hy=>h y (mem_cons_of_mem _ hy);exact⟨by show(okE (f x)&&okL (xs.map f))=true;rw[a,c];rfl,by show max (dep (f x)) (dP (xs.map f))<=n;omega⟩
theorem Kx (w:List Nat):okE (wD w)=true/\dep (wD w)<=1:=by
 obtain⟨a,b⟩:=jG (f:=λ(k:Nat)=>D.int (k:Int)) (n:=0) (xs:=w) λk _=>⟨rfl,le_refl _⟩;exact⟨a,Nat.succ_le_succ b⟩
theorem Hq (ls:List Lt):okE (plD true ls)=true/\dep (plD true ls)<=2:=by
 obtain⟨a,b⟩:=jG (f:=λl:Lt=>wD l.w) (n:=1) (xs:=ls) λl _=>Kx l.w;exact⟨a,Nat.succ_le_succ b⟩
theorem Ed (ls:List Lt):lfL (ls.map λl=>wD l.w)=true:=cA λd hd=>by
 obtain⟨l,_,rfl⟩:=List.mem_map.mp hd;exact AI l.w
end K42
namespace K42
open PySem PySem.Spec PyProof.Rows L2
def fV:Ev->Option Out:=(af (ifS (aD (ac (aQ true) (lnF (va 0)) (lnF (va 1)))) (af noO' nxE) nxE) nxE)
def ko (eO ck aU:Fn):Ev->Option Out:=(af (cX (clF aU (x2 (va 0) (va 1)))) (af (cX (clF aU (x2 (va 2) (va 3)))) (af (cX (clF ck (x2 (va 1) (va 3)))) (af (aP 4 (evX (liG (x1 (biF noD (x1 (lnF (va 1))))) (orO (lrF (x1 (lnF (va 1)))) (l1F (x1 (biF noD (x1 (lnF (va 1)))))))) (orO (lrF (x1 (lnF (va 1)))) (l1F (x1 (biF noD (x1 (lnF (va 1))))))) (fNo (x1 (biF noD (x1 (lnF (va 1)))))))) (af (frF (jX noV (tpF (x2 (va 4) (liG (x1 (biF noD (x1 (va 4)))) (orO (rvF (x1 (va 4))) (l1F (x1 (biF noD (x1 (va 4)))))))))) (eNm 5) (af (ifS (aD (ac (aQ true) (clF eO (x3 (va 0) (va 1) (va 5))) (clF eO (x3 (va 2) (va 3) (va 5))))) (af (rtN 5) nxE) nxE) nxE)) (rtF (evV cN)))))))
theorem sG:∀a b:List Nat,eqL (a.map λ(k:Nat)=>D.int (k:Int)) (b.map λ(k:Nat)=>D.int (k:Int))=decide (a=b)
 |[],[]=>rfl
 |[],_::_=>rfl
 |_::_,[]=>rfl
 |x::a,y::b=>by
  show(((x:Int)==(y:Int))&&eqL (a.map λ(k:Nat)=>D.int (k:Int)) (b.map λ(k:Nat)=>D.int (k:Int)))=_;rw[sG a b];by_cases h:x=y
  ·subst h;simp
  ·have:¬ ((x:Int)=(y:Int)):=by omega
   simp[h,this]
theorem wv (neg:Bool) (a b:List Nat):aQ neg (aw a) (aw b)=some (.bl (if neg then !decide (a=b)else decide (a=b))):=by
 unfold aQ jq;have h1:okE (aw a)=true:=(i6 a).1;have h2:okE (aw b)=true:=(i6 b).1;have h3:dep (aw a)<=50:=by show dP _+1<=50;rw[(i6 a).2];decide
 rw[if_neg (by show¬ ((false&&bq (aw b)&&_)=true);simp),h1,h2,decide_eq_true h3,if_pos (by rfl)];rw[show eqD (aw a) (aw b)=decide (a=b)from sG a b];rfl
def Hr (f:Fn):Prop:=∀ (u v:Bool) (l1 l2:List Lt),l1.length=l2.length->f [plD u l1,plD v l2]=some (.deep,.non)
theorem Ky:Hr (aX 2 2 fV):=λu v l1 l2 h=>by
 have hs:aL 2 [plD u l1,plD v l2]=[some (.sh,plD u l1),some (.sh,plD v l2)]:=rfl;have y1:seqD (plD u l1)=some (l1.map λl=>wD l.w):=dQ _ _;have y2:seqD (plD v l2)=some (l2.map λl=>wD l.w):=dQ _ _;refine eC (Y:=[some (.sh,plD u l1),some (.sh,plD v l2)]) rfl ?_;rw[hs];unfold fV;refine q_if0 ?_ rfl;simp only[az,aA,bb,aF,br,ag,am,aG,aj,ay,Option.bind_some,bE,y1,y2,length_map,h,iK,bQ];simp
structure Two (p1 p2:List (List Pk)) (l1 l2:List Lt):Prop where
 v1:Valid p1
 v2:Valid p2
 w1:Wide p1
 w2:Wide p2
 n1:l1.length<=24
 n:l2.length=l1.length
 o1:∀l∈l1,One p1 l
 o2:∀l∈l2,One p2 l
def wlk (ps:List (List Pk)) (ls:List Lt) (c:List Nat):List Nat:=aZ ps ls c ps.length
def np (p1 p2:List (List Pk)) (l1 l2:List Lt):Option (List Nat):=if wlk p1 l1 (List.range l1.length)=wlk p2 l2 (List.range l1.length)then(if wlk p1 l1 (List.range l1.length).reverse=wlk p2 l2 (List.range l1.length).reverse then none else some (List.range l1.length).reverse)else some (List.range l1.length)
def Ee:Option (List Nat)->D
 |none=>.non
 |some r=>aw r
theorem eq_bb (neg a b:Bool):aQ neg (.bl a) (.bl b)=some (.bl (if neg then !decide (a=b)else decide (a=b))):=by cases neg<;>cases a<;>cases b<;>rfl
theorem sH {step} (h:step d Y=some (.nx Y')) (k:fw step ds Y'=out):fw step (d::ds) Y=out:=by unfold fw;rw[h];exact k
theorem AO {step} (h:step d Y=some (.rt s)):fw step (d::ds) Y=some (.rt s):=by unfold fw;rw[h];rfl
theorem AQ (hN:J (shv Y)=none) (hJ:J (vw Y)=some ds):frF J tg F Y=fw (lF tg F) ds (cH Y):=by
 have h1:gw J tg F Y=none:=by unfold gw;rw[hN];rfl
 have h2:rK J tg F Y=fw (lF tg F) ds (cH Y):=by unfold rK;rw[hJ];rfl
 unfold frF orO;rw[h1,h2]
def uO (f:Fn):Prop:=∀ (u v:Bool) (p1 p2:List (List Pk)) (l1 l2:List Lt),Two p1 p2 l1 l2->∃c,f [ah p1,plD u l1,ah p2,plD v l2]=some (c,Ee (np p1 p2 l1 l2))
theorem Dp (hen:AD en) (hlc:Hr lc) (hlw:AC lw):uO (aX 4 6 (ko en lc lw)):=λu v p1 p2 l1 l2 t=>by
 have n2:l2.length<=24:=by rw[t.n];exact t.n1
 have a1:=hlw u p1 l1 t.v1 t.w1 t.n1 t.o1;have a2:=hlw v p2 l2 t.v2 t.w2 n2 t.o2;have a3:=hlc u v l1 l2 t.n.symm;have y1:seqD (plD u l1)=some (l1.map λl=>wD l.w):=dQ _ _;have lr:∀Y:Vv,dD Y 1=some (plD u l1)->orO (lrF (x1 (lnF (va 1)))) (l1F (x1 (biF noD (x1 (lnF (va 1)))))) Y=some ((List.range l1.length).map λ(k:Nat)=>D.int (k:Int)):=λY h=>Kc t.n1 (by simp only[ag,am,br,aG,h,Option.bind_some,bE,y1,length_map]);have st:∀ (c R:List Nat) (o:Option Sl),c.Perm (List.range l1.length)->lF (eNm 5) (af (ifS (aD (ac (aQ true) (clF en (x3 (va 0) (va 1) (va 5))) (clF en (x3 (va 2) (va 3) (va 5))))) (af (rtN 5) nxE) nxE) nxE) (aw c) [some (.sh,ah p1),some (.sh,plD u l1),some (.sh,ah p2),some (.sh,plD v l2),some (.sh,aw R),o]=some (if wlk p1 l1 c=wlk p2 l2 c then .nx [some (.sh,ah p1),some (.sh,plD u l1),some (.sh,ah p2),some (.sh,plD v l2),some (.sh,aw R),some (.sh,aw c)]else .rt (.sh,aw c)):=λc R o pm=>by
  have b1:=hen u p1 l1 c t.v1 t.w1 t.n1 t.o1 pm;have b2:=hen v p2 l2 c t.v2 t.w2 n2 t.o2 (by rw[t.n];exact pm);have e:aD (ac (aQ true) (clF en (x3 (va 0) (va 1) (va 5))) (clF en (x3 (va 2) (va 3) (va 5)))) (vw [some (.sh,ah p1),some (.sh,plD u l1),some (.sh,ah p2),some (.sh,plD v l2),some (.sh,aw R),some (.sh,aw c)])=some (!decide (wlk p1 l1 c=wlk p2 l2 c)):=by
   simp only[az,aA,bb,aF,clF_a,ag,am,aG,av,aj,ay,Option.bind_some,b1,b2,aM,wv,bQ];rfl
  show af (ifS _ _ _) nxE [some (.sh,ah p1),some (.sh,plD u l1),some (.sh,ah p2),some (.sh,plD v l2),some (.sh,aw R),some (.sh,aw c)]=_;by_cases h:wlk p1 l1 c=wlk p2 l2 c
  ·rw[decide_eq_true h]at e;rw[if_pos h];exact q_if0 e rfl
  ·rw[decide_eq_false h]at e;rw[if_neg h];exact aJ ((jz e).trans rfl)
 generalize hR:List.range l1.length=R at*;have pmR:R.Perm R:=.refl _;have pmV:R.reverse.Perm R:=List.reverse_perm R;suffices h:∃c,ko en lc lw [some (.sh,ah p1),some (.sh,plD u l1),some (.sh,ah p2),some (.sh,plD v l2),none,none]=some (.rt (c,Ee (np p1 p2 l1 l2)))/\True by
  obtain⟨c,h,_⟩:=h;exact⟨c,aC rfl h⟩
 unfold ko;refine qH (d:=.non) ?_ (qH (d:=.non) ?_ (qH (d:=.non) ?_ (AE (evX_lfs (d:=aw R) (ds:=R.map λ(k:Nat)=>D.int (k:Int)) (sx (lr _ rfl)) rfl (lr _ rfl) (kg R)) ?_)))
 ·simp only[az,aB,aA,clF_a,ag,am,aG,aj,ay,Option.bind_some,a1,aM]
 ·simp only[az,aB,aA,clF_a,ag,am,aG,av,aj,ay,Option.bind_some,a2,aM]
 ·simp only[az,aB,aA,clF_a,ag,am,aG,av,aj,ay,Option.bind_some,a3,aM]
 have rv:orO (rvF (x1 (va 4))) (l1F (x1 (biF noD (x1 (va 4))))) [some (ah p1),some (plD u l1),some (ah p2),some (plD v l2),some (aw R),none]=some (R.reverse.map λ(k:Nat)=>D.int (k:Int)):=by
  unfold orO;rw[show rvF (x1 (va 4)) [some (ah p1),some (plD u l1),some (ah p2),some (plD v l2),some (aw R),none]=some (R.reverse.map λ(k:Nat)=>D.int (k:Int))by rw[<-su];rfl]
 have hJ:jX noV (tpF (x2 (va 4) (liG (x1 (biF noD (x1 (va 4)))) (orO (rvF (x1 (va 4))) (l1F (x1 (biF noD (x1 (va 4))))))))) [some (ah p1),some (plD u l1),some (ah p2),some (plD v l2),some (aw R),none]=some [aw R,aw R.reverse]:=by
  simp only[bn,mP,ag,am,aG,av,aj,Option.bind_some,sx rv,gh];rfl
 have s1:=st R R none pmR;have s2:=st R.reverse R (some (.sh,aw R)) pmV;unfold np;rw[hR];by_cases h1:wlk p1 l1 R=wlk p2 l2 R
 ·rw[if_pos h1]at s1⊢;by_cases h2:wlk p1 l1 R.reverse=wlk p2 l2 R.reverse
  ·rw[if_pos h2]at s2⊢;exact⟨.deep,(ao (Y':=[some (.sh,ah p1),some (.sh,plD u l1),some (.sh,ah p2),some (.sh,plD v l2),some (.sh,aw R),some (.sh,aw R.reverse)]) ((AQ rfl hJ).trans (sH s1 (sH s2 rfl)))).trans (q_ret (evX_lf rfl rfl)),trivial⟩
  ·rw[if_neg h2]at s2⊢;exact⟨.sh,aJ ((AQ rfl hJ).trans (sH s1 (AO s2))),trivial⟩
 ·rw[if_neg h1]at s1⊢;exact⟨.sh,aJ ((AQ rfl hJ).trans (AO s1)),trivial⟩
end K42
namespace K42
open PySem PySem.Spec PyProof.Rows L2
def gW (fl:Str->Str->Bool) (jg:Fn) (mt_codes:MT) (kk:Nat) (aO bM:Fn):Ev->Option Out:=(af (cX (clF bM (x2 (va 0) (va 1)))) (af (ifS (bP (trF (clF aO (x3 (va 2) (cI 0) (ac ga (meF (va 0) ae mt_codes kk "codes") (cI 1)))))) (af noO' nxE) nxE) (af (aP 3 evE) (af (aP 4 (evV (meF (va 0) ae mt_codes kk "codes"))) (af (aP 5 (evV (va 2))) (af (frF (jX (vtF (x1 (slF (flF fl "passes" (va 0)) (bO (va 1)) noP))) (biF noD (x1 (slF (flF fl "passes" (va 0)) (bO (va 1)) noP)))) (eNm 6) (af (aP 4 (evV (ac cV (va 4) (lnF (va 6))))) (af (aP 7 (evV (ac cV (va 5) (va 4)))) (af (aP 5 (evC jg (x3 (ac ixD (ac ixD (va 6) (va 7)) (cI 0)) (va 4) (ac ga (va 5) (ac cq (va 7) (va 4)))))) (af (rW 3 7 (evV (va 7)) (va 7)) nxE))))) (af (ifS (aD (ac (aQ true) (va 5) (ac ga (va 4) (cI 1)))) (rtF (evV cN)) nxE) (rtF (evX (tvF (x1 (va 3))) noV (fNo (x1 (biF noD (x1 (va 3))))))))))))))
def gm (fl:Str->Str->Bool) (bG:Fn):Ev->Option Out:=(rtF (evC bG (x1 (flF fl "passes" (va 0)))))
def sCM (mt:MT) (k:Nat):Prop:=∀ps:List (List Pk),Valid ps->oU mt k "codes" (ah ps) []=some (.deep,.int (prod ps:Nat))
theorem MA (hfl:fl "Mill" "passes"=true) (hc:ke co) (hv:Valid ps):aX 1 1 (gm fl co) [ah ps]=some (.deep,.int (prod ps:Nat)):=by
 have fm:iE fl "passes" (ah ps)=some (ai ps):=by simp[iE,ah,hfl]
 have hp:co [ai ps]=some (.deep,.int (prod ps:Nat)):=pj hc ps λp hp=>by have:=(hv.p hp).2.1;omega
 refine aC rfl ?_;show gm fl co [some (.sh,ah ps)]=_;refine q_ret (evX_lf ?_ rfl);simp only[az,aA,clF_a,ag,am,rY,aG,aj,Option.bind_some,fm,hp,aM]
theorem Kz (h:(xs Y).bind rvT=some ds):jX (vtF xs) R Y=some ds:=by
 unfold jX orO vtF;simp[h]
def lyN (q:Bool) (a c:Nat):Nat:=if q=true then c else a-1-c
theorem Hs (q:Bool) (h:c<a):lyN q a c<a:=by unfold lyN;split<;>omega
theorem Dq (q:Bool) {a c:Nat} (h:c<a):lay q (a:Int) (c:Int)=((lyN q a c:Nat):Int):=by
 unfold lay lyN;split<;>omega
theorem Dr (q:Bool) {a c:Nat} (h:c<a):lay q (a:Int) ((lyN q a c:Nat):Int)=(c:Int):=by
 unfold lay lyN;split<;>omega
def bk1 (s:Nat×Nat×List Nat) (p:List Pk):Nat×Nat×List Nat:=(s.1/p.length,lyN (pkAt (s.2.1/(s.1/p.length),p)).1 (s.1/p.length) (s.2.1%(s.1/p.length)),s.2.2++[s.2.1/(s.1/p.length)])
def bks (s:Nat×Nat×List Nat) (rs:List (List Pk)):Nat×Nat×List Nat:=rs.foldl bk1 s
theorem sI (s) (rs:List (List Pk)) (i:Nat) (p) (h:rs[i]?=some p):bks s (rs.take (i+1))=bk1 (bks s (rs.take i)) p:=by
 unfold bks;rw[List.take_succ,h];simp
theorem qK:∀ {ps:List (List Pk)},(∀p∈ps,1<=p.length)->1<=prod ps
 |[],_=>le_refl 1
 |p::r,h=>Nat.mul_le_mul (h p (mem_cons_self ..)) (qK λq hq=>h q (mem_cons_of_mem _ hq))
theorem Ds (hv:Valid ps) (k:Nat):1<=prod (ps.take k)/\prod (ps.take k)<=1000/\prod ps=prod (ps.take k)*prod (ps.drop k):=by
 have h1:1<=prod (ps.take k):=qK λp hp=>(hv.p (List.mem_of_mem_take hp)).1;have h2:1<=prod (ps.drop k):=qK λp hp=>(hv.p (List.mem_of_mem_drop hp)).1;have h3:prod ps=prod (ps.take k)*prod (ps.drop k):=by rw[<-gR,List.take_append_drop]
 have h4:=hv.codes;have h5:prod (ps.take k)*1<=prod (ps.take k)*prod (ps.drop k):=Nat.mul_le_mul_left _ h2;exact⟨h1,by omega,h3⟩
theorem uP {ps:List (List Pk)} (h:(ps.drop t).reverse[i]?=some p):i+t<ps.length/\ps[ps.length-1-i]?=some p:=by
 have hi:i<(ps.drop t).reverse.length:=by
  rcases Nat.lt_or_ge i (ps.drop t).reverse.length with h'|h'
  ·exact h'
  ·rw[List.getElem?_eq_none h']at h;cases h
 rw[List.length_reverse]at hi;rw[List.getElem?_reverse hi,List.getElem?_drop,List.length_drop]at h;rw[List.length_drop]at hi;refine⟨by omega,?_⟩;rw[<-h];congr 1;omega
structure BkOk (ps:List (List Pk)) (c i:Nat) (s:Nat×Nat×List Nat):Prop where
 a:s.1=prod (ps.take (ps.length-i))
 l:s.2.1<s.1
 n:s.2.2.length=i
 w:∀q∈s.2.2.reverse.zip (ps.drop (ps.length-i)),q.1<q.2.length
 c:walkC ((s.1:Nat),(s.2.1:Nat)) (s.2.2.reverse.zip (ps.drop (ps.length-i)))=(((prod ps:Nat):Int),(c:Int))
theorem ww (hv:Valid ps) (ok:BkOk ps c i s) (hp:(ps.drop t).reverse[i]?=some p):
  s.1/p.length=prod (ps.take (ps.length-(i+1)))/\s.1=s.1/p.length*p.length/\0<s.1/p.length/\s.1/p.length<=1000/\s.2.1/(s.1/p.length)<p.length/\s.2.1%(s.1/p.length)<s.1/p.length:=by
 obtain⟨hi,hp⟩:=uP hp
 have hq:=hv.p (mem_of_getElem? hp)
 have e1:ps.length-i=(ps.length-1-i)+1:=by omega
 have e2:ps.length-(i+1)=ps.length-1-i:=by omega
 have eP:s.1=prod (ps.take (ps.length-1-i))*p.length:=by rw[ok.a,e1,List.take_succ,hp,Option.toList_some,ph]
 have ht:=Ds hv (ps.length-1-i)
 have eA:s.1/p.length=prod (ps.take (ps.length-1-i)):=by rw[eP];exact Nat.mul_div_cancel _ (by omega)
 rw[eA,e2]
 refine⟨rfl,eP,by omega,by omega,?_,Nat.mod_lt _ (by omega)⟩
 have:=ok.l
 rw[eP]at this
 exact Nat.div_lt_of_lt_mul this
theorem Dt (hv:Valid ps) (ok:BkOk ps c i s) (hp:(ps.drop t).reverse[i]?=some p):BkOk ps c (i+1) (bk1 s p):=by
 obtain⟨h1,h2,h3,h4,h5,h6⟩:=ww hv ok hp;obtain⟨hi,hp'⟩:=uP hp;have e2:ps.length-(i+1)=ps.length-1-i:=by omega
 have e1:ps.length-i=(ps.length-1-i)+1:=by omega
 have ed:ps.drop (ps.length-(i+1))=p::ps.drop (ps.length-i):=by
  rw[e2,e1];have hl:ps.length-1-i<ps.length:=by omega
  rw[List.drop_eq_getElem_cons hl];rw[getElem?_eq_getElem hl]at hp';cases hp';rfl
 have er:(s.2.2++[s.2.1/(s.1/p.length)]).reverse=(s.2.1/(s.1/p.length))::s.2.2.reverse:=by rw[List.reverse_append];rfl
 have ez:(bk1 s p).2.2.reverse.zip (ps.drop (ps.length-(i+1)))=(s.2.1/(s.1/p.length),p)::s.2.2.reverse.zip (ps.drop (ps.length-i)):=by
  show(s.2.2++[s.2.1/(s.1/p.length)]).reverse.zip _=_;rw[er,ed,List.zip_cons_cons]
 refine⟨h1,Hs _ h6,?_,?_,?_⟩
 ·show(s.2.2++[s.2.1/(s.1/p.length)]).length=i+1;rw[length_append,ok.n];rfl
 ·rw[ez];intro q hq;rcases mem_cons.mp hq with rfl|hq
  ·exact h5
  ·exact ok.w q hq
 ·rw[ez,<-ok.c];show walkC (stp (((s.1/p.length:Nat):Int),((lyN (pkAt (s.2.1/(s.1/p.length),p)).1 (s.1/p.length) (s.2.1%(s.1/p.length)):Nat):Int)) (s.2.1/(s.1/p.length),p)) _=_;have es:stp (((s.1/p.length:Nat):Int),((lyN (pkAt (s.2.1/(s.1/p.length),p)).1 (s.1/p.length) (s.2.1%(s.1/p.length)):Nat):Int)) (s.2.1/(s.1/p.length),p)=(((s.1:Nat):Int),((s.2.1:Nat):Int)):=by
   unfold stp;rw[Dr _ h6];refine Prod.ext ?_ ?_
   ·show(((s.1/p.length:Nat):Int))*((p.length:Nat):Int)=_;rw[<-Int.natCast_mul,<-h2]
   ·show(((s.2.1/(s.1/p.length):Nat):Int))*((s.1/p.length:Nat):Int)+((s.2.1%(s.1/p.length):Nat):Int)=((s.2.1:Nat):Int);rw[<-Int.natCast_mul,<-Int.natCast_add,Nat.div_add_mod']
  rw[es]
theorem MB (hc:c<prod ps):BkOk ps c 0 (prod ps,c,[]):=by
 refine⟨by rw[Nat.sub_zero,List.take_length],hc,rfl,λq hq=>?_,rfl⟩;have hq':=hq;simp at hq'
theorem uQ (hv:Valid ps) (hc:c<prod ps) (t:Nat):∀i,i<=ps.length-t->BkOk ps c i (bks (prod ps,c,[]) ((ps.drop t).reverse.take i))
 |0,_=>MB hc
 |i+1,h=>by
  have hi:i<(ps.drop t).reverse.length:=by rw[List.length_reverse,List.length_drop];omega
  rw[sI _ _ _ _ (getElem?_eq_getElem hi)];exact Dt hv (uQ hv hc t i (by omega)) (getElem?_eq_getElem hi)
abbrev sW (ps:List (List Pk)) (c:Nat) (ws:List Nat) (A L:Nat) (o6 o7:Option Sl):Ev:=[sn (ah ps),sn (iN 0),sn (iN c),dp (aw ws),dp (iN A),dp (iN L),o6,o7]
abbrev FB (la:Fn):Ev->Option Out:=af (aP 4 (evV (ac cV (va 4) (lnF (va 6))))) (af (aP 7 (evV (ac cV (va 5) (va 4)))) (af (aP 5 (evC la (x3 (ac ixD (ac ixD (va 6) (va 7)) (cI 0)) (va 4) (ac ga (va 5) (ac cq (va 7) (va 4)))))) (af (rW 3 7 (evV (va 7)) (va 7)) nxE)))
theorem cw_step (hl:pi la) (hv:Valid ps) (ok:BkOk ps c i s) (hp:(ps.drop 0).reverse[i]?=some p) (o6 o7:Option Sl):
  ∃q6 q7,(eNm 6 (tpD p) (sW ps c s.2.2 s.1 s.2.1 o6 o7)).bind (FB la)=some (.nx (sW ps c (bk1 s p).2.2 (bk1 s p).1 (bk1 s p).2.1 q6 q7)):=by
 obtain⟨h1,h2,h3,h4,h5,h6⟩:=ww hv ok hp
 obtain⟨hi,hp'⟩:=uP hp
 have h66:=hv.len
 have hq:=hv.p (mem_of_getElem? hp')
 obtain⟨A,L,ws⟩:=s
 have hn:ws.length=i:=ok.n
 have h3:0<A/p.length:=h3
 have h4:A/p.length<=1000:=h4
 have h5:L/(A/p.length)<p.length:=h5
 have h6:L%(A/p.length)<A/p.length:=h6
 have eA:(A:Int)/(p.length:Int)=((A/p.length:Nat):Int):=rfl
 have eK:(L:Int)/((A/p.length:Nat):Int)=((L/(A/p.length):Nat):Int):=rfl
 show∃q6 q7,_=some (Out.nx (sW ps c (ws++[L/(A/p.length)]) (A/p.length) (lyN (pkAt (L/(A/p.length),p)).1 (A/p.length) (L%(A/p.length))) q6 q7))
 have eM:(L:Int)-((L/(A/p.length):Nat):Int)*((A/p.length:Nat):Int)=((L%(A/p.length):Nat):Int):=by
  have:=Nat.div_add_mod' L (A/p.length);have e:((L/(A/p.length):Nat):Int)*((A/p.length:Nat):Int)=((L/(A/p.length)*(A/p.length):Nat):Int):=(Int.natCast_mul _ _).symm;rw[e];omega
 generalize hB:A/p.length=B at*
 generalize hk:L/B=k at*
 have e0:∀q:Pk,ixD (pkD q) (.int 0)=some (.str (kd q.1)):=λq=>lm _ _
 have e6:ixD (tpD p) (iN k)=some (pkD (pkAt (k,p))):=Aj (q:=(k,p)) h5
 have e7:seqD (tpD p)=some (p.map pkD):=rfl
 have el:=hl (pkAt (k,p)).1 (B:Int) ((L%B:Nat):Int)
 rw[Dq _ h6]at el
 have ec:∀Y:Vv,dD Y 6=some (tpD p)->dD Y 7=some (iN k)->dD Y 4=some (iN B)->dD Y 5=some (iN L)->x3 (ac ixD (ac ixD (va 6) (va 7)) (cI 0)) (va 4) (ac ga (va 5) (ac cq (va 7) (va 4))) Y=some [.str (kd (pkAt (k,p)).1),.int (B:Int),.int ((L%B:Nat):Int)]:=λY g6 g7 g4 g5=>by
  simp only[aF,ag,am,aG,db,Option.bind_some,g4,g5,g6,g7,Ap (show k<1000000 by omega),lV,eM,e6,e0]
 refine⟨sn (tpD p),dp (iN k),?_⟩
 show af _ _ (sW ps c ws A L (sn (tpD p)) o7)=_
 refine q_set (evX_lf (d:=iN B) ?_ rfl) ?_
 ·simp only[lH,aA,map_some,Option.map_none,aF,br,ag,am,aG,av,aj,ay,Option.bind_some,bE,e7,length_map];rw[gf (show(0:Int)<(p.length:Int)by omega) (by omega),eA]
 show af _ _ (sW ps c ws B L (sn (tpD p)) o7)=_;refine q_set (evX_lf (d:=iN k) ?_ rfl) ?_
 ·simp only[lH,aA,map_some,Option.map_none,aF,aG,av,aj,ay,Option.bind_some];rw[gf (show(0:Int)<(B:Int)by omega) (by omega),eK]
 show af _ _ (sW ps c ws B L (sn (tpD p)) (dp (iN k)))=_;refine q_set (evX_lf (d:=iN (lyN (pkAt (k,p)).1 B (L%B))) ?_ rfl) ?_
 ·rw[clF_a,ec _ rfl rfl rfl rfl,Option.bind_some,el];rfl
 refine nh (ka (ds:=ws.map λ(k:Nat)=>D.int (k:Int)) (ds0:=ws.map λ(k:Nat)=>D.int (k:Int)) (c0:=.deep) (d:=iN k) rfl (evX_lf rfl rfl) rfl ?_) ?_
 ·rw[length_map,hn];exact lt_of_le_of_lt (show i+1<=6 by omega) (by decide)
 have em:aw (ws++[k])=.lst ((ws.map λ(k:Nat)=>D.int (k:Int))++[iN k]):=by unfold aw;rw[List.map_append];rfl
 simp only[sW,em];rfl
theorem cw_loop (hf:fl "Mill" "passes"=true) (hl:pi la) (hv:Valid ps) (hc:c<prod ps):
  ∃o6 o7,frF (jX (vtF (x1 (slF (flF fl "passes" (va 0)) (bO (va 1)) noP))) (biF noD (x1 (slF (flF fl "passes" (va 0)) (bO (va 1)) noP)))) (eNm 6) (FB la) (sW ps c [] (prod ps) c none none)=some (.nx (sW ps c (bks (prod ps,c,[]) ps.reverse).2.2 (bks (prod ps,c,[]) ps.reverse).1 (bks (prod ps,c,[]) ps.reverse).2.1 o6 o7)):=by
 obtain⟨Y',e,o6,o7,rfl⟩:=dm
  (J:=jX (vtF (x1 (slF _ _ noP))) (biF noD (x1 (slF _ _ noP))))
  (ds:=(ps.reverse).map tpD) (Y:=sW ps c [] (prod ps) c none none)
  (λi Y=>∃o6 o7,Y=sW ps c (bks (prod ps,c,[]) (ps.reverse.take i)).2.2 (bks (prod ps,c,[]) (ps.reverse.take i)).1 (bks (prod ps,c,[]) (ps.reverse.take i)).2.1 o6 o7)
  (Kz (by
   have e:slF (flF fl "passes" (va 0)) (bO (va 1)) noP (shv (sW ps c [] (prod ps) c none none))=some (.tup _):=lY hf (t:=0) rfl rfl;rw[Hc,ag,e];show some (ps.map tpD).reverse=_;rw[List.map_reverse]))
  ⟨none,none,rfl⟩ (by
   rintro i d Y hd ⟨o6,o7,rfl⟩;rw[getElem?_map]at hd;cases hp:ps.reverse[i]? with
   |none=>rw[hp]at hd;cases hd
   |some p=>
    rw[hp]at hd;cases hd;have hi:=(List.getElem?_eq_some_iff.mp hp).1;rw[List.length_reverse]at hi;obtain⟨q6,q7,e⟩:=cw_step hl hv (uQ hv hc 0 i (by omega)) hp o6 o7;refine⟨_,e,q6,q7,?_⟩;rw[sI _ _ _ _ hp];rfl)
 rw[length_map,List.take_length]at e
 exact⟨o6,o7,e⟩
def fB (ps:List (List Pk)) (c:Nat):List Nat:=(bks (prod ps,c,[]) ps.reverse).2.2.reverse
theorem uR (hv:Valid ps) (hc:c<prod ps):BkOk ps c ps.length (bks (prod ps,c,[]) ps.reverse):=by
 have:=uQ hv hc 0 ps.length (le_refl _);rw[List.take_of_length_le (by rw[List.length_reverse];exact le_refl _)]at this;exact this
theorem AR (hv:Valid ps) (hc:c<prod ps):(bks (prod ps,c,[]) ps.reverse).1=1/\(bks (prod ps,c,[]) ps.reverse).2.1=0:=by
 have b:=uR hv hc;have h1:=b.a;have h2:=b.l;rw[Nat.sub_self]at h1;have h1:(bks (prod ps,c,[]) ps.reverse).1=1:=h1;exact⟨h1,by omega⟩
theorem Du (hv:Valid ps) (hc:c<prod ps):WordOk ps 0 (fB ps c):=by
 have b:=uR hv hc;refine⟨?_,λq hq=>?_⟩
 ·unfold fB;rw[List.length_reverse,b.n];rfl
 ·have:=b.w;rw[Nat.sub_self]at this;exact this q hq
theorem word_code (hv:Valid ps) (hc:c<prod ps):kf ps 0 (fB ps c)=(c:Int):=by
 have hcc:=(uR hv hc).c;obtain⟨h1,h2⟩:=AR hv hc;rw[Nat.sub_self,h1,h2]at hcc;exact congrArg Prod.snd hcc
def sCW (f:Fn):Prop:=∀ (ps:List (List Pk)) (c:Nat),Valid ps->c<prod ps->f [ah ps,.int 0,iN c]=dp (wD (fB ps c))
theorem Dv {fl la mt kk wi lo} (hf:fl "Mill" "passes"=true) (hl:pi la) (hm:sCM mt kk) (hw:eZ wi) (hlo:qy lo):sCW (aX 3 8 (gW fl la mt kk wi lo)):=λps c hv hc=>by
 obtain⟨o6,o7,e⟩:=cw_loop hf hl hv hc;have em:∀Y:Vv,dD Y 0=some (ah ps)->meF (va 0) ae mt kk "codes" Y=some (.int (prod ps:Nat)):=λY h=>by
  show cu (mK (va 0) ae mt kk "codes" Y)=_;unfold mK;rw[aG,h,Option.bind_some];show cu (oU mt kk "codes" (ah ps) [])=_;rw[hm ps hv];rfl
 obtain⟨hA,hL⟩:=AR hv hc;rw[hA,hL]at e;have hW:(bks (prod ps,c,[]) ps.reverse).2.2.reverse=fB ps c:=rfl;generalize (bks (prod ps,c,[]) ps.reverse).2.2=ws at e hW;have e2:(decide ((c:Int)<=((prod ps:Nat):Int)-1))=true:=decide_eq_true (by omega);refine aC rfl ?_;show gW fl la mt kk wi lo [sn (ah ps),sn (iN 0),sn (iN c),none,none,none,none,none]=_;unfold gW;refine qF (d:=.non) ?_ (q_if0 ?_ (q_set (evX_lfs (d:=.lst []) (ds:=[]) rfl rfl rfl rfl) (q_set (evX_lf (d:=.int (prod ps:Nat)) (em _ rfl) rfl) (q_set (evX_lf (d:=iN c) rfl rfl) (nh e (q_if0 rfl (q_ret (evX_lf ?_ (J6 _)))))))))
 ·simp only[az,aB,aA,clF_a,ag,am,aG,av,aj,ay,Option.bind_some,hlo ps 0 (Nat.zero_le _),aM]
 ·rw[notQ_a,fR,clF_a,My,ag,Kj,ag,Hc,ag,aF,em _ rfl];simp only[az,aB,aA,am,aG,av,aj,ay,db,Option.bind_some,lV,hw (c:Int) 0 (((prod ps:Nat):Int)-1),aM,e2];rw[decide_eq_true (show(0:Int)<=(c:Int)by omega)];rfl
 ·show some (D.tup (ws.map λ(k:Nat)=>D.int (k:Int)).reverse)=_;rw[<-hW,<-List.map_reverse];rfl
end K42
namespace K42
open PySem PySem.Spec PyProof.Rows L2
section
variable {ps:List (List Pk)} {ls:List Lt}
def cdn (ps:List (List Pk)) (ls:List Lt) (k:Nat):Int:=cd ps ls ps.length k
def Rl (ps:List (List Pk)) (ls:List Lt) (r:List Nat) (a b:Nat):Prop:=cdn ps ls a<cdn ps ls b\/(cdn ps ls a=cdn ps ls b/\if sdz ps ls (cdn ps ls a)<0 then r.idxOf b<r.idxOf a else r.idxOf a<r.idxOf b)
theorem Rl.asy (h:Rl ps ls r a b) (h':Rl ps ls r b a):False:=by
 unfold Rl at h h';rcases h with h|⟨e,h⟩
 ·rcases h' with h'|⟨e',_⟩<;>omega
 ·rcases h' with h'|⟨_,h'⟩
  ·omega
  ·rw[e]at h;split at h<;>rename_i q
   ·rw[if_pos q]at h';omega
   ·rw[if_neg q]at h';omega
theorem Ht {r:List Nat} (nd:r.Nodup):r.Pairwise λa b=>r.idxOf a<r.idxOf b:=by
 rw[List.pairwise_iff_getElem];intro i j hi hj hij;rw[nd.idxOf_getElem,nd.idxOf_getElem];exact hij
theorem pw_idx (asy:∀a b,R a b->R b a->False) {l:List Nat} (h:l.Pairwise R) (ha:a∈l) (hb:b∈l) (ne:a≠b):l.idxOf a<l.idxOf b↔R a b:=by
 have key:∀ {a b:Nat},a∈l->b∈l->l.idxOf a<l.idxOf b->R a b:=λ{a b} ha hb hi=>by
  have:=List.pairwise_iff_getElem.mp h _ _ (List.idxOf_lt_length_of_mem ha) (List.idxOf_lt_length_of_mem hb) hi;rwa [List.getElem_idxOf,List.getElem_idxOf]at this
 refine⟨key ha hb,λr=>?_⟩;rcases Nat.lt_trichotomy (l.idxOf a) (l.idxOf b)with h1|h1|h1
 ·exact h1
 ·have e:l[l.idxOf a]?=l[l.idxOf b]?:=by rw[h1]
  rw[getElem?_eq_getElem (List.idxOf_lt_length_of_mem ha),getElem?_eq_getElem (List.idxOf_lt_length_of_mem hb),List.getElem_idxOf,List.getElem_idxOf]at e;exact absurd (Option.some.inj e) ne
 ·exact(asy _ _ r (key hb ha h1)).elim
theorem nq (P:Pln ps ls) (pm:r.Perm (List.range ls.length)):(wlk ps ls r).Perm r:=dR P.ok P.t pm _ (le_refl _)
theorem uS (P:Pln ps ls) (pm:r.Perm (List.range ls.length)):(wlk ps ls r).Pairwise (Rl ps ls r):=by
 have nd:r.Nodup:=pm.nodup_iff.mpr List.nodup_range;have lt:(srtK ps ls).Pairwise (·<·):=Hf (pF _);unfold wlk;rw[AH P.v P.ok P.t pm lt (λk hk=>by
  rw[(nn P (getElem?_eq_getElem hk)).1];exact srt_mem.mpr (kys_mem.mpr (List.mem_map_of_mem (List.getElem_mem hk)))) (sd:=sdz ps ls) (λk l hl=>by
  rw[(nn P hl).1,(nn P hl).2,wt P hl])]
 refine List.pairwise_flatMap.mpr ⟨λc _=>?_,lt.imp λ{c d} hcd x hx y hy=>?_⟩
 ·have up:(cls ps ls r c).Pairwise λa b=>r.idxOf a<r.idxOf b:=(Ht nd).filter _;have cl:∀k∈cls ps ls r c,cdn ps ls k=c:=λk hk=>of_decide_eq_true (List.mem_filter.mp hk).2;unfold turned;split
  ·rename_i hs;refine List.pairwise_reverse.mpr ((List.Pairwise.and_mem.mp up).imp λ{a b} ⟨ha,hb,hab⟩=>.inr ⟨(cl b hb).trans (cl a ha).symm,?_⟩);rw[cl b hb,if_pos hs];exact hab
  ·rename_i hs;refine(List.Pairwise.and_mem.mp up).imp λ{a b} ⟨ha,hb,hab⟩=>.inr ⟨(cl a ha).trans (cl b hb).symm,?_⟩;rw[cl a ha,if_neg hs];exact hab
 ·have a:cdn ps ls x=c:=of_decide_eq_true (List.mem_filter.mp (mem_turned.mp hx)).2;have b:cdn ps ls y=d:=of_decide_eq_true (List.mem_filter.mp (mem_turned.mp hy)).2;exact .inl (by rw[a,b];exact hcd)
theorem jH (P:Pln ps ls) (pm:r.Perm (List.range ls.length)) (ha:a<ls.length) (hb:b<ls.length) (ne:a≠b):(wlk ps ls r).idxOf a<(wlk ps ls r).idxOf b↔Rl ps ls r a b:=
 pw_idx (λ_ _=>Rl.asy) (uS P pm) (((nq P pm).trans pm).mem_iff.mpr (List.mem_range.mpr ha)) (((nq P pm).trans pm).mem_iff.mpr (List.mem_range.mpr hb)) ne
def com2 (n a b:Nat):List Nat:=a::b::(List.range n).filter λk=>decide (k≠a)&&decide (k≠b)
theorem wx (ha:a<n) (hb:b<n) (ne:a≠b):(com2 n a b).Perm (List.range n):=by
 unfold com2;refine(List.perm_ext_iff_of_nodup ?_ List.nodup_range).mpr λk=>?_
 ·simp[ne];exact List.nodup_range.filter _
 ·simp;omega
def fst1 (ps:List (List Pk)) (ls:List Lt) (a b:Nat):Bool:=decide (cdn ps ls a<cdn ps ls b\/(cdn ps ls a=cdn ps ls b/\¬sdz ps ls (cdn ps ls a)<0))
theorem Hu (P:Pln ps ls) (ha:a<ls.length) (hb:b<ls.length) (ne:a≠b):decide ((wlk ps ls (com2 ls.length a b)).idxOf a<(wlk ps ls (com2 ls.length a b)).idxOf b)=fst1 ps ls a b:=by
 unfold fst1;rw[decide_eq_decide,jH P (wx ha hb ne) ha hb ne];have e1:(com2 ls.length a b).idxOf a=0:=List.idxOf_cons_self;have e2:(com2 ls.length a b).idxOf b=1:=by
  unfold com2;rw[List.idxOf_cons,beq_false_of_ne ne,List.idxOf_cons_self];rfl
 unfold Rl;rw[e1,e2];split<;>rename_i q<;>omega
def Trn (ps:List (List Pk)) (ls:List Lt):Prop:=∃a b,a<ls.length/\b<ls.length/\a≠b/\cdn ps ls a=cdn ps ls b/\sdz ps ls (cdn ps ls a)<0
theorem trn_iff:(fst1 ps ls a b=false/\fst1 ps ls b a=false)↔(cdn ps ls a=cdn ps ls b/\sdz ps ls (cdn ps ls a)<0):=by
 unfold fst1;rw[decide_eq_false_iff_not,decide_eq_false_iff_not];constructor
 ·rintro⟨h1,h2⟩;have e:cdn ps ls a=cdn ps ls b:=by omega
  exact⟨e,by rw[<-e]at h1;omega⟩
 ·rintro⟨e,h⟩;rw[<-e];omega
theorem kq (P:Pln ps ls) (h:ls[k]?=some l):cdn ps ls k=cdz ps l:=(nn P h).1
theorem sdz_b (P:Pln ps ls) (h:k<ls.length):sdz ps ls (cdn ps ls k)=1\/sdz ps ls (cdn ps ls k)= -1:=by
 rw[kq P (getElem?_eq_getElem h),wt P (getElem?_eq_getElem h)];unfold eF;omega
theorem jI (P:Pln ps ls):k∈mem1 (cl ps ls) ls.length c↔k<ls.length/\cdn ps ls k=c:=by
 unfold mem1;rw[List.mem_filter,List.mem_range,decide_eq_true_iff];refine and_congr_right λh=>?_;rw[kq P (getElem?_eq_getElem h),List.getD_eq_getElem?_getD];unfold cl;rw[getElem?_map,getElem?_eq_getElem h];rfl
theorem Dw (P:Pln ps ls):Trn ps ls↔∃c∈srtK ps ls,sdz ps ls c= -1/\1<(mem1 (cl ps ls) ls.length c).length:=by
 have nd:∀c,(mem1 (cl ps ls) ls.length c).Nodup:=λc=>List.nodup_range.filter _;constructor
 ·rintro⟨a,b,ha,hb,ne,e,hs⟩;refine⟨cdn ps ls a,?_,by rcases sdz_b P ha with h|h<;>omega,?_⟩
  ·rw[kq P (getElem?_eq_getElem ha)];exact srt_mem.mpr (kys_mem.mpr (List.mem_map_of_mem (List.getElem_mem ha)))
  ·have h1:=(jI P).mpr ⟨ha,rfl⟩;have h2:=(jI P).mpr ⟨hb,e.symm⟩;match hm:mem1 (cl ps ls) ls.length (cdn ps ls a),h1,h2 with
   |[x],h1,h2=>
    rw[mem_singleton]at h1 h2;exact absurd (h1.trans h2.symm) ne
   |_::_::_,_,_=>exact Nat.succ_lt_succ (Nat.succ_pos _)
 ·rintro⟨c,_,hs,hl⟩;match hm:mem1 (cl ps ls) ls.length c,hl with
  |a::b::r,_=>
   obtain⟨a1,a2⟩:=(jI P).mp (hm▸mem_cons_self:a∈mem1 (cl ps ls) ls.length c);obtain⟨b1,b2⟩:=(jI P).mp (hm▸mem_cons_of_mem _ mem_cons_self:b∈mem1 (cl ps ls) ls.length c);have n:=nd c;rw[hm]at n;exact⟨a,b,a1,b1,λz=>(List.nodup_cons.mp n).1 (z▸mem_cons_self),a2.trans b2.symm,by rw[a2,hs];decide⟩
end
def AS (ps:List (List Pk)) (ls:List Lt):Prop:=∀k,k<ls.length->¬sdz ps ls (cdn ps ls k)<0
section
variable {p1 p2:List (List Pk)} {l1 l2:List Lt}
theorem AT (t:Two p1 p2 l1 l2) (h:Trn p1 l1) (q:AS p2 l2):∃r,np p1 p2 l1 l2=some r/\r.Perm (List.range l1.length)/\wlk p1 l1 r≠wlk p2 l2 r:=by
 unfold np;by_cases e1:wlk p1 l1 (List.range l1.length)=wlk p2 l2 (List.range l1.length)
 ·by_cases e2:wlk p1 l1 (List.range l1.length).reverse=wlk p2 l2 (List.range l1.length).reverse
  ·exfalso;have P:Pln p1 l1:=⟨t.v1,t.w1,t.n1,t.o1⟩;have Q:Pln p2 l2:=⟨t.v2,t.w2,by rw[t.n];exact t.n1,t.o2⟩;have key:∀a b,a<l1.length->b<l1.length->a<b->cdn p1 l1 a=cdn p1 l1 b->sdz p1 l1 (cdn p1 l1 a)<0->False:=λa b ha hb ab e hs=>by
    have up:∀x y,x<l1.length->y<l1.length->x≠y->((List.range l1.length).idxOf x<(List.range l1.length).idxOf y↔x<y):=λx y hx hy ne=>pw_idx (λ_ _ h1 h2=>by omega) List.pairwise_lt_range (List.mem_range.mpr hx) (List.mem_range.mpr hy) ne;have dn:∀x y,x<l1.length->y<l1.length->x≠y->((List.range l1.length).reverse.idxOf x<(List.range l1.length).reverse.idxOf y↔y<x):=λx y hx hy ne=>pw_idx (R:=λx y=>y<x) (λ_ _ h1 h2=>by omega) (List.pairwise_reverse.mpr List.pairwise_lt_range) (List.mem_reverse.mpr (List.mem_range.mpr hx)) (List.mem_reverse.mpr (List.mem_range.mpr hy)) ne;have ne:b≠a:=by omega
    have w1:=(jH P (.refl _) hb ha ne).mpr (.inr ⟨e.symm,by rw[<-e,if_pos hs];exact(up a b ha hb ne.symm).mpr ab⟩);have w2:=(jH P (List.reverse_perm _) ha hb ne.symm).mpr (.inr ⟨e,by rw[if_pos hs];exact(dn b a hb ha ne).mpr ab⟩);have hn:=t.n;rw[e1,<-hn]at w1;rw[e2,<-hn]at w2;have w1:=(jH Q (.refl _) (by omega) (by omega) ne).mp w1;have w2:=(jH Q (List.reverse_perm _) (by omega) (by omega) ne.symm).mp w2;have f1:=q a (by omega);have f2:=q b (by omega);unfold Rl at w1 w2;rw[if_neg f2,hn,up b a hb ha ne]at w1;omega
   obtain⟨a,b,ha,hb,ne,e,hs⟩:=h;rcases Nat.lt_or_gt_of_ne ne with h|h
   ·exact key a b ha hb h e hs
   ·exact key b a hb ha h e.symm (e▸hs)
  ·rw[if_pos e1,if_neg e2];exact⟨_,rfl,List.reverse_perm _,e2⟩
 ·rw[if_neg e1];exact⟨_,rfl,.refl _,e1⟩
theorem sJ (P:Pln p1 l1) (Q:Pln p2 l2) (n:l2.length=l1.length) (ec:∀k,k<l1.length->cdn p2 l2 k=cdn p1 l1 k) (h:¬Trn p1 l1) (q:AS p2 l2) (pm:r.Perm (List.range l1.length)):wlk p1 l1 r=wlk p2 l2 r:=by
 have pm2:r.Perm (List.range l2.length):=by rw[n];exact pm
 have p1':=nq P pm;have p2':=nq Q pm2;have lt:∀ {k},k∈wlk p1 l1 r->k<l1.length:=λhk=>List.mem_range.mp (pm.mem_iff.mp (p1'.mem_iff.mp hk));have nd:(wlk p1 l1 r).Nodup:=(p1'.trans pm).nodup_iff.mpr List.nodup_range;refine List.Perm.eq_of_pairwise (le:=Rl p2 l2 r) (λa b _ _ h1 h2=>(h1.asy h2).elim) ?_ (uS Q pm2) (p1'.trans p2'.symm);refine(List.Pairwise.and_mem.mp ((uS P pm).and nd)).imp λ{a b} ⟨ha,hb,hr,ne⟩=>?_;have la:=lt ha;have lb:=lt hb;unfold Rl at hr⊢;rw[ec a la,ec b lb];rcases hr with hr|⟨e,hr⟩
 ·exact .inl hr
 ·refine .inr ⟨e,?_⟩;have q':=q a (by omega);rw[ec a la]at q';rw[if_neg q'];by_cases hs:sdz p1 l1 (cdn p1 l1 a)<0
  ·exact absurd ⟨a,b,la,lb,ne,e,hs⟩ h
  ·rw[if_neg hs]at hr;exact hr
theorem AU (ec:∀k,k<l1.length->cdn p2 l2 k=cdn p1 l1 k) (n:l2.length=l1.length) (h:¬Trn p1 l1) (q:AS p2 l2) (ha:a<l1.length) (hb:b<l1.length) (ne:a≠b):fst1 p1 l1 a b=fst1 p2 l2 a b:=by
 have q':=q a (by omega);unfold fst1;rw[decide_eq_decide];rw[ec a ha]at q'⊢;rw[ec b hb];refine or_congr_right (and_congr_right λe=>?_);exact⟨λ_=>q',λ_ hs=>h ⟨a,b,ha,hb,ne,e,hs⟩⟩
theorem xK (t:Two p1 p2 l1 l2) (ec:∀k,k<l1.length->cdn p2 l2 k=cdn p1 l1 k) (h:¬Trn p1 l1) (q:AS p2 l2):np p1 p2 l1 l2=none:=by
 have P:Pln p1 l1:=⟨t.v1,t.w1,t.n1,t.o1⟩;have Q:Pln p2 l2:=⟨t.v2,t.w2,by rw[t.n];exact t.n1,t.o2⟩;unfold np;rw[if_pos (sJ P Q t.n ec h q (.refl _)),if_pos (sJ P Q t.n ec h q (List.reverse_perm _))]
end
def qs (ps:List (List Pk)):List (List Pk):=ps.map λp=>p.map λ_=>(true,9)
def ql (ps:List (List Pk)) (ls:List Lt):List Lt:=ls.map λl=>⟨1,0,fB (qs ps) (cdz ps l).toNat⟩
def Dx (ps:List (List Pk)):Prop:=∀p∈ps,∀k∈p,k.1=true
section
variable {ps:List (List Pk)} {ls:List Lt}
theorem xL (h:Dx ps) (hw:WordOk ps 0 w):eF ps 0 w=1:=by
 have:piles (w.zip (ps.drop 0))=0:=by
  unfold piles;rw[List.length_eq_zero_iff,List.filter_eq_nil_iff];intro z hz;have h1:=hw.each z hz;have h2:z.2∈ps:=(List.of_mem_zip hz).2;unfold pkAt;rw[getElem?_eq_getElem h1];show¬ (!(z.2[z.1]).1)=true;rw[h _ h2 _ (List.getElem_mem h1)];decide
 unfold eF;rw[this];rfl
theorem pI (P:Pln ps ls) (h:Dx ps):AS ps ls:=λk hk=>by
 have e:=getElem?_eq_getElem hk;rw[kq P e,wt P e,xL h (P.o _ (List.getElem_mem hk)).w];decide
theorem l6:∀ps:List (List Pk),prod (qs ps)=prod ps
 |[]=>rfl
 |p::ps=>by
  show(p.map _).length*prod (qs ps)=p.length*prod ps;rw[l6 ps,length_map]
theorem AV (hv:Valid ps):Valid (qs ps)/\Wide (qs ps)/\Dx (qs ps):=by
 have m:∀p∈qs ps,∃q∈ps,p=q.map λ_=>(true,9):=λp hp=>by
  obtain⟨q,h1,h2⟩:=List.mem_map.mp hp;exact⟨q,h1,h2.symm⟩
 have k:∀p∈qs ps,∀z∈p,z=(true,9):=λp hp z hz=>by
  obtain⟨q,_,rfl⟩:=m p hp;obtain⟨_,_,e⟩:=List.mem_map.mp hz;exact e.symm
 refine⟨⟨by have:=hv.len;unfold qs;rw[length_map];exact this,λp hp=>?_,by rw[l6];exact hv.codes⟩,λp hp z hz=>by rw[k p hp z hz];decide,λp hp z hz=>by rw[k p hp z hz]⟩;obtain⟨q,hq,e⟩:=m p hp;obtain⟨h1,h2,_⟩:=hv.p hq;have el:p.length=q.length:=by rw[e,length_map]
 unfold okP;rw[and_eq_true,and_eq_true,decide_eq_true_eq,decide_eq_true_eq,List.all_eq_true];exact⟨⟨by omega,by omega⟩,λz hz=>by rw[k p hp z hz];decide⟩
theorem AW (P:Pln ps ls) (hl:l∈ls):0<=cdz ps l/\cdz ps l<(prod ps:Nat):=by
 obtain⟨k,hk⟩:=List.mem_iff_getElem?.mp hl;have:=pC P.v P.ok hk (by rw[P.t l hl];exact Nat.zero_le _) (le_refl _);rw[(nn P hk).1]at this;unfold ahd at this;rw[List.take_length]at this;exact this
theorem KA (P:Pln ps ls):Pln (qs ps) (ql ps ls)/\(ql ps ls).length=ls.length/\∀k,k<ls.length->cdn (qs ps) (ql ps ls) k=cdn ps ls k:=by
 obtain⟨v,w,a⟩:=AV P.v;have b:∀l∈ls,(cdz ps l).toNat<prod (qs ps):=λl hl=>by
  have:=AW P hl;rw[l6];omega
 have n:(ql ps ls).length=ls.length:=length_map _;have Q:Pln (qs ps) (ql ps ls):=⟨v,w,by rw[n];exact P.n,λl' hl'=>by
  obtain⟨l,hl,rfl⟩:=List.mem_map.mp hl';exact⟨rfl,rfl,Du v (b l hl)⟩⟩
 refine⟨Q,n,λk hk=>?_⟩;have e:=getElem?_eq_getElem hk;rw[kq P e,kq Q (l:=⟨1,0,fB (qs ps) (cdz ps ls[k]).toNat⟩) (by unfold ql;rw[getElem?_map,e];rfl)];have:=AW P (List.getElem_mem hk);show kf (qs ps) 0 (fB (qs ps) _)=_;rw[word_code v (b _ (List.getElem_mem hk))];omega
end
end K42
namespace K42
open PySem PySem.Spec PyProof.Rows L2
def gp (bt:Fn):Ev->Option Out:=(af (aP 4 (evX (ac b9 (lsF (dpF (x2 (va 2) (va 3)))) (lsF (ak [6] (jR (x1 (lnF (va 1)))) (gNm 6) (nU (aD (ac (aQ true) (va 6) (va 2))) (aD (ac (aQ true) (va 6) (va 3)))) (va 6)))) (iX (lsF (dpF (x2 (va 2) (va 3)))) (lsF (ak [6] (jR (x1 (lnF (va 1)))) (gNm 6) (nU (aD (ac (aQ true) (va 6) (va 2))) (aD (ac (aQ true) (va 6) (va 3)))) (va 6)))) noV)) (af (aP 5 (evC bt (x3 (va 0) (va 1) (va 4)))) (rtF (evV (ac ltD (xo (va 5) (va 2)) (xo (va 5) (va 3)))))))
def gq:Ev->Option Out:=(af (aP 1 evE) (af (frF (jR (x1 (va 0))) (eNm 2) (af (qh 1 (lsF (ak [3] (jR (x1 (va 0))) (gNm 3) (aD (ac (aQ true) (va 2) (va 3))) (tpF (x2 (va 2) (va 3)))))) nxE)) (af (rtN 1) nxE)))
def cJ (bU bp:Fn):Ev->Option Out:=(af (frF (jX noV (clF bU (x1 (lnF (va 1))))) (eTp 2 (cm (eNm 2) (cm (eNm 3) j4))) (af (ifS (nU (bP (trF (clF bp (x4 (va 0) (va 1) (va 2) (va 3))))) (bP (trF (clF bp (x4 (va 0) (va 1) (va 3) (va 2)))))) (rtF (evV (cB true))) nxE) nxE)) (rtF (evV (cB false))))
def dE (aV:Fn):Ev->Option Out:=(af (aP 2 evE) (af (frF (jX noV (va 1)) (eNm 3) (af (ifS (bP (trF (clF aV (x2 (va 0) (lsF (iX (va 2) (lsF (dpF (x1 (va 3)))))))))) (af (rW 2 3 (evV (va 3)) (va 3)) nxE) nxE) nxE)) (af (rtN 2) nxE)))
def eH:Ev->Option Out:=(af (ifS (orQ (bP (trF (biF eX (x2 (va 1) (cT "list"))))) (aD (ac (aQ true) (lnF (va 1)) (va 2)))) (rtF (evV (cB false))) nxE) (af (frF (jX noV (va 1)) (eNm 3) (af (ifS (orQ (bP (trF (biF eX (x2 (va 3) (cT "tuple"))))) (aD (ac (aQ true) (lnF (va 3)) (lnF (va 0))))) (rtF (evV (cB false))) nxE) (af (frF (jR (x1 (lnF (va 0)))) (eNm 4) (af (ifS (orQ (trF (biF eX (x2 (ac ixD (va 3) (va 4)) (cT "bool")))) (bP (aD (cG leD ltD (cI 0) (ac ixD (va 3) (va 4)) (lnF (ac ixD (va 0) (va 4))))))) (rtF (evV (cB false))) nxE) nxE)) nxE))) (rtF (evV (cB true)))))
theorem lt_big (h:n<=1000):n<big:=lt_of_le_of_lt h (by decide)
def qL (f:Fn):Prop:=∀ (ps:List (List Pk)) (ls:List Lt) (a b:Nat),Pln ps ls->a<ls.length->b<ls.length->a≠b->f [ai ps,plD true ls,iN a,iN b]=dp (.bl (fst1 ps ls a b))
theorem Dy (hwa:wq wa):qL (aX 4 7 (gp wa)):=λps ls a b P ha hb ne=>by
 have h24:=P.n;have pm:=wx ha hb ne;have e1:wa [ai ps,plD true ls,aw (com2 ls.length a b)]=dp (aw (wlk ps ls (com2 ls.length a b))):=hwa true ps ls (com2 ls.length a b) P.v P.w P.n P.o pm;have cl:(com2 ls.length a b).length<=24:=by rw[pm.length_eq,length_range];exact h24
 have pw:=(nq P pm).trans pm;have hc:ak [6] (jR (x1 (lnF (va 1)))) (gNm 6) (nU (aD (ac (aQ true) (va 6) (va 2))) (aD (ac (aQ true) (va 6) (va 3)))) (va 6) [some (ai ps),some (plD true ls),some (iN a),some (iN b),none,none,none]=some (((List.range ls.length).filter λk=>decide (k≠a)&&decide (k≠b)).map λ(k:Nat)=>D.int (k:Int)):=by
  refine fA (xs:=List.range ls.length) (mk:=λ(k:Nat)=>D.int (k:Int)) (out:=λ(k:Nat)=>D.int (k:Int)) ?_ (λk hk=>?_) (by rw[length_range];exact lt_big (by omega))
  ·refine fS ?_;simp only[ag,am,br,aG,ay,Option.bind_some,bE,show seqD (plD true ls)=some (ls.map λl=>wD l.w)from rfl,length_map];exact bV (by omega)
  ·simp only[bR,bu,bL,eB,set_cons_succ,set_cons_zero,Option.bind_some,zU,bb,aF,aG,av,aj,ay,iK,bQ];have i1:decide ((k:Int)=(a:Int))=decide (k=a):=by by_cases h:k=a<;>simp[h]<;>omega
   have i2:decide ((k:Int)=(b:Int))=decide (k=b):=by by_cases h:k=b<;>simp[h]<;>omega
   simp only[i1,i2,if_true];by_cases h1:k=a<;>by_cases h2:k=b<;>simp[h1,h2]
 have hcat:iX (lsF (dpF (x2 (va 2) (va 3)))) (lsF (ak [6] (jR (x1 (lnF (va 1)))) (gNm 6) (nU (aD (ac (aQ true) (va 6) (va 2))) (aD (ac (aQ true) (va 6) (va 3)))) (va 6))) [some (ai ps),some (plD true ls),some (iN a),some (iN b),none,none,none]=some ((com2 ls.length a b).map λ(k:Nat)=>D.int (k:Int)):=by
  show(_:Option D).bind _=_;simp only[bz,lj,ag,am,aG,av,aj,ay,Option.bind_some,gh,map_some,hc];show bZ (some (_++_))=_;refine cC ?_;show((com2 ls.length a b).map λ(k:Nat)=>D.int (k:Int)).length<big;rw[length_map];exact lt_big (by omega)
 refine aC rfl ?_;show gp wa [sn (ai ps),sn (plD true ls),sn (iN a),sn (iN b),none,none,none]=_;unfold gp;have ma:=pw.mem_iff.mpr (List.mem_range.mpr ha);have mb:=pw.mem_iff.mpr (List.mem_range.mpr hb);have key:=Hu P ha hb ne;generalize wlk ps ls (com2 ls.length a b)=W at*;refine q_set (evX_cat (ds:=(com2 ls.length a b).map λ(k:Nat)=>D.int (k:Int)) ?_ hcat (kg _)) (q_set (evX_call (d:=aw W) (e:=aw W) (clF_a.trans (congrArg cu e1)) rfl rfl (fCl_a.trans (congrArg iI e1))) (q_ret (evX_lf ?_ rfl)))
 ·simp only[az,aB,aA,aF (g:=b9) (b:=lsF _),bz,lj,ag,am,aG,av,aj,ay,Option.bind_some,gh,map_some,hc];rfl
 ·have ix:∀ (c:Nat),c∈W->∀Y:Vv,dD Y 5=some (aw W)->∀m,dD Y m=some (iN c)->xo (va 5) (va m) Y=some (iN (W.idxOf c)):=λc hc Y h5 m hm=>by
   unfold xo;simp only[aG,h5,Option.bind_some];show((dZ (W.map λ(k:Nat)=>D.int (k:Int))).bind _)=_;rw[iZ];simp only[Option.bind_some,hm,mS];rw[wu hc];rfl
  rw[aF,ix a ma _ rfl 2 rfl,Option.bind_some,ix b mb _ rfl 3 rfl,<-key];show some (D.bl (decide (((W.idxOf a:Nat):Int)<((W.idxOf b:Nat):Int))))=_;congr 2;rw[decide_eq_decide];omega
def prT (n i:Nat):List (Nat×Nat):=(List.range i).flatMap λa=>((List.range n).filter λb=>!decide (a=b)).map λb=>(a,b)
def prD (q:Nat×Nat):D:=.tup [iN q.1,iN q.2]
theorem pr_mem:(a,b)∈prT n n↔a<n/\b<n/\a≠b:=by
 unfold prT;simp
theorem AX:∀i,(prT n i).length<=i*n
 |0=>Nat.zero_le _
 |i+1=>by
  have ih:=AX (n:=n) i;unfold prT at ih⊢;rw[List.range_succ,List.flatMap_append,length_append,Nat.succ_mul];refine Nat.add_le_add ih ?_;rw[List.flatMap_cons,List.flatMap_nil,List.append_nil,length_map];exact Nat.le_trans (List.length_filter_le _ _) (by rw[length_range];exact le_refl _)
def qM (f:Fn):Prop:=∀n:Nat,n<=9->f [iN n]=dp (.lst ((prT n n).map prD))
theorem Dz:qM (aX 1 4 gq):=λn hn=>by
 refine aC rfl ?_;show gq [sn (iN n),none,none,none]=_;unfold gq;have L:=ff (J:=jR (x1 (va 0))) (s:=2) (v:=λi=>(i:Int)) (n:=n) (F:=af (qh 1 (lsF (ak [3] (jR (x1 (va 0))) (gNm 3) (aD (ac (aQ true) (va 2) (va 3))) (tpF (x2 (va 2) (va 3)))))) nxE)
  (Y:=[sn (iN n),dp (.lst []),none,none]) (λi Y=>∃o2 o3,Y=[sn (iN n),dp (.lst ((prT n i).map prD)),o2,o3]) (fS (by simp;exact bV (by omega))) ⟨none,none,rfl⟩ (by
   rintro i Y hi ⟨o2,o3,rfl⟩;have hp:=AX (n:=n) i;have h81:i*n<=9*9:=Nat.mul_le_mul (by omega) hn;have hc:∀v1 v3,ak [3] (jR (x1 (va 0))) (gNm 3) (aD (ac (aQ true) (va 2) (va 3))) (tpF (x2 (va 2) (va 3))) [some (iN n),v1,some (iN i),v3]=some (((List.range n).filter λb=>!decide (i=b)).map λb=>prD (i,b)):=λv1 v3=>by
    refine fA (xs:=List.range n) (mk:=λ(k:Nat)=>D.int (k:Int)) (out:=λb=>prD (i,b)) (fS (by simp;exact bV (by omega))) (λk hk=>?_) (by rw[length_range];exact lt_big (by omega));simp only[bR,bu,bL,eB,set_cons_succ,set_cons_zero,Option.bind_some,bb,aF,mP,ag,am,aG,av,aj,ay,iK,bQ,gh,if_true];have i1:decide ((i:Int)=(k:Int))=decide (i=k):=by by_cases h:i=k<;>simp[h]<;>omega
    rw[i1];by_cases h1:i=k<;>simp[h1,prD]
   refine⟨_,(ao (kh (ds:=(prT n i).map prD) (es:=((List.range n).filter λb=>!decide (i=b)).map λb=>prD (i,b)) rfl ?_ ?_ ?_)).trans rfl,some (.sh,iN i),o3,?_⟩
   ·exact(bz ..).trans (congrArg (Option.map D.lst) (hc _ _))
   ·exact cA λd hd=>by obtain⟨q,_,rfl⟩:=List.mem_map.mp hd;rfl
   ·rw[length_map,length_map];have:((List.range n).filter λb=>!decide (i=b)).length<=n:=Nat.le_trans (List.length_filter_le _ _) (by rw[length_range];exact le_refl _);exact lt_big (by omega)
   ·have e:prT n (i+1)=prT n i++((List.range n).filter λb=>!decide (i=b)).map λb=>(i,b):=by
     unfold prT;rw[List.range_succ,List.flatMap_append,List.flatMap_cons,List.flatMap_nil,List.append_nil]
    rw[e,List.map_append,List.map_map];rfl)
 obtain⟨Y',e,o2,o3,rfl⟩:=L;exact q_set (evX_lfs (d:=.lst []) (ds:=[]) (by simp) rfl (by simp) rfl) (nh e rfl)
theorem sK {β:Type} {mk} {p} {step} {I:Ev->Prop}:∀ {xs:List β},(∀x∈xs,∀Y,I Y->(p x=true->step (mk x) Y=some (.rt s))/\(p x=false->∃Y',step (mk x) Y=some (.nx Y')/\I Y'))->∀ {Y},I Y->(xs.any p=true->fw step (xs.map mk) Y=some (.rt s))/\(xs.any p=false->∃Y',fw step (xs.map mk) Y=some (.nx Y')/\I Y')
 |[],_,Y,h=>⟨λz=>(by cases z),λ_=>⟨Y,rfl,h⟩⟩
 |x::xs,hs,Y,h=>by
  obtain⟨h1,h2⟩:=hs x mem_cons_self Y h;rw[List.any_cons,List.map_cons];cases hp:p x with
  |true=>exact⟨λ_=>AO (h1 hp),λz=>(by cases z)⟩
  |false=>
   obtain⟨Y',e,h'⟩:=h2 hp;obtain⟨k1,k2⟩:=sK (xs:=xs) (λy hy=>hs y (mem_cons_of_mem _ hy)) h';exact⟨λz=>sH e (k1 z),λz=>(k2 z).imp λ_ q=>⟨sH e q.1,q.2⟩⟩
theorem Eg (hJ:J (shv Y)=some ds) (h:fw (lF tg F) ds Y=some o):frF J tg F Y=some o:=by
 unfold frF orO;rw[show gw J tg F Y=some o by unfold gw;rw[hJ];exact h]
def trnB (ps:List (List Pk)) (ls:List Lt):Bool:=(prT ls.length ls.length).any λq=>!fst1 ps ls q.1 q.2&&!fst1 ps ls q.2 q.1
theorem trnB_iff:trnB ps ls=true↔Trn ps ls:=by
 unfold trnB Trn;rw[List.any_eq_true];constructor
 ·rintro⟨⟨a,b⟩,hm,h⟩;obtain⟨h1,h2,h3⟩:=pr_mem.mp hm;rw[and_eq_true,Bool.not_eq_true',Bool.not_eq_true']at h;obtain⟨q1,q2⟩:=trn_iff.mp h;exact⟨a,b,h1,h2,h3,q1,q2⟩
 ·rintro⟨a,b,h1,h2,h3,q⟩;refine⟨(a,b),pr_mem.mpr ⟨h1,h2,h3⟩,?_⟩;rw[and_eq_true,Bool.not_eq_true',Bool.not_eq_true'];exact trn_iff.mpr q
def wy (f:Fn):Prop:=∀ (ps:List (List Pk)) (ls:List Lt),Pln ps ls->ls.length<=9->f [ai ps,plD true ls]=dp (.bl (trnB ps ls))
theorem Hv (hp:qM pr) (hf:qL fi):wy (aX 2 4 (cJ pr fi)):=λps ls P h9=>by
 have hJ:jX noV (clF pr (x1 (lnF (va 1)))) [some (ai ps),some (plD true ls),none,none]=some ((prT ls.length ls.length).map prD):=by
  simp only[bn,clF_a,ag,am,br,aG,av,aj,ay,Option.bind_some,bE,show seqD (plD true ls)=some (ls.map λl=>wD l.w)from rfl,length_map,hp ls.length h9,aM];rfl
 obtain⟨k1,k2⟩:=sK (mk:=prD) (p:=λq=>!fst1 ps ls q.1 q.2&&!fst1 ps ls q.2 q.1) (s:=(.deep,.bl true)) (I:=λY=>∃o2 o3,Y=[sn (ai ps),sn (plD true ls),o2,o3])
  (step:=lF (eTp 2 (cm (eNm 2) (cm (eNm 3) j4))) (af (ifS (nU (bP (trF (clF fi (x4 (va 0) (va 1) (va 2) (va 3))))) (bP (trF (clF fi (x4 (va 0) (va 1) (va 3) (va 2)))))) (rtF (evV (cB true))) nxE) nxE)) (xs:=prT ls.length ls.length) (λq hq Y=>by
   obtain⟨a,b⟩:=q;obtain⟨ha,hb,ne⟩:=pr_mem.mp hq;rintro⟨o2,o3,rfl⟩;have f1:=hf ps ls a b P ha hb ne;have f2:=hf ps ls b a P hb ha ne.symm;have hT:nU (bP (trF (clF fi (x4 (va 0) (va 1) (va 2) (va 3))))) (bP (trF (clF fi (x4 (va 0) (va 1) (va 3) (va 2))))) (vw [sn (ai ps),sn (plD true ls),sn (iN a),sn (iN b)])=some (!fst1 ps ls a b&&!fst1 ps ls b a):=by
    simp only[az,aA,zU,notQ_a,fR,clF_a,ag,am,aG,av,aj,ay,Option.bind_some,f1,f2,aM,iw,map_some];cases fst1 ps ls a b<;>cases fst1 ps ls b a<;>rfl
   refine⟨λz=>?_,λz=>⟨[sn (ai ps),sn (plD true ls),sn (iN a),sn (iN b)],?_,_,_,rfl⟩⟩
   ·show af (ifS _ _ _) nxE [sn (ai ps),sn (plD true ls),sn (iN a),sn (iN b)]=_;rw[show(!fst1 ps ls a b&&!fst1 ps ls b a)=true from z]at hT;exact aJ ((jz hT).trans rfl)
   ·show af (ifS _ _ _) nxE [sn (ai ps),sn (plD true ls),sn (iN a),sn (iN b)]=_;rw[show(!fst1 ps ls a b&&!fst1 ps ls b a)=false from z]at hT;exact q_if0 hT rfl) (Y:=[sn (ai ps),sn (plD true ls),none,none]) ⟨none,none,rfl⟩
 refine aC rfl ?_;show cJ pr fi [sn (ai ps),sn (plD true ls),none,none]=_;unfold cJ trnB;cases hb:(prT ls.length ls.length).any λq=>!fst1 ps ls q.1 q.2&&!fst1 ps ls q.2 q.1 with
 |true=>exact aJ (Eg hJ (k1 hb))
 |false=>
  obtain⟨Y',e,o2,o3,rfl⟩:=k2 hb;exact nh (Eg hJ e) (q_ret (evX_lf rfl rfl))
end K42
namespace K42
open PySem PySem.Spec PyProof.Rows L2
def dF:Ev->Option Out:=(rtF (evV (lB (ac (aQ false) (va 1) (ngF (cI 1))) (ac gtD (lnF (va 0)) (cI 1)))))
def cx (bd bD:Fn) (fl:Str->Str->Bool) (dG:List D->Option (List (Str×D))) (iB cE:Fn):Ev->Option Out:=(af (ifS (trF (biF ue (x1 (lsF (ak [5,6,7] (jX noV (clF iB (x2 (va 0) (va 1)))) (gTp 3 (aK (gNm 5) (aK (gNm 6) (aK (gNm 7) b6)))) tQ (clF cE (x2 (va 6) (va 7)))))))) (rtF (evV cN)) nxE) (af (aP 2 (evX (mkF "Mill" dG (x1 (lsF (ak [3] (jX noV (flF fl "passes" (va 0))) (gNm 3) tQ (lsF (rO (dpF (x1 (tpF (x2 (cS "queue") (cD (.int 9)))))) (lnF (va 3)))))))) noV (fNo (x1 (lsF (ak [3] (jX noV (flF fl "passes" (va 0))) (gNm 3) tQ (lsF (rO (dpF (x1 (tpF (x2 (cS "queue") (cD (.int 9)))))) (lnF (va 3)))))))))) (af (orO (rtQ 2 (ak [4] (jX noV (va 1)) (gNm 4) tQ (clF bD (x3 (va 2) (cI 0) (clF bd (x3 (va 0) (cI 0) (va 4))))))) (cb (evX (tpF (x2 (va 2) (lsF (ak [4] (jX noV (va 1)) (gNm 4) tQ (clF bD (x3 (va 2) (cI 0) (clF bd (x3 (va 0) (cI 0) (va 4))))))))) noV (fTp (x2 (frX (va 2) noV noV) (frX (lsF (ak [4] (jX noV (va 1)) (gNm 4) tQ (clF bD (x3 (va 2) (cI 0) (clF bd (x3 (va 0) (cI 0) (va 4))))))) (ak [4] (jX noV (va 1)) (gNm 4) tQ (clF bD (x3 (va 2) (cI 0) (clF bd (x3 (va 0) (cI 0) (va 4)))))) (fCo [4] (jX noV (va 1)) (gNm 4) tQ (frX (clF bD (x3 (va 2) (cI 0) (clF bd (x3 (va 0) (cI 0) (va 4))))) noV (fCl bD (x3 (va 2) (cI 0) (clF bd (x3 (va 0) (cI 0) (va 4))))))))))))) nxE)))
def Hw (f:Fn):Prop:=∀ (ps:List (List Pk)) (ls:List Lt),Pln ps ls->ls.length<=9->∃ks:List Lt,f [ai ps,plD true ls]=dp (plD true ks)/\ks.length<=9/\∀l∈ks,One ps l
theorem KC {st} (hst:wy st):Hw (aX 2 4 (dE st)):=λps ls P h9=>by
 suffices h:∃ks:List Lt,dE st [sn (ai ps),sn (plD true ls),none,none]=some (.rt (.deep,plD true ks))/\ks.length<=9/\∀l∈ks,One ps l by
  obtain⟨ks,h,k⟩:=h;exact⟨ks,aC rfl h,k⟩
 unfold dE;refine AE (s:=(.deep,plD true [])) (Y':=[sn (ai ps),sn (plD true ls),none,none]) (evX_lfs (d:=.lst []) (ds:=[]) (by simp) rfl (by simp) rfl) ?_;refine D9 (xs:=ls) (mk:=λl=>wD l.w) (λi Y=>∃ks o3,ks.length<=i/\(∀l∈ks,One ps l)/\Y=[sn (ai ps),sn (plD true ls),dp (plD true ks),o3]) rfl ⟨[],none,le_refl _,λ_ h=>(nomatch h),rfl⟩ ?_ ?_
 ·rintro i l Y hl ⟨ks,o3,hk,ho,rfl⟩;have hi:i<ls.length:=(List.getElem?_eq_some_iff.mp hl).1;have ho':∀x∈ks++[l],One ps x:=λx hx=>by
   rcases mem_append.mp hx with z|z
   ·exact ho x z
   ·rw[mem_singleton.mp z];exact P.o l (mem_of_getElem? hl)
  have hn:(ks++[l]).length<=i+1:=by rw[length_append];exact Nat.add_le_add_right hk 1
  have e:=hst ps (ks++[l]) ⟨P.v,P.w,by omega,ho'⟩ (by omega);have em:plD true (ks++[l])=.lst ((ks.map λl=>wD l.w)++[wD l.w]):=by show D.lst _=_;rw[List.map_append];rfl
  rw[em]at e;show∃Y',af (ifS _ _ _) nxE [sn (ai ps),sn (plD true ls),dp (plD true ks),sn (wD l.w)]=some (.nx Y')/\_;have hT:bP (trF (clF st (x2 (va 0) (lsF (iX (va 2) (lsF (dpF (x1 (va 3))))))))) (vw [sn (ai ps),sn (plD true ls),dp (plD true ks),sn (wD l.w)])=some (!trnB ps (ks++[l])):=by
   have ec:iX (va 2) (lsF (dpF (x1 (va 3)))) (vw [sn (ai ps),sn (plD true ls),dp (plD true ks),sn (wD l.w)])=some ((ks.map λl=>wD l.w)++[wD l.w]):=Kw rfl (by simp only[bz,lj,ag,am,aG];rfl) (by rw[length_append,length_map];exact lt_big (by show _+1<=1000;omega));simp only[notQ_a,fR,clF_a,ag,am,aG,bz,ec,map_some,Option.bind_some];simp only[az,aj,Option.bind_some,e,aM,iw,map_some]
  refine Mx hT ?_;cases trnB ps (ks++[l])with
  |true=>exact⟨_,rfl,wl ⟨ks,_,by omega,ho,rfl⟩⟩
  |false=>exact⟨_,nh (ka (ds:=ks.map λl=>wD l.w) (ds0:=ks.map λl=>wD l.w) (c0:=.deep) (d:=wD l.w) rfl (evX_lf rfl (J6 _)) rfl (by rw[length_map];exact lt_big (by omega))) rfl,wl ⟨ks++[l],_,hn,ho',by rw[em];rfl⟩⟩
 ·rintro Y ⟨ks,o3,hk,ho,rfl⟩;exact⟨ks,aJ rfl,by omega,ho⟩
def Hx (f:Fn):Prop:=∀ (ps:List (List Pk)) (ls:List Lt),Pln ps ls->f [ai ps,plD true ls,iN ls.length]=dp (.bl true)
theorem KD:Hx (aX 3 5 eH):=λps ls P=>by
 have h6:=P.v.len;have y1:seqD (plD true ls)=some (ls.map λl=>wD l.w):=rfl;have y0:seqD (ai ps)=some (ps.map tpD):=rfl;refine aC rfl ?_;show eH [sn (ai ps),sn (plD true ls),sn (iN ls.length),none,none]=_;unfold eH;refine q_if0 ?_ (uK (xs:=ls) (mk:=λl=>wD l.w) (λ_ Y=>∃o3 o4,Y=[sn (ai ps),sn (plD true ls),sn (iN ls.length),o3,o4]) rfl ⟨none,none,rfl⟩ ?_ ?_)
 ·simp only[az,aB,aA,mR,notQ_a,fR,bb,aF,br,ag,am,aG,CW,av,aj,ay,Option.bind_some,bE,y1,length_map,iK,bQ];simp[plD,sq]
 ·rintro i l Y hl ⟨o3,o4,rfl⟩;have hw:=(P.o l (mem_of_getElem? hl)).w;have hwl:l.w.length=ps.length:=hw.len;have it:eX [wD l.w,.ty "tuple"]=some (.bl true):=by simp[wD]
  have y3:seqD (wD l.w)=some (l.w.map λ(k:Nat)=>D.int (k:Int)):=rfl;show∃Y',af (ifS _ _ _) _ [sn (ai ps),sn (plD true ls),sn (iN ls.length),sn (wD l.w),o4]=some (.nx Y')/\_;refine Kg ?_ (Kh (n:=ps.length) (s:=4) (v:=λi=>(i:Int)) (λ_ Y=>∃o4,Y=[sn (ai ps),sn (plD true ls),sn (iN ls.length),sn (wD l.w),o4]) (fS ?_) ⟨o4,rfl⟩ ?_ ?_)
  ·simp only[az,lH,aA,mR,notQ_a,fR,bb,aF,br,ag,am,aG,CW,av,aj,ay,Option.bind_some,bE,y0,y3,length_map,iK,bQ,it,iw,map_some,Bool.not_true,Bool.false_eq_true,if_false,hwl];simp
  ·simp only[ag,am,br,aG];show lD [.int ((ps.map tpD).length:Int)]=_;rw[length_map];exact bV (by omega)
  ·rintro k Y hk ⟨o4,rfl⟩;have a1:ixD (wD l.w) (iN k)=some (iN (l.w[k]'(by omega))):=atI_mapN (mk:=λ(k:Nat)=>D.int (k:Int)) (getElem?_eq_getElem (by omega));have a2:ixD (ai ps) (iN k)=some (tpD ps[k]):=atI_mapN (mk:=tpD) (getElem?_eq_getElem hk);have lt:l.w[k]'(by omega)<ps[k].length:=hw.each (l.w[k]'(by omega),ps[k]) (mem_of_getElem? (i:=k) (List.getElem?_zip_eq_some.mpr ⟨getElem?_eq_getElem (by omega),getElem?_eq_getElem hk⟩));generalize l.w[k]'(by omega)=x at a1 lt;refine⟨[sn (ai ps),sn (plD true ls),sn (iN ls.length),sn (wD l.w),sn (iN k)],q_if0 ?_ rfl,_,rfl⟩;simp only[set_cons_succ,set_cons_zero,az,aA,mR,notQ_a,fR,bb,zV,aF,br,ag,am,aG,CW,db,av,aj,ay,Option.bind_some,a1,a2,bE,show seqD (tpD ps[k])=some (ps[k].map pkD)from rfl,length_map,Gv,Gu,bQ,decide_eq_true (show(0:Int)<=(x:Int)by omega),decide_eq_true (show(x:Int)<(ps[k].length:Int)by omega),if_true];rfl
  ·rintro Y ⟨o4,rfl⟩;exact wl ⟨_,_,rfl⟩
 ·rintro Y ⟨o3,o4,rfl⟩;exact q_ret (evX_lf rfl rfl)
def AY (f:Fn):Prop:=∀ (m:List Nat) (s:Int),f [aw m,.int s]=dp (.bl (decide (s= -1)&&decide (1<m.length)))
theorem Hy:AY (aX 2 2 dF):=λm s=>by
 refine aC rfl ?_;show dF [sn (aw m),sn (.int s)]=_;unfold dF;refine q_ret (evX_lf ?_ rfl);simp only[az,aA,uB,aF,D3,br,ag,am,aG,db,aj,ay,Option.bind_some,zW,iK,bQ,bE,show seqD (aw m)=some (m.map λ(k:Nat)=>D.int (k:Int))from rfl,length_map,uD];by_cases h:s= -1
 ·subst h;have i1:decide ((1:Int)<(m.length:Int))=decide (1<m.length):=by rw[decide_eq_decide];omega
  simp[i1]
 ·simp[h]
def AZ (f:Fn):Prop:=∀ (ps:List (List Pk)) (ls:List Lt),Pln ps ls->(Trn ps ls->f [ah ps,plD true ls]=dp .non)/\(¬Trn ps ls->f [ah ps,plD true ls]=some (.pr,.tup [ah (qs ps),plD true (ql ps ls)]))
theorem Hz (hwc:vZ wc) (hcw:sCW cw) (hfl:fl "Mill" "passes"=true) (hmi:sg mi) (hcz:Hn cz) (htl:AY tl):AZ (aX 2 8 (cx wc cw fl mi cz tl)):=λps ls P=>by
 obtain⟨c,ec⟩:=hcz ps ls P;have sl:(srtK ps ls).length<=24:=by rw[show(srtK ps ls).length=(kys (cl ps ls)).length from(List.mergeSort_perm _ _:(gx (kys (cl ps ls))).Perm _).length_eq];exact Ec P
 have h6:=P.v.len;have h24:=P.n;have hT:trF (biF ue (x1 (lsF (ak [5,6,7] (jX noV (clF cz (x2 (va 0) (va 1)))) (gTp 3 (aK (gNm 5) (aK (gNm 6) (aK (gNm 7) b6)))) tQ (clF tl (x2 (va 6) (va 7))))))) (vw [sn (ah ps),sn (plD true ls),none,none,none,none,none,none])=some ((srtK ps ls).any λc=>decide (sdz ps ls c= -1)&&decide (1<(mem1 (cl ps ls) ls.length c).length)):=by
  have e:ak [5,6,7] (jX noV (clF cz (x2 (va 0) (va 1)))) (gTp 3 (aK (gNm 5) (aK (gNm 6) (aK (gNm 7) b6)))) tQ (clF tl (x2 (va 6) (va 7))) (vw [sn (ah ps),sn (plD true ls),none,none,none,none,none,none])=some ((srtK ps ls).map λc=>.bl (decide (sdz ps ls c= -1)&&decide (1<(mem1 (cl ps ls) ls.length c).length))):=by
   refine aN (mk:=tri ps ls) (out:=λc=>.bl (decide (sdz ps ls c= -1)&&decide (1<(mem1 (cl ps ls) ls.length c).length))) ?_ (λc hc=>?_) (lt_big (by omega))
   ·simp only[az,aB,aA,bn,clF_a,ag,am,aG,aj,ay,Option.bind_some,ec,aM];rfl
   ·show gI _ _ _ _ (.tup [.int c,aw (mem1 (cl ps ls) ls.length c),.int (sdz ps ls c)])=_;have ht:=htl (mem1 (cl ps ls) ls.length c) (sdz ps ls c);simp only[az,aB,aA];simp[ht]
  rw[fR,br,Hc,ag,bz,e];simp only[map_some,am,Option.bind_some,sy (srtK ps ls) λc=>decide (sdz ps ls c= -1)&&decide (1<(mem1 (cl ps ls) ls.length c).length),iw]
 have tb:((srtK ps ls).any λc=>decide (sdz ps ls c= -1)&&decide (1<(mem1 (cl ps ls) ls.length c).length))=true↔Trn ps ls:=by
  rw[Dw P,List.any_eq_true];simp
 refine⟨λh=>?_,λh=>?_⟩
 ·refine aC rfl ?_;show cx wc cw fl mi cz tl [sn (ah ps),sn (plD true ls),none,none,none,none,none,none]=_;unfold cx;rw[tb.mpr h]at hT;exact aJ ((jz hT).trans rfl)
 ·rw[Bool.eq_false_iff.mpr λz=>h (tb.mp z)]at hT;obtain⟨v,w,aq⟩:=AV P.v;have hf:iE fl "passes" (ah ps)=some (ai ps):=by simp[iE,ah,hfl]
  have eq:∀Y:Vv,Y=[some (ah ps),some (plD true ls),none,none,none,none,none,none]->mkF "Mill" mi (x1 (lsF (ak [3] (jX noV (flF fl "passes" (va 0))) (gNm 3) tQ (lsF (rO (dpF (x1 (tpF (x2 (cS "queue") (cD (.int 9)))))) (lnF (va 3))))))) Y=some (ah (qs ps)):=by
   rintro Y rfl;have e:ak [3] (jX noV (flF fl "passes" (va 0))) (gNm 3) tQ (lsF (rO (dpF (x1 (tpF (x2 (cS "queue") (cD (.int 9)))))) (lnF (va 3)))) [some (ah ps),some (plD true ls),none,none,none,none,none,none]=some (ps.map λp=>paD (true,p.map λ_=>(true,9))):=by
    refine aN (mk:=tpD) (out:=λp=>paD (true,p.map λ_=>(true,9))) ?_ (λp hp=>?_) (lt_big (by omega))
    ·simp only[bn,rY,aG,aj,Option.bind_some,hf];rfl
    ·obtain⟨p1,p2,_⟩:=P.v.p hp;have er:∀Y:Vv,dD Y 3=some (tpD p)->rO (dpF (x1 (tpF (x2 (cS "queue") (cD (.int 9)))))) (lnF (va 3)) Y=some (p.map λ_=>pkD (true,9)):=λY h3=>by
      unfold rO;simp only[lj,mP,br,ag,am,aG,uA,Gs,h3,Option.bind_some,Gy,gh,bE,show seqD (tpD p)=some (p.map pkD)from rfl,length_map,mS];rw[if_pos ⟨by omega,by omega,by show 1*_<=_;omega⟩];show some (List.replicate (p.length:Int).toNat [_]).flatten=_;rw[Int.toNat_natCast];rw[List.map_const',List.flatten_replicate_singleton];rfl
     simp only[bR,bu,bL,eB,lG,set_cons_succ,set_cons_zero,Option.bind_some,if_true,bz,er [some (ah ps),some (plD true ls),none,some (tpD p),none,none,none,none] rfl,map_some];rw[paD];show some (some (D.lst _))=some (some (D.lst _));rw[List.map_map];rfl
   have g:=hmi true (ps.map λp=>(true,p.map λ_=>((true,9):Pk))) (by rw[List.map_map];exact v);rw[List.map_map,List.map_map]at g;simp only[D4,ag,am,bz,e,map_some,Option.bind_some];rw[show mi [.lst (ps.map λp=>paD (true,p.map λ_=>(true,9)))]=some [(("passes":Str),ai (qs ps))]from g];rfl
  refine aC rfl ?_;show cx wc cw fl mi cz tl [sn (ah ps),sn (plD true ls),none,none,none,none,none,none]=_;unfold cx;refine q_if0 hT (q_set (evX_sh (d:=ah (qs ps)) (eq _ rfl) rfl rfl (by simp) rfl (eq _ rfl)) ?_);show af (orO (rtQ 2 _) _) nxE [sn (ah ps),sn (plD true ls),sn (ah (qs ps)),none,none,none,none,none]=_;refine aJ ?_;have e:ak [4] (jX noV (va 1)) (gNm 4) tQ (clF cw (x3 (va 2) (cI 0) (clF wc (x3 (va 0) (cI 0) (va 4))))) [some (ah ps),some (plD true ls),some (ah (qs ps)),none,none,none,none,none]=some (ls.map λl=>wD (fB (qs ps) (cdz ps l).toNat)):=by
   refine aN (mk:=λl=>wD l.w) (out:=λl=>wD (fB (qs ps) (cdz ps l).toNat)) rfl (λl hl=>?_) (lt_big (by omega));have e1:wc [ah ps,.int 0,wD l.w]=dp (.int (cdz ps l)):=hwc ps 0 l.w P.v (Nat.zero_le _) (P.o l hl).w;obtain⟨b1,b2⟩:=AW P hl;have e2:=hcw (qs ps) (cdz ps l).toNat v (by rw[l6];omega);rw[show iN (cdz ps l).toNat=.int (cdz ps l)from congrArg D.int (Int.toNat_of_nonneg b1)]at e2;simp only[bR,bu,bL,eB,lG,set_cons_succ,set_cons_zero,Option.bind_some,if_true,clF_a,ag,am,aG,db,av,aj,ay,e1,e2,aM]
  unfold orO;have er:rtQ 2 (ak [4] (jX noV (va 1)) (gNm 4) tQ (clF cw (x3 (va 2) (cI 0) (clF wc (x3 (va 0) (cI 0) (va 4)))))) [sn (ah ps),sn (plD true ls),sn (ah (qs ps)),none,none,none,none,none]=some (.rt (.pr,.tup [ah (qs ps),plD true (ql ps ls)])):=by
   unfold rtQ;show((ak _ _ _ _ _ [some (ah ps),some (plD true ls),some (ah (qs ps)),none,none,none,none,none]).bind _)=_;rw[e,Option.bind_some];show some (Out.rt (.pr,.tup [ah (qs ps),.lst _]))=some (Out.rt (.pr,.tup [ah (qs ps),.lst ((ls.map _).map _)]));rw[List.map_map];rfl
  rw[er]
end K42
namespace K42
open PySem PySem.Spec PyProof.Rows L2
def wz (dG:List D->Option (List (Str×D))) (bH dX bU bp ci:Fn) (fl:Str->Str->Bool) (aV bt cQ bI bW c8:Fn):Ev->Option Out:=(af (aP 1 (evC c8 (x2 (va 0) (cI 63)))) (af (aP 2 (evC bI (x2 (va 1) (cI 0)))) (af (aP 3 (evC cQ (x4 (va 1) (cI 15) (va 2) (ac bA (ac ixD (va 1) (cI 12)) (cI 9))))) (af (ifS (aD (ac (aQ false) (ac bA (ac ixD (va 1) (cI 13)) (cI 2)) (cI 0))) (af (aP 3 (evC bW (x2 (va 2) (va 3)))) nxE) nxE) (af (aP 4 (evX (lnF (va 3)) noV (fNo (x1 (va 3))))) (af (aP 5 (evX (liF (x1 (va 3))) (l1F (x1 (va 3))) (fNo (x1 (va 3))))) (af (aP 6 (orO (evQ (x2 (mkF "Mill" dG (x1 (va 2))) (va 5)) bH) (evC bH (x2 (mkF "Mill" dG (x1 (va 2))) (va 5))))) (af (aP 7 (evX (biF aY (x1 (lsF (ak [14] (jX noV (clF bI (x2 (va 1) (cI 6)))) (gNm 14) tQ (biF aY (x1 (lsF (ak [15] (jX noV (va 14)) (gNm 15) tQ (tpF (x2 (cS "queue") (ac ixD (va 15) (cI 1)))))))))))) noV (fNo (x1 (lsF (ak [14] (jX noV (clF bI (x2 (va 1) (cI 6)))) (gNm 14) tQ (biF aY (x1 (lsF (ak [15] (jX noV (va 14)) (gNm 15) tQ (tpF (x2 (cS "queue") (ac ixD (va 15) (cI 1)))))))))))))) (af (aP 8 (evC cQ (x4 (va 1) (cI 39) (va 7) (va 4)))) (af (ifS (aD (ac (aQ true) (va 5) (va 3))) (rtF (evV (cB false))) nxE) (af (ifS (trF (clF aV (x2 (va 2) (va 3)))) (af (aP 11 (evC dX (x4 (mkF "Mill" dG (x1 (va 2))) (va 3) (mkF "Mill" dG (x1 (va 7))) (va 8)))) (af (ifS (orQ (aD (ac (tW true) (va 6) cN)) (aD (ac (tW false) (va 11) cN))) (rtF (evV (cB false))) nxE) (rtF (evV (ac (aQ true) (clF bt (x3 (va 2) (va 3) (va 11))) (clF bt (x3 (va 7) (va 8) (va 11)))))))) nxE) (af (ifS (orQ (bP (trF (biF eX (x2 (va 6) (cT "tuple"))))) (orQ (aD (ac (aQ true) (lnF (va 6)) (cI 2))) (bP (trF (F8 "Mill" (ac ixD (va 6) (cI 0))))))) (rtF (evV (cB false))) nxE) (af (aP 9 (evX (biF aY (x1 (lsF (ak [14] (jX noV (va 2)) (gNm 14) tQ (biF aY (x1 (lsF (ak [15] (jX noV (va 14)) (gNm 15) tQ (tpF (x2 (cS "queue") (cI 9))))))))))) noV (fNo (x1 (lsF (ak [14] (jX noV (va 2)) (gNm 14) tQ (biF aY (x1 (lsF (ak [15] (jX noV (va 14)) (gNm 15) tQ (tpF (x2 (cS "queue") (cI 9))))))))))))) (af (ifS (orQ (aD (ac (aQ true) (flF fl "passes" (ac ixD (va 6) (cI 0))) (va 9))) (bP (trF (clF ci (x3 (va 9) (ac ixD (va 6) (cI 1)) (va 4)))))) (rtF (evV (cB false))) nxE) (af (frF (jX noV (clF bU (x1 (va 4)))) (eTp 2 (cm (eNm 12) (cm (eNm 13) j4))) (af (ifS (aD (ac (aQ true) (clF bp (x4 (va 2) (va 3) (va 12) (va 13))) (clF bp (x4 (va 9) (ac ixD (va 6) (cI 1)) (va 12) (va 13))))) (rtF (evV (cB false))) nxE) nxE)) (af (ifS (aD (ac (tW true) (clF dX (x4 (mkF "Mill" dG (x1 (va 2))) (va 3) (ac ixD (va 6) (cI 0)) (ac ixD (va 6) (cI 1)))) cN)) (rtF (evV (cB false))) nxE) (af (aP 10 (evX (liF (x1 (ac ixD (va 6) (cI 1)))) (l1F (x1 (ac ixD (va 6) (cI 1)))) (fNo (x1 (ac ixD (va 6) (cI 1)))))) (af (orO (apQ 6 (tpF ae)) (qk 6 (cI 1) (tpF ae))) (af (rvQ 6) (rtF (evV (lB (ac (aQ false) (va 5) (va 3)) (ac (aQ false) (ac ixD (clF bH (x2 (mkF "Mill" dG (x1 (va 2))) (va 5))) (cI 1)) (va 10))))))))))))))))))))))))
theorem Eh {J:Fx} {E:Fv} {ps:List (List Pk)} (hJ:J [a0,a1,a2,a3,a4,a5,a6,a7,a8,a9,a10,a11,a12,a13,none,none]=some (ps.map tpD)) (hl:ps.length<=6) (hp:∀p∈ps,p.length<=6) (hE:∀ (x:Option D) (k:Pk),E [a0,a1,a2,a3,a4,a5,a6,a7,a8,a9,a10,a11,a12,a13,x,some (pkD k)]=some (pkD (f k))):
  biF aY (x1 (lsF (ak [14] J (gNm 14) tQ (biF aY (x1 (lsF (ak [15] (jX noV (va 14)) (gNm 15) tQ E))))))) [a0,a1,a2,a3,a4,a5,a6,a7,a8,a9,a10,a11,a12,a13,none,none]=some (ai (ps.map λp=>p.map f)):=by
 have e1:ak [14] J (gNm 14) tQ (biF aY (x1 (lsF (ak [15] (jX noV (va 14)) (gNm 15) tQ E)))) [a0,a1,a2,a3,a4,a5,a6,a7,a8,a9,a10,a11,a12,a13,none,none]=some (ps.map λp=>tpD (p.map f)):=by
  refine aN (mk:=tpD) (out:=λp=>tpD (p.map f)) hJ (λp h=>?_) (lt_big (by omega));have e2:ak [15] (jX noV (va 14)) (gNm 15) tQ E [a0,a1,a2,a3,a4,a5,a6,a7,a8,a9,a10,a11,a12,a13,some (tpD p),none]=some (p.map λk=>pkD (f k)):=
   aN (mk:=pkD) (out:=λk=>pkD (f k)) rfl (λk _=>by
    simp only[bR,bu,bL,eB,lG,set_cons_succ,set_cons_zero,Option.bind_some,if_true,hE]) (lt_big (by have:=hp p h;omega))
  simp only[bR,bu,bL,eB,lG,set_cons_succ,set_cons_zero,Option.bind_some,if_true,br,ag,am,bz,e2,map_some,gN,j8];unfold tpD;rw[List.map_map];rfl
 simp only[br,ag,am,bz,e1,map_some,Option.bind_some,gN,j8]
 unfold ai
 rw[List.map_map]
 rfl
theorem HA (neg:Bool) (ps:List (List Pk)):aQ neg (ai ps) (ai ps)=some (.bl (!neg)):=by
 obtain⟨a,b⟩:=jG (f:=tpD) (n:=3) (xs:=ps) λp _=>by
  obtain⟨a,b⟩:=jG (f:=pkD) (n:=2) (xs:=p) λk _=>⟨rfl,by show max 0 (max 0 0)+1<=2;decide⟩;exact⟨a,Nat.succ_le_succ b⟩
 exact qG neg a (by show dP _+1<=50;omega) rfl rfl
theorem uT (neg:Bool) (ls:List Lt):aQ neg (plD true ls) (plD true ls)=some (.bl (!neg)):=by
 obtain⟨a,b⟩:=Hq ls;exact qG neg a (by omega) rfl rfl
theorem A4:vw (Y.set i (some s))=(vw Y).set i (some s.2):=by
 unfold vw;rw[List.map_set];rfl
abbrev s0 (ns cs:List Int) (ps:List (List Pk)) (ls:List Lt) (c:Cat) (f6 o7 o8 o9 o10 o11 o12 o13:Option Sl):Ev:=[sn (scD ns),some (c,scD cs),some (c,ai ps),some (c,plD true ls),some (c,iN ls.length),some (c,plD true ls),f6,o7,o8,o9,o10,o11,o12,o13,none,none]
abbrev wds (ls:List Lt):List D:=ls.map λl=>wD l.w
theorem KE (h:p Y=some false) (k:q Y=some b):orQ p q Y=some b:=by rw[mR,h];exact k
theorem KF {x:α} {y:β} (h:f x=some y):orO f g x=some y:=by unfold orO;rw[h]
theorem KG {fa:Fx} {f:Fn} (h1:fa (vw Y)=some ds) (h2:f ds=dp d) (h:g Y=o):orO (evQ fa f) g Y=o:=by
 have:evQ fa f Y=none:=by unfold evQ;rw[h1,Option.bind_some,h2];rfl
 unfold orO;rw[this];exact h
theorem oQ_pr {fa:Fx} {f:Fn} (h1:fa (vw Y)=some ds) (h2:f ds=some (.pr,d)):orO (evQ fa f) g Y=some ((.pr,d),cH Y):=by
 have:evQ fa f Y=some ((.pr,d),cH Y):=by unfold evQ;rw[h1,Option.bind_some,h2];rfl
 unfold orO;rw[this]
theorem KH (hmi:sg mi) (hiq:AZ iq) (hpt:uO pt) (hpr:qM pr) (hfi:qL fi) (hip:Hx ip) (hfl:fl "Mill" "passes"=true) (hso:wy so) (hwa:wq wa) (hpl:AJ pl) (hpa:Hh pa) (hun:Hw un) (hce:qA ce) (ns:List Int) (hn:ns.length<=63):aX 1 16 (wz mi iq pt pr fi ip fl so wa pl pa un ce) [scD ns]=dp (.bl true):=by
 obtain⟨cs,hcl,e0⟩:=hce ns 63 (by omega) (by decide) (by decide);have e0:ce [scD ns,.int 63]=dp (scD cs):=e0;obtain⟨ps,hp4,hP,e1⟩:=hpa cs 0 (by omega);have e1:pa [scD cs,.int 0]=dp (ai ps):=e1;obtain⟨pv,pw⟩:=pH hp4 hP;obtain⟨x,ex⟩:=m6 (ns:=cs) (i:=12) (by decide) (by omega);obtain⟨y3,ey3⟩:=m6 (ns:=cs) (i:=13) (by decide) (by omega);obtain⟨m0,m1⟩:=mdZ x (show(0:Int)<9 by decide);have hcn:x%9=(((x%9).toNat:Nat):Int):=by omega
 have hc9:(x%9).toNat<=9:=by omega
 generalize (x%9).toNat=n at hcn hc9;obtain⟨l0,hl0,hO0,e2⟩:=hpl cs 15 n ps (by omega) (by omega) hp4 hP;have e2:pl [scD cs,.int 15,ai ps,iN n]=dp (plD true l0):=e2;have P0:Pln ps l0:=⟨pv,pw,by omega,hO0⟩;obtain⟨l1,e3,hl1,hO1⟩:=hun ps l0 P0 (by omega);obtain⟨p0,hq4,hQ,e4⟩:=hpa cs 6 (by omega);have e4:pa [scD cs,.int 6]=dp (ai p0):=e4;have hq6:∀p∈p0,p.length<=6:=λp hp=>by have:=(hQ p hp).hi;omega
 have hp6:∀p∈ps,p.length<=6:=λp hp=>by have:=(hP p hp).hi;omega
 generalize hp2:(p0.map λp=>p.map λk=>((true,k.2):Pk))=p2;have h24:p2.length<=4:=by rw[<-hp2,length_map];exact hq4
 have hP2:∀p∈p2,Pas p:=λp hp=>by
  rw[<-hp2]at hp;obtain⟨q,hq,rfl⟩:=List.mem_map.mp hp;have:=hQ q hq;refine⟨by rw[length_map];exact this.lo,by rw[length_map];exact this.hi,λk hk=>?_⟩;obtain⟨k',hk',rfl⟩:=List.mem_map.mp hk;exact this.w k' hk'
 have aq2:Dx p2:=λp hp k hk=>by
  rw[<-hp2]at hp;obtain⟨q,hq,rfl⟩:=List.mem_map.mp hp;obtain⟨k',_,rfl⟩:=List.mem_map.mp hk;rfl
 obtain⟨qv,qw⟩:=pH h24 hP2;have mk:∀ (i:Nat) (q:List (List Pk)) (Y:Vv),Valid q->dD Y i=some (ai q)->mkF "Mill" mi (x1 (va i)) Y=some (ah q):=λi q Y g h=>by
  simp only[D4,ag,am,aG,h,Option.bind_some,Do hmi g];rfl
 obtain⟨ls,P,h9,e5⟩:∃ls,Pln ps ls/\ls.length<=9/\(if decide (y3%2=0)=true then af (aP 3 (evC un (x2 (va 2) (va 3)))) nxE [sn (scD ns),dp (scD cs),dp (ai ps),dp (plD true l0),none,none,none,none,none,none,none,none,none,none,none,none]else nxE [sn (scD ns),dp (scD cs),dp (ai ps),dp (plD true l0),none,none,none,none,none,none,none,none,none,none,none,none])=some (.nx [sn (scD ns),dp (scD cs),dp (ai ps),dp (plD true ls),none,none,none,none,none,none,none,none,none,none,none,none]):=by
  cases decide (y3%2=0)with
  |true=>exact⟨l1,⟨pv,pw,by omega,hO1⟩,hl1,q_set (evX_call (d:=plD true l1) (e:=plD true l1) (clF_a.trans (congrArg cu e3)) rfl rfl (fCl_a.trans (congrArg iI e3))) rfl⟩
  |false=>exact⟨l0,P0,by omega,rfl⟩
 obtain⟨l2,hl2,hO2,e6⟩:=hpl cs 39 ls.length p2 (by omega) (by omega) h24 hP2;have e6:pl [scD cs,.int 39,ai p2,iN ls.length]=dp (plD true l2):=e6;have e7:=hso ps ls P h9;have T:Two ps p2 ls l2:=⟨pv,qv,pw,qw,by omega,hl2,P.o,hO2⟩;have Q:Pln p2 l2:=⟨qv,qw,by omega,hO2⟩;obtain⟨i1,i2⟩:=hiq ps ls P;have com:∀ (c:Cat) (f6:Option Sl) (G:Ev->Option Out) (out:Option Out),G (s0 ns cs ps ls c f6 (dp (ai p2)) (dp (plD true l2)) none none none none none)=out->af (aP 7 (evX (biF aY (x1 (lsF (ak [14] (jX noV (clF pa (x2 (va 1) (cI 6)))) (gNm 14) tQ (biF aY (x1 (lsF (ak [15] (jX noV (va 14)) (gNm 15) tQ (tpF (x2 (cS "queue") (ac ixD (va 15) (cI 1)))))))))))) noV (fNo (x1 (lsF (ak [14] (jX noV (clF pa (x2 (va 1) (cI 6)))) (gNm 14) tQ (biF aY (x1 (lsF (ak [15] (jX noV (va 14)) (gNm 15) tQ (tpF (x2 (cS "queue") (ac ixD (va 15) (cI 1)))))))))))))) (af (aP 8 (evC pl (x4 (va 1) (cI 39) (va 7) (va 4)))) (af (ifS (aD (ac (aQ true) (va 5) (va 3))) (rtF (evV (cB false))) nxE) G)) (s0 ns cs ps ls c f6 none none none none none none none)=out:=λc f6 G out k=>by
  refine q_set (evX_lf (d:=ai p2) ?_ (mY p2)) (q_set (evX_call (d:=plD true l2) (e:=plD true l2) (clF_a.trans (congrArg cu e6)) rfl rfl (fCl_a.trans (congrArg iI e6))) (q_if0 ?_ k))
  ·rw[<-hp2];refine Eh (f:=λk=>(true,k.2)) (ps:=p0) ?_ (by omega) hq6 (λx k=>?_)
   ·simp only[bn,clF_a,ag,am,aG,db,av,aj,ay,Option.bind_some];exact(congrArg (λo=>(cu o).bind seqD) e4).trans rfl
   ·have e9:ixD (pkD k) (.int 1)=some (.int k.2):=r0 _ _ _;simp only[mP,aF,ag,am,aG,db,uA,av,aj,ay,Option.bind_some,e9,gh];rfl
  ·show aD (ac (aQ true) (va 5) (va 3)) [_,_,_,some (plD true ls),_,some (plD true ls),_,_,_,_,_,_,_,_,_,_]=_;simp only[bb,aF,aG,av,aj,Option.bind_some,uT,bQ];rfl
 refine aC rfl ?_;show wz mi iq pt pr fi ip fl so wa pl pa un ce [sn (scD ns),none,none,none,none,none,none,none,none,none,none,none,none,none,none,none]=_;unfold wz;refine q_set (evX_call (d:=scD cs) (e:=scD cs) (clF_a.trans (congrArg cu e0)) rfl rfl (fCl_a.trans (congrArg iI e0))) (q_set (evX_lf (d:=ai ps) (clF_a.trans (congrArg cu e1)) (mY ps)) (q_set (evX_call (d:=plD true l0) (e:=plD true l0) ?_ rfl rfl ?_) (Kt (b:=decide (y3%2=0)) ?_ e5
  (q_set (evX_lf (d:=iN ls.length) ?_ rfl) (q_set (evX_lfs (d:=plD true ls) (ds:=ls.map λl=>wD l.w) ?_ rfl ?_ (Ed ls)) ?_)))))
 ·simp only[set_cons_succ,set_cons_zero,az,aB,aA,clF_a,ag,am,aF,aG,av,aj,ay,db,Option.bind_some,ex,bK (show(0:Int)<9 by decide),hcn,e2,aM]
 ·simp only[set_cons_succ,set_cons_zero,az,aB,aA,fCl_a,ag,am,aF,aG,av,aj,ay,db,Option.bind_some,ex,bK (show(0:Int)<9 by decide),hcn,e2,uC]
 ·simp only[set_cons_succ,set_cons_zero,az,aB,aA,bb,aF,aG,av,aj,ay,db,Option.bind_some,ey3,bK (show(0:Int)<2 by decide),iK,bQ];rfl
 ·simp only[az,aB,aA,br,ag,am,aG,av,aj,ay,Option.bind_some,bE,show seqD (plD true ls)=some (ls.map λl=>wD l.w)from rfl,length_map]
 ·simp only[set_cons_succ,set_cons_zero,az,aB,aA,vS,ag,am,aG,av,aj,ay,Option.bind_some];rfl
 ·simp only[set_cons_succ,set_cons_zero,az,aB,aA,vR,ag,am,aG,av,aj,ay,Option.bind_some];rfl
 have fa:∀c f6 o7 o8 o9 o10 o11 o12 o13,x2 (mkF "Mill" mi (x1 (va 2))) (va 5) (vw (s0 ns cs ps ls c f6 o7 o8 o9 o10 o11 o12 o13))=some [ah ps,plD true ls]:=λc f6 o7 o8 o9 o10 o11 o12 o13=>by
  rw[Kj,ag,mk 2 ps _ pv rfl];rfl
 have eT:∀b c f6 o7 o8 o9 o10 o11 o12 o13,so [ai ps,plD true ls]=dp (.bl b)->trF (clF so (x2 (va 2) (va 3))) (vw (s0 ns cs ps ls c f6 o7 o8 o9 o10 o11 o12 o13))=some b:=λb c f6 o7 o8 o9 o10 o11 o12 o13 e=>by
  rw[fR,clF_a];exact congrArg (λo=>(cu o).bind rC) e
 by_cases ht:Trn ps ls
 ·have i1:=i1 ht;rw[trnB_iff.mpr ht]at e7;obtain⟨r,hr,pm,ne⟩:=AT T ht (pI Q aq2);obtain⟨c,e8⟩:=hpt true true ps p2 ls l2 T;rw[hr]at e8;refine q_set (s:=(.deep,.non)) (Y':=s0 ns cs ps ls .deep none none none none none none none none) (KG (fa .deep none none none none none none none none) i1 (evX_lf (clF_a.trans ?_) rfl)) (com .deep (dp .non) _ _ (aJ ((jz (eT _ _ _ _ _ _ _ _ _ _ e7)).trans ?_)))
  ·exact(congrArg (·.bind λds=>cu (iq ds)) (fa .deep none none none none none none none none)).trans (congrArg cu i1)
  have fb:x4 (mkF "Mill" mi (x1 (va 2))) (va 3) (mkF "Mill" mi (x1 (va 7))) (va 8) (vw (s0 ns cs ps ls .deep (dp .non) (dp (ai p2)) (dp (plD true l2)) none none none none none))=some [ah ps,plD true ls,ah p2,plD true l2]:=by
   have m2:=mk 2 ps (vw (s0 ns cs ps ls .deep (dp .non) (dp (ai p2)) (dp (plD true l2)) none none none none none)) pv rfl;have m7:=mk 7 p2 (vw (s0 ns cs ps ls .deep (dp .non) (dp (ai p2)) (dp (plD true l2)) none none none none none)) qv rfl;simp only[ag,m2,m7];rfl
  obtain⟨c',Y',e9,hv⟩:∃c' Y',evC pt (x4 (mkF "Mill" mi (x1 (va 2))) (va 3) (mkF "Mill" mi (x1 (va 7))) (va 8)) (s0 ns cs ps ls .deep (dp .non) (dp (ai p2)) (dp (plD true l2)) none none none none none)=some ((c',aw r),Y')/\vw Y'=vw (s0 ns cs ps ls .deep (dp .non) (dp (ai p2)) (dp (plD true l2)) none none none none none):=by
   have eR:clF pt (x4 (mkF "Mill" mi (x1 (va 2))) (va 3) (mkF "Mill" mi (x1 (va 7))) (va 8)) (vw (s0 ns cs ps ls .deep (dp .non) (dp (ai p2)) (dp (plD true l2)) none none none none none))=some (aw r):=by
    rw[clF_a,fb,Option.bind_some,e8];rfl
   have eN:clF pt (x4 (mkF "Mill" mi (x1 (va 2))) (va 3) (mkF "Mill" mi (x1 (va 7))) (va 8)) (shv (s0 ns cs ps ls .deep (dp .non) (dp (ai p2)) (dp (plD true l2)) none none none none none))=none:=by
    have:x4 (mkF "Mill" mi (x1 (va 2))) (va 3) (mkF "Mill" mi (x1 (va 7))) (va 8) (shv (s0 ns cs ps ls .deep (dp .non) (dp (ai p2)) (dp (plD true l2)) none none none none none))=none:=by
     simp only[ag];cases mkF "Mill" mi (x1 (va 2)) _<;>rfl
    rw[clF_a,this];rfl
   have eS:fCl pt (x4 (mkF "Mill" mi (x1 (va 2))) (va 3) (mkF "Mill" mi (x1 (va 7))) (va 8)) (vw (s0 ns cs ps ls .deep (dp .non) (dp (ai p2)) (dp (plD true l2)) none none none none none))=iI (some (c,aw r)):=by
    rw[fCl_a,fb,Option.bind_some,e8];rfl
   cases c with
   |deep=>exact⟨_,_,evX_call eR rfl rfl eS,rfl⟩
   |_=>exact⟨_,_,GR eR rfl rfl eS rfl eN,rfl⟩
  have w1:wa [ai ps,plD true ls,aw r]=dp (aw (wlk ps ls r)):=hwa true ps ls r pv pw P.n P.o pm;have w2:wa [ai p2,plD true l2,aw r]=dp (aw (wlk p2 l2 r)):=hwa true p2 l2 r qv qw Q.n Q.o (by rw[hl2];exact pm);refine q_set e9 (q_if0 ?_ (q_ret (evX_lf ?_ rfl)))
  ·rw[A4,hv];rfl
  ·rw[A4,hv,aF,clF_a,clF_a];refine(congrArg (λo=>(cu o).bind _) w1).trans (((congrArg (λo=>(cu o).bind _) w2)).trans ?_);show aQ true (aw _) (aw _)=_;rw[wv,decide_eq_false ne];rfl
 ·have i2:=i2 ht;obtain⟨K,kn,kc⟩:=KA P;have qf:=pI K (AV pv).2.2;rw[Bool.eq_false_iff.mpr λz=>ht (trnB_iff.mp z)]at e7;have T2:Two ps (qs ps) ls (ql ps ls):=⟨pv,K.v,pw,K.w,P.n,kn,P.o,K.o⟩;obtain⟨c,e8⟩:=hpt true true ps (qs ps) ls (ql ps ls) T2;rw[xK T2 kc ht qf]at e8;have e9:=hip (qs ps) (ql ps ls) K;rw[kn]at e9;have j0:ixD (.tup [ah (qs ps),plD true (ql ps ls)]) (.int 0)=some (ah (qs ps)):=lm _ _;have j1:ixD (.tup [ah (qs ps),plD true (ql ps ls)]) (.int 1)=some (plD true (ql ps ls)):=r0 _ _ _;have hf:iE fl "passes" (ah (qs ps))=some (ai (qs ps)):=by simp[iE,ah,hfl]
  have iso:Jy "Mill" (ah (qs ps))=some (.bl true):=rfl;have fb:∀o10 o12 o13,x4 (mkF "Mill" mi (x1 (va 2))) (va 3) (ac ixD (va 6) (cI 0)) (ac ixD (va 6) (cI 1)) (vw (s0 ns cs ps ls .sh (some (.pr,.tup [ah (qs ps),plD true (ql ps ls)])) (dp (ai p2)) (dp (plD true l2)) (dp (ai (qs ps))) o10 none o12 o13))=some [ah ps,plD true ls,ah (qs ps),plD true (ql ps ls)]:=λo10 o12 o13=>by
   have m2:=mk 2 ps (vw (s0 ns cs ps ls .sh (some (.pr,.tup [ah (qs ps),plD true (ql ps ls)])) (dp (ai p2)) (dp (plD true l2)) (dp (ai (qs ps))) o10 none o12 o13)) pv rfl;simp only[ag,m2,aF];rfl
  refine q_set (oQ_pr (fa .deep none none none none none none none none) i2) (com .sh (some (.pr,.tup [ah (qs ps),plD true (ql ps ls)])) _ _ (q_if0 (eT _ _ _ _ _ _ _ _ _ _ e7) (q_if0 ?_ (q_set (evX_lf (d:=ai (qs ps)) (Eh (f:=λ_=>(true,9)) (ps:=ps) rfl (by omega) hp6 (λx k=>rfl)) (mY _)) (q_if0 ?_
   (uK (xs:=prT ls.length ls.length) (mk:=prD) (λ_ Y=>∃o12 o13,Y=s0 ns cs ps ls .sh (some (.pr,.tup [ah (qs ps),plD true (ql ps ls)])) (dp (ai p2)) (dp (plD true l2)) (dp (ai (qs ps))) none none o12 o13) ?_ ⟨none,none,rfl⟩ ?_ ?_))))))
  ·rfl
  ·have t1:aD (ac (aQ true) (flF fl "passes" (ac ixD (va 6) (cI 0))) (va 9)) (vw (s0 ns cs ps ls .sh (some (.pr,.tup [ah (qs ps),plD true (ql ps ls)])) (dp (ai p2)) (dp (plD true l2)) (dp (ai (qs ps))) none none none none))=some false:=by
    simp only[bb,aF,rY];show((iE fl "passes" (ah (qs ps))).bind λx=>aQ true x (ai (qs ps))).bind D.asB=_;rw[hf,Option.bind_some,HA];rfl
   have t2:trF (clF ip (x3 (va 9) (ac ixD (va 6) (cI 1)) (va 4))) (vw (s0 ns cs ps ls .sh (some (.pr,.tup [ah (qs ps),plD true (ql ps ls)])) (dp (ai p2)) (dp (plD true l2)) (dp (ai (qs ps))) none none none none))=some true:=by
    rw[fR,clF_a];exact congrArg (λo=>(cu o).bind rC) e9
   exact KE t1 (notQ_a.trans (congrArg (Option.map (!·)) t2))
  ·rw[bn,clF_a];exact congrArg (λo=>(cu o).bind seqD) (hpr ls.length h9)
  ·rintro i ⟨a,b⟩ Y hx ⟨o12,o13,rfl⟩;obtain⟨ha,hb,nab⟩:=pr_mem.mp (mem_of_getElem? hx);have f1:=hfi ps ls a b P ha hb nab;have f2:=hfi (qs ps) (ql ps ls) a b K (by omega) (by omega) nab;rw[<-AU kc kn ht qf ha hb nab]at f2;refine⟨s0 ns cs ps ls .sh (some (.pr,.tup [ah (qs ps),plD true (ql ps ls)])) (dp (ai p2)) (dp (plD true l2)) (dp (ai (qs ps))) none none (sn (iN a)) (sn (iN b)),q_if0 ?_ rfl,_,_,rfl⟩;rw[bb,aF,clF_a,clF_a];refine(congrArg (λo=>((cu o).bind _).bind _) f1).trans ((congrArg (λo=>((cu o).bind _).bind _) f2).trans ?_);show(aQ true (.bl _) (.bl _)).bind D.asB=_;rw[eq_bb];simp
  ·rintro Y ⟨o12,o13,rfl⟩;refine q_if0 ?_ (q_set (evX_lfs (d:=plD true (ql ps ls)) (ds:=(ql ps ls).map λl=>wD l.w) ?_ rfl ?_ (Ed _)) (nh (Y':=s0 ns cs ps ls .sh (some (.pr,.tup [ah (qs ps),.lst (wds (ql ps ls)++[D.tup []])])) (dp (ai p2)) (dp (plD true l2)) (dp (ai (qs ps))) (dp (plD true (ql ps ls))) none o12 o13) ?_ (nh (Y':=s0 ns cs ps ls .sh (some (.pr,.tup [ah (qs ps),.lst (wds (ql ps ls)++[D.tup []]).reverse])) (dp (ai p2)) (dp (plD true l2)) (dp (ai (qs ps))) (dp (plD true (ql ps ls))) none o12 o13) rfl (q_ret (evX_lf ?_ rfl)))))
   ·rw[bb,aF,clF_a,fb,Option.bind_some,e8];rfl
   ·rw[vS];rfl
   ·rw[vR];rfl
   ·have:apQ 6 (tpF ae) (s0 ns cs ps ls .sh (some (.pr,.tup [ah (qs ps),plD true (ql ps ls)])) (dp (ai p2)) (dp (plD true l2)) (dp (ai (qs ps))) (dp (plD true (ql ps ls))) none o12 o13)=some (.nx (s0 ns cs ps ls .sh (some (.pr,.tup [ah (qs ps),.lst (wds (ql ps ls)++[D.tup []])])) (dp (ai p2)) (dp (plD true l2)) (dp (ai (qs ps))) (dp (plD true (ql ps ls))) none o12 o13)):=by
     unfold apQ;show(if(wds (ql ps ls)).length+1<big then _ else _)=_;rw[if_pos (by rw[length_map];exact lt_big (by omega))];rfl
    exact KF this
   ·have t1:ac (aQ false) (va 5) (va 3) (vw (s0 ns cs ps ls .sh (some (.pr,.tup [ah (qs ps),.lst (wds (ql ps ls)++[D.tup []]).reverse])) (dp (ai p2)) (dp (plD true l2)) (dp (ai (qs ps))) (dp (plD true (ql ps ls))) none o12 o13))=some (.bl true):=uT false ls;rw[uB,t1,Option.bind_some,bQ,Option.bind_some,if_pos rfl,aF,aF,clF_a,fa,Option.bind_some,i2];show((ixD (.tup [ah (qs ps),plD true (ql ps ls)]) (.int 1)).bind λx=>aQ false x (plD true (ql ps ls)))=_;rw[j1,Option.bind_some,uT];rfl
end K42
namespace K42
open PySem PySem.Spec PyProof.Rows L2
def scK (N P:List Str) (sc:Scope):Bool:=decide (sc.kind=.function)&&(!sc.isCoroutine&&(!sc.isGenerator&&(decide N.Nodup&&(decide (N.take P.length=P)&&((P.all λx=>decide (sc.names.lookup x=some .local)||decide (sc.names.lookup x=some .cell))&&sc.names.all λy=>!decide (y.2=.free))))))
theorem scB (h:scK N P sc=true:=by kernel_rfl):FnScope N P sc:=by
 simp only[scK,and_eq_true,decide_eq_true_eq,Bool.not_eq_true',List.all_eq_true,Bool.or_eq_true,decide_eq_false_iff_not]at h;exact⟨h.1,h.2.1,h.2.2.1,h.2.2.2.1,h.2.2.2.2.1,h.2.2.2.2.2.1,h.2.2.2.2.2.2⟩
def top (i:Nat):Stmt:=PySem.Challenge.pw_pocketmill_k46_whole_put_into_queues.main.body.getD i (.Pass ⟨0,0,0,0⟩)
def G0:Gb where
 fn:=λ_=>none
 cn:=λx=>if x=("KINDS":Str)then some (.tup [(.str "queue"),(.str "pile")])else if x=("MOST_PASSES":Str)then some (.int 6)else if x=("MOST_POCKETS":Str)then some (.int 6)else if x=("MOST_WIDTH":Str)then some (.int 9)else if x=("MOST_CODES":Str)then some (.int 1000)else if x=("MOST_SIZE":Str)then some (.int 9)else if x=("MOST_LETTERS":Str)then some (.int 24)else none
 no:=λx=>if x=("all":Str)then true else if x=("any":Str)then true else if x=("bool":Str)then true else if x=("enumerate":Str)then true else if x=("int":Str)then true else if x=("isinstance":Str)then true else if x=("len":Str)then true else if x=("list":Str)then true else if x=("range":Str)then true else if x=("reversed":Str)then true else if x=("sorted":Str)then true else if x=("tuple":Str)then true else if x=("zip":Str)then true else false
 fl:=λC m=>if C=("Mill":Str)/\m=("passes":Str)then true else false
 mt:=λ_ _=>none
 ini:=λ_=>none
abbrev fC:Stmt:=top 18
abbrev nZ:List Str:=["value","least","most"]
abbrev n0:List Str:=["value","least","most"]
def nr (x:Str) (st:Stmt) (ps:List Str) (us:List Value):Prop:=∀ (qual:Str) (kV doc pm:Value) (an:Option Addr) (cdv ct:Value),bindArgs (PySem.W.fnOf x qual (cy st) (bj st) (aE st) .none kV doc pm an cdv ct) ⟨us,[]⟩=pure (ps.zip us)
theorem bd1 {st} (e:ps.length=1) (h:∀u0,nr x st ps [u0]):cZ x st ps:=λq k d p a c t us hl=>match us,hl.trans e with|[u0],_=>h u0 q k d p a c t
theorem bd2 {st} (e:ps.length=2) (h:∀u0 u1,nr x st ps [u0,u1]):cZ x st ps:=λq k d p a c t us hl=>match us,hl.trans e with|[u0,u1],_=>h u0 u1 q k d p a c t
theorem bd3 {st} (e:ps.length=3) (h:∀u0 u1 u2,nr x st ps [u0,u1,u2]):cZ x st ps:=λq k d p a c t us hl=>match us,hl.trans e with|[u0,u1,u2],_=>h u0 u1 u2 q k d p a c t
theorem bd4 {st} (e:ps.length=4) (h:∀u0 u1 u2 u3,nr x st ps [u0,u1,u2,u3]):cZ x st ps:=λq k d p a c t us hl=>match us,hl.trans e with|[u0,u1,u2,u3],_=>h u0 u1 u2 u3 q k d p a c t
theorem bd5 {st} (e:ps.length=5) (h:∀u0 u1 u2 u3 u4,nr x st ps [u0,u1,u2,u3,u4]):cZ x st ps:=λq k d p a c t us hl=>match us,hl.trans e with|[u0,u1,u2,u3,u4],_=>h u0 u1 u2 u3 u4 q k d p a c t
def aO:List D->Option Sl:=dfn 60 0 nZ n0 fC G0
def G1:Gb:=addF G0 "is_within" 1 aO
abbrev fD:Stmt:=top 20
abbrev n5:List Str:=["pocket"]
abbrev n6:List Str:=["pocket"]
def dB:List D->Option Sl:=dfn 60 1 n5 n6 fD G1
def G2:Gb:=addF G1 "is_pocket" 2 dB
abbrev gX:Stmt:=top 21
abbrev sL:List Str:=["pockets","pocket"]
abbrev sM:List Str:=["pockets"]
def iA:List D->Option Sl:=dfn 60 2 sL sM gX G2
def G3:Gb:=addF G2 "is_pass" 3 iA
abbrev gr:Stmt:=top 23
abbrev qN:List Str:=["passes","product","pockets"]
abbrev qO:List Str:=["passes"]
def bG:List D->Option Sl:=dfn 60 3 qN qO gr G3
def G4:Gb:=addF G3 "codes_of" 4 bG
abbrev eI:Stmt:=top 22
abbrev nt:List Str:=["passes","pockets"]
abbrev nu:List Str:=["passes"]
def bS:List D->Option Sl:=dfn 60 4 nt nu eI G4
def G5:Gb:=addF G4 "are_passes" 5 bS
abbrev aR:Stmt:=pR (top 24) 0
abbrev c4:List Str:=["self","passes","pockets"]
abbrev fg:List Str:=["self","passes"]
theorem i7:FnScope c4 fg (aE aR):=scB
theorem jJ:cZ "__init__" aR fg:=bd2 rfl λ_ _ _ _ _ _ _ _ _=>rfl
theorem jK (y:Addr):inx 60 (zT c4 aR 5 G5) y (G0.fl "Mill") (bj aR)=mV bS y:=by kernel_rfl
def dG:List D->Option (List (Str×D)):=gM bS
def G6:Gb:=addI G5 "Mill" 6 dG
abbrev gY:Stmt:=top 19
abbrev sN:List Str:=["size"]
abbrev sO:List Str:=["size"]
def dS:List D->Option Sl:=dfn 60 6 sN sO gY G6
def G7:Gb:=addF G6 "is_size" 7 dS
abbrev bY:Stmt:=pR (top 24) 2
abbrev iP:List Str:=["self"]
abbrev fE:List Str:=["self"]
theorem nw:FnScope iP fE (aE bY):=scB
theorem n9:cZ "many" bY fE:=bd1 rfl λ_ _ _ _ _ _ _ _=>rfl
def lz:List D->Option Sl:=dfn 60 7 iP fE bY G7
theorem Bp:lz=aX 1 1 (lu G0.fl):=by kernel_rfl
def G8:Gb:=addM G7 "many" "Mill" 8 lz
abbrev gZ:Stmt:=top 25
abbrev sP:List Str:=["mill","late"]
abbrev sQ:List Str:=["mill","late"]
def dU:List D->Option Sl:=dfn 60 8 sP sQ gZ G8
def G9:Gb:=addF G8 "is_late" 9 dU
abbrev fF:Stmt:=top 37
abbrev og:List Str:=["mill","letter"]
abbrev oh:List Str:=["mill","letter"]
def fq:List D->Option Sl:=dfn 60 9 og oh fF G9
def G10:Gb:=addF G9 "is_letter" 10 fq
abbrev cv:Stmt:=top 38
abbrev iF:List Str:=["mill","letters","letter"]
abbrev iG:List Str:=["mill","letters"]
def b7:List D->Option Sl:=dfn 60 10 iF iG cv G10
def G11:Gb:=addF G10 "look_at_letters" 11 b7
abbrev hG:Stmt:=top 26
abbrev sR:List Str:=["mill","late","word","passes","number","pockets"]
abbrev sS:List Str:=["mill","late","word"]
def dW:List D->Option Sl:=dfn 60 11 sR sS hG G11
def G12:Gb:=addF G11 "is_word" 12 dW
abbrev dc:Stmt:=top 27
abbrev kr:List Str:=["mill","late"]
abbrev kt:List Str:=["mill","late"]
def bM:List D->Option Sl:=dfn 60 12 kr kt dc G12
def G13:Gb:=addF G12 "look_at_late" 13 bM
abbrev de:Stmt:=top 28
abbrev ku:List Str:=["mill","late","word"]
abbrev kz:List Str:=["mill","late","word"]
def bc:List D->Option Sl:=dfn 60 13 ku kz de G13
def G14:Gb:=addF G13 "look_at_word" 14 bc
abbrev eJ:Stmt:=top 29
abbrev ny:List Str:=["mill","late","word","number","pockets"]
abbrev nz:List Str:=["mill","late","word"]
def bo:List D->Option Sl:=dfn 60 14 ny nz eJ G14
def G15:Gb:=addF G14 "pockets_of" 15 bo
abbrev nB:Stmt:=top 34
abbrev A5:List Str:=["mill","late","word","size","kind","width"]
abbrev A6:List Str:=["mill","late","word","size"]
def qP:List D->Option Sl:=dfn 60 15 A5 A6 nB G15
def G16:Gb:=addF G15 "fits" 16 qP
abbrev dH:Stmt:=top 39
abbrev lI:List Str:=["mill","letter","word"]
abbrev lJ:List Str:=["mill","letter","word"]
def dt:List D->Option Sl:=dfn 60 16 lI lJ dH G16
def G17:Gb:=addF G16 "is_word_for" 17 dt
abbrev df:Stmt:=top 40
abbrev kA:List Str:=["mill","letters","plan","letter","word"]
abbrev kB:List Str:=["mill","letters","plan"]
def c5:List D->Option Sl:=dfn 60 17 kA kB df G17
def G18:Gb:=addF G17 "look_at_plan" 18 c5
abbrev cK:Stmt:=top 44
abbrev i8:List Str:=["mill","pockets","kind","width"]
abbrev i9:List Str:=["mill"]
def cj:List D->Option Sl:=dfn 60 18 i8 i9 cK G18
def G19:Gb:=addF G18 "look_at_widths" 19 cj
abbrev eL:Stmt:=top 47
abbrev nD:List Str:=["plan","word"]
abbrev nE:List Str:=["plan"]
def bT:List D->Option Sl:=dfn 60 19 nD nE eL G19
def G20:Gb:=addF G19 "letters_of" 20 bT
abbrev c6:Stmt:=top 48
abbrev jL:List Str:=["mill","plan"]
abbrev jM:List Str:=["mill","plan"]
def aU:List D->Option Sl:=dfn 60 20 jL jM c6 G20
def G21:Gb:=addF G20 "look_at_words" 21 aU
abbrev cL:Stmt:=top 49
abbrev jc:List Str:=["plan","other"]
abbrev jd:List Str:=["plan","other"]
def ck:List D->Option Sl:=dfn 60 21 jc jd cL G21
def G22:Gb:=addF G21 "look_at_counts" 22 ck
abbrev je:Stmt:=top 41
abbrev uU:List Str:=["letters","plan","step","pockets","row","heaps","letter","pocket"]
abbrev uV:List Str:=["letters","plan","step","pockets","row"]
def hU:List D->Option Sl:=dfn 60 22 uU uV je G22
def G23:Gb:=addF G22 "filled" 23 hU
abbrev hV:Stmt:=top 42
abbrev sT:List Str:=["pockets","heaps","row","pocket","heap"]
abbrev sU:List Str:=["pockets","heaps"]
def fW:List D->Option Sl:=dfn 60 23 sT sU hV G23
def G24:Gb:=addF G23 "emptied" 24 fW
abbrev jf:Stmt:=top 45
abbrev uW:List Str:=["row","letter"]
abbrev uX:List Str:=["row"]
def jN:List D->Option Sl:=dfn 60 24 uW uX jf G24
def G25:Gb:=addF G24 "is_row" 25 jN
abbrev gt:Stmt:=top 50
abbrev qQ:List Str:=["mill","plan","coming","row","step","pockets"]
abbrev qR:List Str:=["mill","plan","coming"]
def eO:List D->Option Sl:=dfn 60 25 qQ qR gt G25
def G26:Gb:=addF G25 "end_from" 26 eO
abbrev hZ:Stmt:=top 52
abbrev sV:List Str:=["mill","plan","other_mill","other_plan","rising","coming"]
abbrev sX:List Str:=["mill","plan","other_mill","other_plan"]
def dX:List D->Option Sl:=dfn 60 26 sV sX hZ G26
def G27:Gb:=addF G26 "parting" 27 dX
abbrev nF:Stmt:=top 30
abbrev A7:List Str:=["kind","ahead","code"]
abbrev A8:List Str:=["kind","ahead","code"]
def jg:List D->Option Sl:=dfn 60 27 A7 A8 nF G27
def G28:Gb:=addF G27 "laid" 28 jg
abbrev fG:Stmt:=top 31
abbrev oi:List Str:=["mill","late","word","ahead","code","number","pockets"]
abbrev oj:List Str:=["mill","late","word"]
def bd:List D->Option Sl:=dfn 60 28 oi oj fG G28
def G29:Gb:=addF G28 "word_code" 29 bd
abbrev bN:Stmt:=pR (top 24) 1
abbrev h7:List Str:=["self"]
abbrev eQ:List Str:=["self"]
theorem lK:FnScope h7 eQ (aE bN):=scB
theorem nH:cZ "codes" bN eQ:=bd1 rfl λ_ _ _ _ _ _ _ _=>rfl
def gu:List D->Option Sl:=dfn 60 29 h7 eQ bN G29
theorem nI:gu=aX 1 1 (gm G0.fl bG):=by kernel_rfl
def G30:Gb:=addM G29 "codes" "Mill" 30 gu
abbrev fH:Stmt:=top 32
abbrev om:List Str:=["mill","late","code","numbers","ahead","left","pockets","number"]
abbrev oo:List Str:=["mill","late","code"]
def bD:List D->Option Sl:=dfn 60 30 om oo fH G30
def G31:Gb:=addF G30 "code_word" 31 bD
abbrev nJ:Stmt:=top 33
abbrev A9:List Str:=["mill","late","word","piles","kind","width"]
abbrev Ba:List Str:=["mill","late","word"]
def h8:List D->Option Sl:=dfn 60 31 A9 Ba nJ G31
def G32:Gb:=addF G31 "face" 32 h8
abbrev ia:Stmt:=top 51
abbrev sY:List Str:=["mill","plan","members","letter","word","code"]
abbrev sZ:List Str:=["mill","plan"]
def iB:List D->Option Sl:=dfn 60 32 sY sZ ia G32
def G33:Gb:=addF G32 "classes" 33 iB
abbrev c7:Stmt:=top 53
abbrev jO:List Str:=["members","side"]
abbrev jP:List Str:=["members","side"]
def cE:List D->Option Sl:=dfn 60 33 jO jP c7 G33
def G34:Gb:=addF G33 "turns_letters" 34 cE
abbrev dI:Stmt:=top 54
abbrev lL:List Str:=["mill","plan","queues","pockets","word","code","members","side"]
abbrev lM:List Str:=["mill","plan"]
def bH:List D->Option Sl:=dfn 60 34 lL lM dI G34
def G35:Gb:=addF G34 "into_queues" 35 bH
abbrev dg:Stmt:=top 56
abbrev kI:List Str:=["script","k"]
abbrev kJ:List Str:=["script","k"]
def bf:List D->Option Sl:=dfn 60 35 kI kJ dg G35
def G36:Gb:=addF G35 "_law_cell_at" 36 bf
abbrev fI:Stmt:=top 57
abbrev oq:List Str:=["cell","at","k"]
abbrev ot:List Str:=["cell","at"]
def cc:List D->Option Sl:=dfn 60 36 oq ot fI G36
def G37:Gb:=addF G36 "_law_part" 37 cc
abbrev eU:Stmt:=top 58
abbrev nK:List Str:=["script","many","stir","cell","cells","k","at"]
abbrev nL:List Str:=["script","many"]
def c8:List D->Option Sl:=dfn 60 37 nK nL eU G37
def G38:Gb:=addF G37 "_law_cells" 38 c8
abbrev dh:Stmt:=top 59
abbrev kK:List Str:=["cell","many","pockets","k","kind"]
abbrev kL:List Str:=["cell"]
def cf:List D->Option Sl:=dfn 60 38 kK kL dh G38
def G39:Gb:=addF G38 "_law_pockets" 39 cf
abbrev dJ:Stmt:=top 60
abbrev lN:List Str:=["cells","at","k"]
abbrev lO:List Str:=["cells","at"]
def bI:List D->Option Sl:=dfn 60 39 lN lO dJ G39
def G40:Gb:=addF G39 "_law_passes" 40 bI
abbrev fJ:Stmt:=top 61
abbrev ou:List Str:=["cells","at","passes","count","plan","letter","cell","k"]
abbrev ox:List Str:=["cells","at","passes","count"]
def cQ:List D->Option Sl:=dfn 60 40 ou ox fJ G40
def G41:Gb:=addF G40 "_law_plan" 41 cQ
abbrev dL:Stmt:=top 62
abbrev lP:List Str:=["passes","plan","coming","row","k","laid_v","letter","part","pocket"]
abbrev lQ:List Str:=["passes","plan","coming"]
def bt:List D->Option Sl:=dfn 60 41 lP lQ dL G41
def G42:Gb:=addF G41 "_law_walked" 42 bt
abbrev eV:Stmt:=top 64
abbrev nM:List Str:=["passes","plan","one","other","coming","row","letter"]
abbrev nN:List Str:=["passes","plan","one","other"]
def bp:List D->Option Sl:=dfn 60 42 nM nN eV G42
def G43:Gb:=addF G42 "_law_first" 43 bp
abbrev eW:Stmt:=top 65
abbrev nO:List Str:=["count","pairs","one","other"]
abbrev nP:List Str:=["count"]
def bU:List D->Option Sl:=dfn 60 43 nO nP eW G43
def G44:Gb:=addF G43 "_law_pairs" 44 bU
abbrev cg:Stmt:=top 66
abbrev ib:List Str:=["passes","plan","one","other"]
abbrev ic:List Str:=["passes","plan"]
def aV:List D->Option Sl:=dfn 60 44 ib ic cg G44
def G45:Gb:=addF G44 "_law_some_turned" 45 aV
abbrev c9:Stmt:=top 67
abbrev jQ:List Str:=["passes","plan","kept","word"]
abbrev jS:List Str:=["passes","plan"]
def bW:List D->Option Sl:=dfn 60 45 jQ jS c9 G45
def G46:Gb:=addF G45 "_law_unturned" 46 bW
abbrev di:Stmt:=top 68
abbrev kM:List Str:=["passes","plan","count","word","k"]
abbrev kN:List Str:=["passes","plan","count"]
def ci:List D->Option Sl:=dfn 60 46 kM kN di G46
def G47:Gb:=addF G46 "_law_is_plan" 47 ci
abbrev jT:Stmt:=top 69
abbrev wA:List Str:=["script","cells","passes","plan","count","handed","found","others","other_plan","queues","words","coming","one","other","part","pocket"]
abbrev qS:List Str:=["script"]
theorem Bb:FnScope wA qS (aE jT):=scB
theorem DA:cZ "law" jT qS:=bd1 rfl λ_ _ _ _ _ _ _ _=>rfl
def Ei:List D->Option Sl:=dfn 60 47 wA qS jT G47
theorem DB:Ei=aX 1 16 (wz dG bH dX bU bp ci G0.fl aV bt cQ bI bW c8):=by kernel_rfl
structure Tx (K:Frag):Prop where
 v0:bi K "is_within" fC
 v1:bi K "is_pocket" fD
 v2:bi K "is_pass" gX
 v3:bi K "codes_of" gr
 v4:bi K "are_passes" eI
 v5:bi K "is_size" gY
 v6:bi K "is_late" gZ
 v7:bi K "is_letter" fF
 v8:bi K "look_at_letters" cv
 v9:bi K "is_word" hG
 v10:bi K "look_at_late" dc
 v11:bi K "look_at_word" de
 v12:bi K "pockets_of" eJ
 v13:bi K "fits" nB
 v14:bi K "is_word_for" dH
 v15:bi K "look_at_plan" df
 v16:bi K "look_at_widths" cK
 v17:bi K "letters_of" eL
 v18:bi K "look_at_words" c6
 v19:bi K "look_at_counts" cL
 v20:bi K "filled" je
 v21:bi K "emptied" hV
 v22:bi K "is_row" jf
 v23:bi K "end_from" gt
 v24:bi K "parting" hZ
 v25:bi K "laid" nF
 v26:bi K "word_code" fG
 v27:bi K "code_word" fH
 v28:bi K "face" nJ
 v29:bi K "classes" ia
 v30:bi K "turns_letters" c7
 v31:bi K "into_queues" dI
 v32:bi K "_law_cell_at" dg
 v33:bi K "_law_part" fI
 v34:bi K "_law_cells" eU
 v35:bi K "_law_pockets" dh
 v36:bi K "_law_passes" dJ
 v37:bi K "_law_plan" fJ
 v38:bi K "_law_walked" dL
 v39:bi K "_law_first" eV
 v40:bi K "_law_pairs" eW
 v41:bi K "_law_some_turned" cg
 v42:bi K "_law_unturned" c9
 v43:bi K "_law_is_plan" di
 v44:bi K "law" jT
 v45:qr K "Mill" "__init__" "Mill.__init__" aR
 v46:qr K "Mill" "many" "Mill.many" bY
 v47:qr K "Mill" "codes" "Mill.codes" bN
 v48:TCls K "Mill"
 v49:∃Ca,nsIn K mainGlobals "Mill"=some (some (.ref Ca))/\findIn K (.ref Ca) "passes"=some none
 v50:∃ (a:Addr) (od:Option Addr) (n:Nat) (sl:Array (Option Value)) (t0:Tok) (t1:Tok),nsIn K mainGlobals "KINDS"=some (some (.ref a))/\K.lookup a=some ⟨.type "tuple",od,.seq #[.str "queue" t0,.str "pile" t1] n,sl⟩
 v51:∃t,nsIn K mainGlobals "MOST_PASSES"=some (some (.int 6 t))
 v52:∃t,nsIn K mainGlobals "MOST_POCKETS"=some (some (.int 6 t))
 v53:∃t,nsIn K mainGlobals "MOST_WIDTH"=some (some (.int 9 t))
 v54:∃t,nsIn K mainGlobals "MOST_CODES"=some (some (.int 1000 t))
 v55:∃t,nsIn K mainGlobals "MOST_SIZE"=some (some (.int 9 t))
 v56:∃t,nsIn K mainGlobals "MOST_LETTERS"=some (some (.int 24 t))
 v57:nsIn K mainGlobals "all"=some none
 v58:nsIn K mainGlobals "any"=some none
 v59:nsIn K mainGlobals "bool"=some none
 v60:nsIn K mainGlobals "enumerate"=some none
 v61:nsIn K mainGlobals "int"=some none
 v62:nsIn K mainGlobals "isinstance"=some none
 v63:nsIn K mainGlobals "len"=some none
 v64:nsIn K mainGlobals "list"=some none
 v65:nsIn K mainGlobals "range"=some none
 v66:nsIn K mainGlobals "reversed"=some none
 v67:nsIn K mainGlobals "sorted"=some none
 v68:nsIn K mainGlobals "tuple"=some none
 v69:nsIn K mainGlobals "zip"=some none
theorem fX:eZ aO:=tr (Ac)
theorem Bc:vW dS:=tr (GE fX)
theorem Bd:qx dB:=tr (Ad fX)
theorem HB:Ae iA:=tr (GF Bd)
theorem qT:ke bG:=tr (C1)
theorem KI:GG bS:=tr (J5 HB qT)
theorem Be:sg dG:=GH KI
theorem iQ:G0.fl "Mill" "passes"=true:=by kernel_rfl
theorem HC:D7 (G8.mt "many") 8:=λps=>by
 exact GI iQ ps
theorem Bf:vX dU:=tr (GJ HC fX)
theorem Bg:vY dW:=tr (GK fX iQ)
theorem wB:qy bM:=tr (C3 Bf)
theorem qU:m5 bc:=tr (C4 Bg wB)
theorem wC:qz bo:=tr (C5 iQ)
theorem Bh:pi jg:=tr (GO)
theorem Bi:vZ bd:=tr (GP iQ Bh qT qU)
theorem MC:sCM (G30.mt "codes") 30:=λps hv=>by
 have e:G30.mt "codes" "Mill"=some (30,gu):=by kernel_rfl
 show((G30.mt "codes" "Mill").bind λz=>if z.1<=30/\("codes":Str) ∉ [("passes":Str)]then z.2 [ah ps]else none)=_;rw[e];simp only[Option.bind_some];rw[if_pos (by decide),nI];exact MA iQ qT hv
theorem DC:sCW bD:=tr (Dv iQ Bh MC fX wB)
theorem HE:Aq h8:=tr (GQ wC qU)
theorem HF:Ak qP:=tr (GL wC Bc qU)
theorem Bj:qB fq:=tr (Ar Bf Bc)
theorem Bk:qC b7:=tr (As Bj)
theorem KJ:GU dt:=tr (J9 HF Bg)
theorem Bl:qD c5:=tr (At KJ Bk)
theorem HG:Ax hU:=tr (GV)
theorem DD:uJ fW:=tr (Da)
theorem KL:Ha cj:=tr (Kd iQ)
theorem DE:uL jN:=tr (Dc fX)
theorem Ej:Dd bT:=tr (Ke)
theorem Bm:AC aU:=tr (Kf Ej Bl KL)
theorem HH:AD eO:=tr (Hb iQ Ej HG DD DE Bm)
theorem HI:Am bf:=tr (GM)
theorem HJ:An cc:=tr (GN)
theorem DF:qA c8:=tr (Di HI HJ)
theorem KM:Hg cf:=tr (Kq)
theorem KN:Hh bI:=tr (Kr KM)
theorem HK:AJ cQ:=tr (Hj)
theorem Bn:wq bt:=tr (Hk)
theorem KO:Hn iB:=tr (Kv HE Bi Bm)
theorem KP:Hr ck:=tr (Ky)
theorem DG:uO dX:=tr (Dp HH KP Bm)
theorem HL:AY cE:=tr Hy (by kernel_rfl)
theorem HM:AZ bH:=tr (Hz Bi DC iQ Be KO HL)
theorem wE:qL bp:=tr (Dy Bn)
theorem wF:qM bU:=tr Dz (by kernel_rfl)
theorem Bo:wy aV:=tr (Hv wF wE)
theorem KQ:Hw bW:=tr (KC Bo)
theorem KR:Hx ci:=tr KD (by kernel_rfl)
theorem KS:∀ns:List Int,ns.length<=63->cu (Ei [.lst (ns.map D.int)])=some (.bl true):=λns hn=>by
 rw[DB];exact congrArg cu (KH Be HM DG wF wE KR iQ Bo Bn HK KN KQ DF ns hn)
def Q:Program:={PySem.Challenge.pw_pocketmill_k46_whole_put_into_queues with main:={PySem.Challenge.pw_pocketmill_k46_whole_put_into_queues.main with body:=[top 1,top 2,top 3,top 4,top 5,top 6,top 7,top 8,top 9,top 10,top 12,top 13,top 14,top 15,top 16,top 17,top 18,top 19,top 20,top 21,top 22,top 23,top 24,top 25,top 26,top 27,top 28,top 29,top 30,top 31,top 32,top 33,top 34,top 36,top 37,top 38,top 39,top 40,top 41,top 42,top 44,top 45,top 47,top 48,top 49,top 50,top 51,top 52,top 53,top 54,top 56,top 57,top 58,top 59,top 60,top 61,top 62,top 63,top 64,top 65,top 66,top 67,top 68,top 69]}}
abbrev kH (P:Params) (x:Str) (n:Nat) (v:Value):DictEntry:=⟨PyData.keyHash P x,(.str x n),v⟩
abbrev kC (x:Str) (a:Nat) (y:Str) (b c:Nat) (i j k l m:Int) (r:Nat) (n:Int) (p:Nat) (v q s t:Value) (u w:Int) (d:Nat):Obj:=⟨(.type "code"),none,(.fields #[(.str x a),(.str y b),(.str "/claim/cut.py" c),(.int i 0),(.int j 0),(.int k 0),(.int l 0),(.int m 0),(.ref r),(.bool true),(.int n 0),(.ref p),v,q,s,t,(.int u 0),(.int w 0),(.str "/claim/cut.py" d)]),#[]⟩
abbrev kF (x y:Str) (st:Stmt) (z:Str) (n r:Nat):Obj:=⟨(.type "function"),none,(.func (PySem.W.fnOf x y (cy st) (bj st) (aE st) .none .none .none (.str z n) none (.ref r) .none)),#[]⟩
theorem tdG {K} {st} (f:Addr) (z:Str) (n c:Nat) (a:(nsIn K mainGlobals x,K.lookup f,PySem.W.codeIn K (.ref c) x,PySem.W.keepIn K (.ref f))=(some (some (.ref f)),some ⟨.type "function",none,.func (PySem.W.fnOf x x (cy st) (bj st) (aE st) .none .none .none (.str z n) none (.ref c) .none),#[]⟩,true,true):=by kernel_rfl):bi K x st:=by
 simp only[Prod.mk.injEq]at a;exact Ms a.1 a.2.1 a.2.2.1 a.2.2.2
abbrev mN0:Str:="law_pocketmill_k46_whole_put_into_queues"
abbrev mN1:Str:="pocketmill.counting"
abbrev mN2:Str:="pocketmill.joins"
abbrev mN3:Str:="pocketmill.mills"
abbrev mN4:Str:="pocketmill.trays"
abbrev kD (x:Str) (a:Nat) (i j:Int) (r:Nat) (e:Int):Obj:=kC x a x (a+1) (a+2) i j 0 0 3 r 181 (r+1) .none (.ref (r+2)) (.ref (r+3)) (.ref (r+4)) e i (e+1).toNat
abbrev kE (x:Str) (a:Nat) (i j:Int) (r:Nat) (e:Int):Obj:=kC x a x (a+1) (a+2) i j 0 0 3 r 181 (r+1) .none .none .none (.ref (r+2)) e i (e+1).toNat
abbrev kG (x:Str) (st:Stmt) (z:Str) (n r:Nat):Obj:=kF x x st z n r
def KK (P:Params):Frag:=[(2,⟨.none,none,(.dict #[] 0),#[]⟩),
 (3,⟨(.type "dict"),none,(.dict #[(kH P "__name__" 165 (.str "law_pocketmill_k46_whole_put_into_queues" 668)),(kH P "__doc__" 166 .none),(kH P "__package__" 167 .none),(kH P "__loader__" 168 (.builtin "__main__.__loader__#opaque")),(kH P "__spec__" 169 .none),(kH P "__annotations__" 170 (.ref 6)),(kH P "__builtins__" 171 (.ref 4)),(kH P "__file__" 173 (.str "/claim/cut.py" 172)),(kH P "__cached__" 174 .none),(kH P "MillError" 206 (.ref 24)),(kH P "BadMill" 222 (.ref 37)),(kH P "BadLate" 238 (.ref 49)),(kH P "BadWord" 254 (.ref 61)),(kH P "BadCode" 270 (.ref 73)),(kH P "BadSize" 286 (.ref 85)),(kH P "BadLetters" 302 (.ref 97)),(kH P "BadPlan" 318 (.ref 109)),(kH P "BadRow" 334 (.ref 121)),(kH P "Shut" 350 (.ref 133)),(kH P "KINDS" 355 (.ref 136)),(kH P "MOST_PASSES" 357 (.int 6 356)),(kH P "MOST_POCKETS" 359 (.int 6 358)),(kH P "MOST_WIDTH" 361 (.int 9 360)),(kH P "MOST_CODES" 363 (.int 1000 362)),(kH P "MOST_SIZE" 365 (.int 9 364)),(kH P "is_within" 374 (.ref 143)),(kH P "is_size" 381 (.ref 150)),(kH P "is_pocket" 388 (.ref 157)),(kH P "is_pass" 394 (.ref 162)),(kH P "are_passes" 400 (.ref 167)),(kH P "codes_of" 409 (.ref 174)),(kH P "Mill" 450 (.ref 203)),(kH P "is_late" 458 (.ref 214)),(kH P "is_word" 464 (.ref 219)),(kH P "look_at_late" 472 (.ref 226)),(kH P "look_at_word" 481 (.ref 233)),(kH P "pockets_of" 487 (.ref 238)),(kH P "laid" 496 (.ref 245)),(kH P "word_code" 509 (.ref 252)),(kH P "code_word" 523 (.ref 259)),(kH P "face" 529 (.ref 264)),(kH P "fits" 535 (.ref 269)),(kH P "MOST_LETTERS" 539 (.int 24 538)),(kH P "is_letter" 547 (.ref 276)),(kH P "look_at_letters" 553 (.ref 281)),(kH P "is_word_for" 562 (.ref 288)),(kH P "look_at_plan" 568 (.ref 293)),(kH P "filled" 574 (.ref 298)),(kH P "emptied" 585 (.ref 305)),(kH P "look_at_widths" 593 (.ref 310)),(kH P "is_row" 599 (.ref 315)),(kH P "letters_of" 607 (.ref 320)),(kH P "look_at_words" 615 (.ref 327)),(kH P "look_at_counts" 623 (.ref 334)),(kH P "end_from" 635 (.ref 341)),(kH P "classes" 641 (.ref 346)),(kH P "parting" 653 (.ref 353)),(kH P "turns_letters" 661 (.ref 360)),(kH P "into_queues" 667 (.ref 365)),(kH P "_law_cell_at" 677 (.ref 372)),(kH P "_law_part" 686 (.ref 379)),(kH P "_law_cells" 692 (.ref 384)),(kH P "_law_pockets" 703 (.ref 391)),(kH P "_law_passes" 709 (.ref 396)),(kH P "_law_plan" 715 (.ref 401)),(kH P "_law_walked" 721 (.ref 406)),(kH P "_law_coming" 732 (.ref 413)),(kH P "_law_first" 738 (.ref 418)),(kH P "_law_pairs" 744 (.ref 423)),(kH P "_law_some_turned" 754 (.ref 430)),(kH P "_law_unturned" 764 (.ref 437)),(kH P "_law_is_plan" 775 (.ref 444)),(kH P "law" 781 (.ref 449))] 73),#[]⟩),
 (136,⟨(.type "tuple"),none,(.seq #[(.str "queue" 353),(.str "pile" 354)] 0),#[]⟩),
 (142,(kD "is_within" 366 29 3 137 372)),
 (143,(kG "is_within" fC mN3 351 142)),
 (149,(kD "is_size" 375 31 1 144 379)),
 (150,(kG "is_size" gY mN3 351 149)),
 (156,(kD "is_pocket" 382 33 1 151 386)),
 (157,(kG "is_pocket" fD mN3 351 156)),
 (161,(kE "is_pass" 389 37 1 158 392)),
 (162,(kG "is_pass" gX mN3 351 161)),
 (166,(kE "are_passes" 395 41 1 163 398)),
 (167,(kG "are_passes" eI mN3 351 166)),
 (173,(kD "codes_of" 401 45 1 168 407)),
 (174,(kG "codes_of" gr mN3 351 173)),
 (185,(kC "__init__" 422 "Mill.__init__" 423 424 52 2 0 0 3 182 181 183 .none .none .none (.ref 184) 425 52 426)),
 (186,(kF "__init__" "Mill.__init__" aR mN3 351 185)),
 (192,(kC "codes" 428 "Mill.codes" 429 430 57 1 0 0 3 187 181 188 .none (.ref 189) (.ref 190) (.ref 191) 432 57 433)),
 (193,(kF "codes" "Mill.codes" bN mN3 351 192)),
 (199,(kC "many" 435 "Mill.many" 436 437 60 1 0 0 3 194 181 195 .none (.ref 196) (.ref 197) (.ref 198) 439 60 440)),
 (200,(kF "many" "Mill.many" bY mN3 351 199)),
 (201,⟨(.type "tuple"),none,(.seq #[(.str "passes" 442)] 0),#[]⟩),
 (202,⟨(.type "dict"),none,(.dict #[(kH P "__module__" 417 (.str "pocketmill.mills" 351)),(kH P "__firstlineno__" 421 (.int 50 420)),(kH P "__init__" 427 (.ref 186)),(kH P "codes" 434 (.ref 193)),(kH P "many" 441 (.ref 200)),(kH P "__static_attributes__" 443 (.ref 201)),(kH P "__dict__" 445 (.ref 204)),(kH P "__weakref__" 447 (.ref 205)),(kH P "__doc__" 448 .none)] 4),#[]⟩),
 (203,⟨(.type "type"),none,(.cls ⟨"Mill",[(.type "object")],[(.ref 203),(.type "object")],202,"Mill",true,[],[],false,none,false⟩),#[none,none,(some (.str "Mill" 410)),(some (.str "Mill" 418)),(some (.builtin "object.__new__")),(some (.bool true))]⟩),
 (204,⟨(.type "getset_descriptor"),none,(.fields #[(.str "__dict__" 444),(.ref 203),(.builtin "function.__dict__"),(.builtin "function.__dict__#set")]),#[]⟩),
 (205,⟨(.type "getset_descriptor"),none,(.fields #[(.str "__weakref__" 446),(.ref 203),(.builtin "ExceptionGroup.__weakref__"),.none]),#[]⟩),
 (213,(kD "is_late" 451 62 2 208 456)),
 (214,(kG "is_late" gZ mN3 351 213)),
 (218,(kE "is_word" 459 64 3 215 462)),
 (219,(kG "is_word" hG mN3 351 218)),
 (225,(kD "look_at_late" 465 69 2 220 470)),
 (226,(kG "look_at_late" dc mN3 351 225)),
 (232,(kD "look_at_word" 473 72 3 227 479)),
 (233,(kG "look_at_word" de mN3 351 232)),
 (237,(kE "pockets_of" 482 76 3 234 485)),
 (238,(kG "pockets_of" eJ mN3 351 237)),
 (244,(kD "laid" 488 78 3 239 494)),
 (245,(kG "laid" nF mN3 351 244)),
 (251,(kD "word_code" 497 80 3 246 507)),
 (252,(kG "word_code" fG mN3 351 251)),
 (258,(kD "code_word" 510 88 3 253 521)),
 (259,(kG "code_word" fH mN3 351 258)),
 (263,(kE "face" 524 103 3 260 527)),
 (264,(kG "face" nJ mN3 351 263)),
 (268,(kE "fits" 530 107 4 265 533)),
 (269,(kG "fits" nB mN3 351 268)),
 (275,(kD "is_letter" 540 114 2 270 545)),
 (276,(kG "is_letter" fF mN4 536 275)),
 (280,(kE "look_at_letters" 548 118 2 277 551)),
 (281,(kG "look_at_letters" cv mN4 536 280)),
 (287,(kD "is_word_for" 554 123 3 282 560)),
 (288,(kG "is_word_for" dH mN4 536 287)),
 (292,(kE "look_at_plan" 563 125 3 289 566)),
 (293,(kG "look_at_plan" df mN4 536 292)),
 (297,(kE "filled" 569 131 5 294 572)),
 (298,(kG "filled" je mN4 536 297)),
 (304,(kD "emptied" 575 136 2 299 583)),
 (305,(kG "emptied" hV mN4 536 304)),
 (309,(kE "look_at_widths" 588 142 1 306 591)),
 (310,(kG "look_at_widths" cK mN1 586 309)),
 (314,(kE "is_row" 594 146 1 311 597)),
 (315,(kG "is_row" jf mN1 586 314)),
 (319,(kE "letters_of" 602 151 1 316 605)),
 (320,(kG "letters_of" eL mN2 600 319)),
 (326,(kD "look_at_words" 608 153 2 321 613)),
 (327,(kG "look_at_words" c6 mN2 600 326)),
 (333,(kD "look_at_counts" 616 158 2 328 621)),
 (334,(kG "look_at_counts" cL mN2 600 333)),
 (340,(kD "end_from" 624 161 3 335 633)),
 (341,(kG "end_from" gt mN2 600 340)),
 (345,(kE "classes" 636 169 2 342 639)),
 (346,(kG "classes" ia mN2 600 345)),
 (352,(kD "parting" 642 175 4 347 651)),
 (353,(kG "parting" hZ mN2 600 352)),
 (359,(kD "turns_letters" 654 184 2 354 659)),
 (360,(kG "turns_letters" c7 mN2 600 359)),
 (364,(kE "into_queues" 662 186 2 361 665)),
 (365,(kG "into_queues" dI mN2 600 364)),
 (371,(kD "_law_cell_at" 670 192 2 366 675)),
 (372,(kG "_law_cell_at" dg mN0 668 371)),
 (378,(kD "_law_part" 678 196 2 373 684)),
 (379,(kG "_law_part" fI mN0 668 378)),
 (383,(kE "_law_cells" 687 200 2 380 690)),
 (384,(kG "_law_cells" eU mN0 668 383)),
 (390,(kD "_law_pockets" 693 214 1 385 701)),
 (391,(kG "_law_pockets" dh mN0 668 390)),
 (395,(kE "_law_passes" 704 221 2 392 707)),
 (396,(kG "_law_passes" dJ mN0 668 395)),
 (400,(kE "_law_plan" 710 223 4 397 713)),
 (401,(kG "_law_plan" fJ mN0 668 400)),
 (405,(kE "_law_walked" 716 229 3 402 719)),
 (406,(kG "_law_walked" dL mN0 668 405)),
 (417,(kE "_law_first" 733 248 4 414 736)),
 (418,(kG "_law_first" eV mN0 668 417)),
 (422,(kE "_law_pairs" 739 252 1 419 742)),
 (423,(kG "_law_pairs" eW mN0 668 422)),
 (429,(kD "_law_some_turned" 745 257 2 424 752)),
 (430,(kG "_law_some_turned" cg mN0 668 429)),
 (436,(kD "_law_unturned" 755 262 2 431 762)),
 (437,(kG "_law_unturned" c9 mN0 668 436)),
 (443,(kD "_law_is_plan" 765 268 3 438 773)),
 (444,(kG "_law_is_plan" di mN0 668 443)),
 (448,(kE "law" 776 278 1 445 779)),
 (449,(kG "law" jT mN0 668 448))]
def adr:List Addr:=[2,3,136,142,143,149,150,156,157,161,162,166,167,173,174,185,186,192,193,199,200,201,202,203,204,205,213,214,218,219,225,226,232,233,237,238,244,245,251,252,258,259,263,264,268,269,275,276,280,281,287,288,292,293,297,298,304,305,309,310,314,315,319,320,326,327,333,334,340,341,345,346,352,353,359,360,364,365,371,372,378,379,383,384,390,391,395,396,400,401,405,406,417,418,422,423,429,430,436,437,443,444,448,449]
theorem adr_ok (P:Params):adr=(KK P).map (·.1):=by kernel_rfl
abbrev NN:Nat:=7802
def env0:Env:={scope:=PySem.Challenge.pw_pocketmill_k46_whole_put_into_queues.main.scope,locals:=mainNs,globals:=mainNs,cells:=[],code:=(.ref 13),frame:=some 14}
theorem HN:∀w:World,(PySem.W.fencedOpening treeTable PySem.Challenge.pw_pocketmill_k46_whole_put_into_queues w NN).map (λs=>(s.heap,s.gens,s.drawn,s.toks))=some (PySem.W.boot_heap w.params,Array.mk [],PySem.W.boot_drawn,PySem.W.boot_toks):=PySem.W.boot_open (by kernel_rfl) (by decide) (λs=>by kernel_rfl)
theorem HP (w:World):(PySem.W.boot_heap w.params).isNs mainGlobals=true/\(PySem.W.boot_heap w.params).objs.size=11/\(PySem.W.boot_heap w.params).nsMap mainGlobals "__annotations__"=(some (.ref 6)):=⟨by kernel_rfl,by kernel_rfl,by kernel_rfl⟩
theorem t_A (w:World) (os:OsState):(HD.A PySem.Challenge.pw_pocketmill_k46_whole_put_into_queues 11 (some (.ref 6)) 12 w os).map (·.2)=some ⟨denote treeTable (HD.cd PySem.Challenge.pw_pocketmill_k46_whole_put_into_queues env0),HD.cd PySem.Challenge.pw_pocketmill_k46_whole_put_into_queues env0,⟨0,0,0,0⟩,[PySem.W.topFrame ⟨0,0,0,0⟩]⟩:=by kernel_rfl
theorem t_B (w:World) (os:OsState):(HD.B PySem.Challenge.pw_pocketmill_k46_whole_put_into_queues 11 ((some (.ref 6))) env0 ⟨0,0,0,0⟩ ⟨0,0,0,0⟩ 12 1 w os).map (λr=>(r.1,r.2.2))=some (.next,HD.cd PySem.Challenge.pw_pocketmill_k46_whole_put_into_queues env0,⟨0,0,0,0⟩):=by kernel_rfl
theorem t_T (w:World) (os:OsState):(HD.toT (HD.SB PySem.Challenge.pw_pocketmill_k46_whole_put_into_queues 11 ((some (.ref 6))) env0 ⟨0,0,0,0⟩ ⟨0,0,0,0⟩ 12 1 w os)).abs=HD.SB PySem.Challenge.pw_pocketmill_k46_whole_put_into_queues 11 ((some (.ref 6))) env0 ⟨0,0,0,0⟩ ⟨0,0,0,0⟩ 12 1 w os:=by kernel_rfl
theorem t_C (w:World) (os:OsState):(HD.C PySem.Challenge.pw_pocketmill_k46_whole_put_into_queues 11 ((some (.ref 6))) env0 ⟨0,0,0,0⟩ ⟨0,0,0,0⟩ ⟨0,0,0,0⟩ 12 1 3839 w os).map (λr=>(r.1,r.2.2))=some (.next,HD.cd PySem.Challenge.pw_pocketmill_k46_whole_put_into_queues env0,⟨278,0,309,75⟩):=by kernel_rfl
theorem t_F (w:World) (s:Shared):PySem.W.topRun treeTable PySem.Challenge.pw_pocketmill_k46_whole_put_into_queues w 11 (some (.ref 6)) 2 s ⟨PySem.W.doneF .next,HD.cd PySem.Challenge.pw_pocketmill_k46_whole_put_into_queues env0,⟨278,0,309,75⟩,[PySem.W.topFrame ⟨0,0,0,0⟩]⟩=some s:=by kernel_rfl
noncomputable abbrev FF (w:World) (os:OsState):Shared:=(HD.SC PySem.Challenge.pw_pocketmill_k46_whole_put_into_queues 11 ((some (.ref 6))) env0 ⟨0,0,0,0⟩ ⟨0,0,0,0⟩ ⟨0,0,0,0⟩ 12 1 3839 w os).abs
abbrev XT (s:Shared):Bool:=PySem.W.xlAt Q [] s&&PySem.W.recOk PySem.Challenge.rw_pocketmill_k46_whole_put_into_queues.row.records s
theorem MD (w:World) (os:OsState):(PySem.W.staticsOk (importedModules PySem.Challenge.pw_pocketmill_k46_whole_put_into_queues.main.body) (PySem.W.boot_heap w.params) (FF w os).heap&&PySem.W.namesBound PySem.Challenge.pw_pocketmill_k46_whole_put_into_queues (FF w os).heap&&PySem.W.gensDone (FF w os)&&PySem.W.laidKept (PySem.W.boot_heap w.params) (FF w os).heap)=true:=by
 rw[PySem.W.Fast.te5923862056798008813];kernel_rfl
theorem ME (w:World) (os:OsState):PySem.W.openSeen Q [] (importedModules PySem.Challenge.pw_pocketmill_k46_whole_put_into_queues.main.body) XT true (FF w os)=PySem.W.openGood Q []:=by
 rw[PySem.W.Fast.te5923862056798008813,PySem.W.Fast.te4187177175401517315];kernel_rfl
theorem MF (w:World) (os:OsState):adr.map (FF w os).heap.get?=(KK w.params).map λp=>some p.2:=by kernel_rfl
theorem t_left:PySem.W.LeftO PySem.Challenge.pw_pocketmill_k46_whole_put_into_queues Q [] XT (PySem.W.Hook.obs (PySem.W.kHook KK adr adr_ok)) (PySem.W.Hook.val (PySem.W.kHook KK adr adr_ok)) NN:=
 HD.left_of HN HP (HD.run_of t_A t_B t_T t_C t_F) (by decide) λw os=>by rw[MD w os,ME w os];exact congrArg (λz=>(true,PySem.W.openGood Q [],z)) (MF w os)
theorem jU (P:Params):qr (KK P) "Mill" "__init__" "Mill.__init__" aR:=GT (Ca:=203) (f:=186) (oc:=(.type "function")) (od:=none) (an:=none) (osl:=#[]) (kV:=.none) (doc:=.none) (pm:=(.str "pocketmill.mills" 351)) (cdv:=(.ref 185)) (ct:=.none) (by kernel_rfl) (by kernel_rfl) (by kernel_rfl) (by kernel_rfl) (by kernel_rfl) (by kernel_rfl)
theorem oy (P:Params):qr (KK P) "Mill" "many" "Mill.many" bY:=GT (Ca:=203) (f:=200) (oc:=(.type "function")) (od:=none) (an:=none) (osl:=#[]) (kV:=.none) (doc:=.none) (pm:=(.str "pocketmill.mills" 351)) (cdv:=(.ref 199)) (ct:=.none) (by kernel_rfl) (by kernel_rfl) (by kernel_rfl) (by kernel_rfl) (by kernel_rfl) (by kernel_rfl)
theorem nQ (P:Params):qr (KK P) "Mill" "codes" "Mill.codes" bN:=GT (Ca:=203) (f:=193) (oc:=(.type "function")) (od:=none) (an:=none) (osl:=#[]) (kV:=.none) (doc:=.none) (pm:=(.str "pocketmill.mills" 351)) (cdv:=(.ref 192)) (ct:=.none) (by kernel_rfl) (by kernel_rfl) (by kernel_rfl) (by kernel_rfl) (by kernel_rfl) (by kernel_rfl)
theorem tx (P:Params):Tx (KK P):=⟨tdG 143 mN3 351 142,tdG 157 mN3 351 156,tdG 162 mN3 351 161,tdG 174 mN3 351 173,tdG 167 mN3 351 166,tdG 150 mN3 351 149,tdG 214 mN3 351 213,tdG 276 mN4 536 275,tdG 281 mN4 536 280,tdG 219 mN3 351 218,tdG 226 mN3 351 225,tdG 233 mN3 351 232,tdG 238 mN3 351 237,tdG 269 mN3 351 268,tdG 288 mN4 536 287,tdG 293 mN4 536 292,tdG 310 mN1 586 309,tdG 320 mN2 600 319,tdG 327 mN2 600 326,tdG 334 mN2 600 333,tdG 298 mN4 536 297,tdG 305 mN4 536 304,tdG 315 mN1 586 314,tdG 341 mN2 600 340,tdG 353 mN2 600 352,tdG 245 mN3 351 244,tdG 252 mN3 351 251,tdG 259 mN3 351 258,tdG 264 mN3 351 263,tdG 346 mN2 600 345,tdG 360 mN2 600 359,tdG 365 mN2 600 364,tdG 372 mN0 668 371,tdG 379 mN0 668 378,tdG 384 mN0 668 383,tdG 391 mN0 668 390,tdG 396 mN0 668 395,tdG 401 mN0 668 400,tdG 406 mN0 668 405,tdG 418 mN0 668 417,tdG 423 mN0 668 422,tdG 430 mN0 668 429,tdG 437 mN0 668 436,tdG 444 mN0 668 443,tdG 449 mN0 668 448,jU P,oy P,nQ P,Mt (Ca:=203) (by kernel_rfl) (by kernel_rfl) (by kernel_rfl) (by kernel_rfl) (by kernel_rfl) (by kernel_rfl) (by kernel_rfl),tno (Ca:=203) (by kernel_rfl) (by kernel_rfl),J8 (a:=136) (od:=none) (n:=0) (sl:=#[]) (t0:=353) (t1:=354) (by kernel_rfl) (by kernel_rfl),xD (t:=356) (by kernel_rfl),xD (t:=358) (by kernel_rfl),xD (t:=360) (by kernel_rfl),xD (t:=362) (by kernel_rfl),xD (t:=364) (by kernel_rfl),xD (t:=538) (by kernel_rfl),(by kernel_rfl),(by kernel_rfl),(by kernel_rfl),(by kernel_rfl),(by kernel_rfl),(by kernel_rfl),(by kernel_rfl),(by kernel_rfl),(by kernel_rfl),(by kernel_rfl),(by kernel_rfl),(by kernel_rfl),(by kernel_rfl)⟩
section
variable {P:Program} {w:World} {K:Frag} {mg:Str->Option Value} {base h:Heap}
theorem gF {st} (z:K.In h/\h.Ns mainGlobals mg/\Tx K) (g:GbOk P w K mg base G) (k:Nat) (t:bi K x st) (S:FnScope N ps (aE st):=by exact scB) (b:cZ x st ps:=by first|exact bd1 rfl λ_ _ _ _ _ _ _ _=>rfl|exact bd2 rfl λ_ _ _ _ _ _ _ _ _=>rfl|exact bd3 rfl λ_ _ _ _ _ _ _ _ _ _=>rfl|exact bd4 rfl λ_ _ _ _ _ _ _ _ _ _ _=>rfl|exact bd5 rfl λ_ _ _ _ _ _ _ _ _ _ _ _=>rfl):GbOk P w K mg base (addF G x (k+1) (dfn 60 k N ps st G)):=g.addF (JU g z.1 z.2.1 60 k S b t)
variable (z:K.In h/\h.Ns mainGlobals mg/\Tx K)
include z
theorem g0:GbOk P w K mg base G0 where
 fn:=λx k f e=>nomatch e
 cn:=λx d e=>by
  simp only[G0]at e;split at e
  ·rename_i q;cases e;rw[q];exact cn_2str z.1 z.2.1 z.2.2.v50
  split at e
  ·rename_i q;cases e;rw[q];exact cn_int z.1 z.2.1 z.2.2.v51
  split at e
  ·rename_i q;cases e;rw[q];exact cn_int z.1 z.2.1 z.2.2.v52
  split at e
  ·rename_i q;cases e;rw[q];exact cn_int z.1 z.2.1 z.2.2.v53
  split at e
  ·rename_i q;cases e;rw[q];exact cn_int z.1 z.2.1 z.2.2.v54
  split at e
  ·rename_i q;cases e;rw[q];exact cn_int z.1 z.2.1 z.2.2.v55
  split at e
  ·rename_i q;cases e;rw[q];exact cn_int z.1 z.2.1 z.2.2.v56
  cases e
 no:=λx e=>by
  dsimp only[G0]at e;by_cases q:x=("all":Str)
  ·rw[q];exact PySem.W.mg_none_of z.1 z.2.1 z.2.2.v57
  rw[if_neg q]at e;clear q;by_cases q:x=("any":Str)
  ·rw[q];exact PySem.W.mg_none_of z.1 z.2.1 z.2.2.v58
  rw[if_neg q]at e;clear q;by_cases q:x=("bool":Str)
  ·rw[q];exact PySem.W.mg_none_of z.1 z.2.1 z.2.2.v59
  rw[if_neg q]at e;clear q;by_cases q:x=("enumerate":Str)
  ·rw[q];exact PySem.W.mg_none_of z.1 z.2.1 z.2.2.v60
  rw[if_neg q]at e;clear q;by_cases q:x=("int":Str)
  ·rw[q];exact PySem.W.mg_none_of z.1 z.2.1 z.2.2.v61
  rw[if_neg q]at e;clear q;by_cases q:x=("isinstance":Str)
  ·rw[q];exact PySem.W.mg_none_of z.1 z.2.1 z.2.2.v62
  rw[if_neg q]at e;clear q;by_cases q:x=("len":Str)
  ·rw[q];exact PySem.W.mg_none_of z.1 z.2.1 z.2.2.v63
  rw[if_neg q]at e;clear q;by_cases q:x=("list":Str)
  ·rw[q];exact PySem.W.mg_none_of z.1 z.2.1 z.2.2.v64
  rw[if_neg q]at e;clear q;by_cases q:x=("range":Str)
  ·rw[q];exact PySem.W.mg_none_of z.1 z.2.1 z.2.2.v65
  rw[if_neg q]at e;clear q;by_cases q:x=("reversed":Str)
  ·rw[q];exact PySem.W.mg_none_of z.1 z.2.1 z.2.2.v66
  rw[if_neg q]at e;clear q;by_cases q:x=("sorted":Str)
  ·rw[q];exact PySem.W.mg_none_of z.1 z.2.1 z.2.2.v67
  rw[if_neg q]at e;clear q;by_cases q:x=("tuple":Str)
  ·rw[q];exact PySem.W.mg_none_of z.1 z.2.1 z.2.2.v68
  rw[if_neg q]at e;clear q;by_cases q:x=("zip":Str)
  ·rw[q];exact PySem.W.mg_none_of z.1 z.2.1 z.2.2.v69
  rw[if_neg q]at e;clear q;cases e
 fl:=λC m Ca e hc=>by
  simp only[G0]at e;split at e
  ·rename_i q;rw[q.1]at hc;exact⟨C7 z.2.2.v48 hc,fl_one z.2.2.v49 q.2 Ca hc⟩
  cases e
 mt:=λm C k f e=>nomatch e
 ini:=λC k g e=>nomatch e
theorem g1:GbOk P w K mg base G1:=gF z (g0 z) 0 z.2.2.v0
theorem g2:GbOk P w K mg base G2:=gF z (g1 z) 1 z.2.2.v1
theorem g3:GbOk P w K mg base G3:=gF z (g2 z) 2 z.2.2.v2
theorem g4:GbOk P w K mg base G4:=gF z (g3 z) 3 z.2.2.v3
theorem g5:GbOk P w K mg base G5:=gF z (g4 z) 4 z.2.2.v4
theorem g6:GbOk P w K mg base G6:=by
 have g:GbOk P w K mg base G5:=g5 z;exact g.addI (JV g z.1 z.2.1 60 5 (G0.fl "Mill") i7 jJ z.2.2.v48 z.2.2.v45 (λf e=>by
  simp only[G0]at e;split at e
  ·rename_i q;exact fl_one z.2.2.v49 q.2
  cases e) (λds r hr y=>by
  rw[show(λy=>inx 60 (zT c4 aR 5 G5) y (G0.fl "Mill") (bj aR))=mV bS from funext jK];exact uH ds r hr y))
theorem g7:GbOk P w K mg base G7:=gF z (g6 z) 6 z.2.2.v5
theorem g8:GbOk P w K mg base G8:=by
 have g:GbOk P w K mg base G7:=g7 z;exact g.addM (D2 g 60 7 nw n9 z.2.2.v48 z.2.2.v46)
theorem g9:GbOk P w K mg base G9:=gF z (g8 z) 8 z.2.2.v6
theorem g10:GbOk P w K mg base G10:=gF z (g9 z) 9 z.2.2.v7
theorem g11:GbOk P w K mg base G11:=gF z (g10 z) 10 z.2.2.v8
theorem g12:GbOk P w K mg base G12:=gF z (g11 z) 11 z.2.2.v9
theorem g13:GbOk P w K mg base G13:=gF z (g12 z) 12 z.2.2.v10
theorem g14:GbOk P w K mg base G14:=gF z (g13 z) 13 z.2.2.v11
theorem g15:GbOk P w K mg base G15:=gF z (g14 z) 14 z.2.2.v12
theorem g16:GbOk P w K mg base G16:=gF z (g15 z) 15 z.2.2.v13
theorem g17:GbOk P w K mg base G17:=gF z (g16 z) 16 z.2.2.v14
theorem g18:GbOk P w K mg base G18:=gF z (g17 z) 17 z.2.2.v15
theorem g19:GbOk P w K mg base G19:=gF z (g18 z) 18 z.2.2.v16
theorem g20:GbOk P w K mg base G20:=gF z (g19 z) 19 z.2.2.v17
theorem g21:GbOk P w K mg base G21:=gF z (g20 z) 20 z.2.2.v18
theorem g22:GbOk P w K mg base G22:=gF z (g21 z) 21 z.2.2.v19
theorem g23:GbOk P w K mg base G23:=gF z (g22 z) 22 z.2.2.v20
theorem g24:GbOk P w K mg base G24:=gF z (g23 z) 23 z.2.2.v21
theorem g25:GbOk P w K mg base G25:=gF z (g24 z) 24 z.2.2.v22
theorem g26:GbOk P w K mg base G26:=gF z (g25 z) 25 z.2.2.v23
theorem g27:GbOk P w K mg base G27:=gF z (g26 z) 26 z.2.2.v24
theorem g28:GbOk P w K mg base G28:=gF z (g27 z) 27 z.2.2.v25
theorem g29:GbOk P w K mg base G29:=gF z (g28 z) 28 z.2.2.v26
theorem g30:GbOk P w K mg base G30:=by
 have g:GbOk P w K mg base G29:=g29 z;exact g.addM (D2 g 60 29 lK nH z.2.2.v48 z.2.2.v47)
theorem g31:GbOk P w K mg base G31:=gF z (g30 z) 30 z.2.2.v27
theorem g32:GbOk P w K mg base G32:=gF z (g31 z) 31 z.2.2.v28
theorem g33:GbOk P w K mg base G33:=gF z (g32 z) 32 z.2.2.v29
theorem g34:GbOk P w K mg base G34:=gF z (g33 z) 33 z.2.2.v30
theorem g35:GbOk P w K mg base G35:=gF z (g34 z) 34 z.2.2.v31
theorem g36:GbOk P w K mg base G36:=gF z (g35 z) 35 z.2.2.v32
theorem g37:GbOk P w K mg base G37:=gF z (g36 z) 36 z.2.2.v33
theorem g38:GbOk P w K mg base G38:=gF z (g37 z) 37 z.2.2.v34
theorem g39:GbOk P w K mg base G39:=gF z (g38 z) 38 z.2.2.v35
theorem g40:GbOk P w K mg base G40:=gF z (g39 z) 39 z.2.2.v36
theorem g41:GbOk P w K mg base G41:=gF z (g40 z) 40 z.2.2.v37
theorem g42:GbOk P w K mg base G42:=gF z (g41 z) 41 z.2.2.v38
theorem g43:GbOk P w K mg base G43:=gF z (g42 z) 42 z.2.2.v39
theorem g44:GbOk P w K mg base G44:=gF z (g43 z) 43 z.2.2.v40
theorem g45:GbOk P w K mg base G45:=gF z (g44 z) 44 z.2.2.v41
theorem g46:GbOk P w K mg base G46:=gF z (g45 z) 45 z.2.2.v42
theorem g47:GbOk P w K mg base G47:=gF z (g46 z) 46 z.2.2.v43
end
theorem fin {K} (X:K.In h) (hN:h.Ns mainGlobals mg) (hfa:mg "law"=some (.ref fa)) (T:Tx K):
  ∃fd:FuncData,(∀ (s:Shared) (v:Value),BindsTo s fd ⟨[v],[]⟩ [("script",v)])/\∀base:Heap,K.In base->base.Ns mainGlobals mg->FnOk P w K mg base CX0 48 fa fd ["script"] (spL K):=
 GS 60 47 X hN hfa Bb DA T.v44 (λbase KB hB=>g47 ⟨KB,hB,T⟩) KS
end K42
open PySem PySem.W PyProof.Rows
set_option maxRecDepth 100000 in
set_option maxHeartbeats 0 in
theorem PySem.Challenge.cw_pocketmill_k46_whole_put_into_queues_holds : PySem.Challenge.rw_pocketmill_k46_whole_put_into_queues.Holds := by
  refine holds_law (by kernel_rfl) fun said=>?_
  refine holds_open (q:=K42.Q) (loose:=[]) (Xt:=K42.XT) (XP:=XL K42.Q []) (Yf:=Hook.obs (kHook K42.KK K42.adr K42.adr_ok)) (Ya:=Hook.val (kHook K42.KK K42.adr K42.adr_ok)) (YP:=Hook.says (kHook K42.KK K42.adr K42.adr_ok)) (N:=K42.NN) K42.t_left (Hook.of _) (Hook.keeps _) (fun s e=>xl_of s (Bool.and_eq_true_iff.mp e).1) XL.keeps (by rfl) (by rfl) (by rfl) (fun s e=>recFacts_of (Bool.and_eq_true_iff.mp e).2) (by rfl) (by first | assumption | decide +kernel) (by decide +kernel) ⟨rfl,rfl,rfl,rfl,rfl,by decide +kernel⟩ ?hw ?hc
  case hw=>w_witness2
  case hc =>
  refine L2.walkL (l:=PySem.Challenge.rw_pocketmill_k46_whole_put_into_queues) (k:=48) rfl rfl ⟨rfl,by decide,by decide⟩ (fun w h ρ=>PySem.W.kIn_of ρ) ?F
  case F =>
  intro w mg fa h KX G hmg
  exact K42.fin KX G hmg (K42.tx w.params)
#print axioms PySem.Challenge.cw_pocketmill_k46_whole_put_into_queues_holds
